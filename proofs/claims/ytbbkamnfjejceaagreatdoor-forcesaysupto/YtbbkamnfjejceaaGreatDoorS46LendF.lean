/- raftersame's Lend at forces. -/
import Derived.Test.YtbbkamnfjejceaaGreatDoorS45LawG
import Derived.ProofKit
import Derived.OpenShut
import Derived.Carry
import Derived.Lib.LaidTab
import Derived.Shelf.LaysM
import Derived.Deep.RegionLaw
import Derived.Deep.Upon
import Derived.Laws.OwnMore
namespace Go.Proofs.YtbbkamnfjejceaaGreatDoor
open Go.ChangeShapes Go.WideShapes Go.ChangeAt Go.RowKit
set_option linter.unusedVariables false
set_option linter.unusedSimpArgs false
theorem own:ownKnob Tryz.prog.godebug=none:=by kernel_rfl
theorem Qel:laidOutB Tryz.prog=true:=by kernel_rfl
theorem Qem{H:Type}{d:DataW H}{l:List (DataW H)}(h:d∈ l):Rows.uptoBulk d≤Rows.uptoBulkAll l:=by
 induction l with
 |nil=>cases h
 |cons x r ih=>
  simp only[Rows.uptoBulkAll];rcases List.mem_cons.1 h with rfl|h
  · omega
  · have:=ih h;omega
theorem Qn5{H:Type}(l r:List (DataW H)):Rows.uptoBulkAll l≤Rows.uptoBulk (.slice l r):=by
 simp only[Rows.uptoBulk];omega
theorem Qby{P:Program}{W:World}{x:String × DataW Unit}{l:List (String × DataW Unit)}(h:laidMet P (x :: l) W):laidMet P l W:=by
 obtain⟨ps,⟨g,t,cs,fuel,p,q,_,_,_,_,hl,rfl⟩,hn,hc⟩:=h;exact⟨q,hl,(List.nodup_append.1 hn).2.1,fun b off hm=>hc b off (List.mem_append.2 (.inr hm))⟩
theorem gTen:Tryz.prog.globalNamed "internal/strconv.uint64pow10" =some 9:=by kernel_rfl
theorem Qn6:(Tryz.prog.globals[9]?).map (·.type)=some 293:=by kernel_rfl
theorem Qn7:Tryz.prog.cellsOf 293=20:=by kernel_rfl
theorem Qn8:Tryz.prog.cellsOf 146=1:=by kernel_rfl
theorem Qn9:(Rows.laid_internal_strconv_uint64pow10:DataW Unit)=Lib.tabData .u64 Lib.pow10Tab:=by kernel_rfl
theorem Qoa{W:World}{rest:List (String × DataW Unit)}(h:laidMet Tryz.prog (("internal/strconv.uint64pow10",Rows.laid_internal_strconv_uint64pow10) :: rest) W):Tab W:=by
 rw[Qn9] at h;exact Lib.tabIs_of_head gTen Qn6 Tryz.underlying293 Tryz.underlying146 Qn8 Qn7 h
theorem Qob{W:World}(h:W.ShapedOpen Tryz.prog):∃m,W.cell? ⟨4,0,none⟩=some (.int .i64 m):=
 cell_of_shapedOpen_int (zero:=#[.int .i64 0]) (t:=3) h (of_decide_eq_true (by kernel_rfl)) (by kernel_rfl) rfl (by kernel_rfl) (by kernel_rfl) Tryz.underlying3
def flat1:DataW Unit→List Value
 | .lit (.int k z)=>[.int k z]
 | .lit (.string bs)=>[.string ⟨bs.toArray⟩]
 |_=>[]
def flat2:DataW Unit→List Value
 | .agg ps=>ps.flatMap flat1
 |d=>flat1 d
def flat3:DataW Unit→List Value
 | .agg ps=>ps.flatMap flat2
 |d=>flat1 d
def put(g:Nat)(d:DataW Unit)(w:World):World:={ w with heap:=w.heap.modify g fun
 | .cells _ t frozen=>.cells (flat3 d).toArray t frozen
 |o=>o }
theorem Qhq:Tryz.prog.readableRec 22=true:=by kernel_rfl
theorem Qoc:Tryz.prog.readableRec 25=true:=by kernel_rfl
theorem manyTypes:22<Tryz.prog.types.size∧25<Tryz.prog.types.size:=by constructor<;>(refine of_decide_eq_true ?_;kernel_rfl)
theorem Qod{H:Type}(fs:List F4):7*fs.length≤Rows.uptoBulkAll (fs.map (forceD (H:=H))):=by
 induction fs with
 |nil=>simp[Rows.uptoBulkAll]
 |cons f l ih=>
  have:=Qdz (H:=H) f;simp only[List.map_cons,Rows.uptoBulkAll,List.length_cons];omega
section
variable {H:Type} {enc:TypeId × Value→H} {W:World}
theorem Qhr{a:Option Addr}{len cap:Nat}{d:DataW H}{ps:List MemPlace}(hb:Rows.uptoBulk d≤1048576)
 (h:DataW.Trod enc Tryz.prog W 0 (fun _=>true) true 22 (.slice a len cap) d ps):
 ∃fs:List F4,len=fs.length∧FRow W a cap fs∧(fs.length≤60→Sized fs)∧fs.length≤1048576∧∀f,f∈ fs→sz f≤1048576:=by
 obtain⟨fuel,h⟩:=h;obtain⟨a',cap',fs,e,hr,hl,hs⟩:=Qlb Tryz.underlying22 Tryz.underlying29 Tryz.underlying25 Tryz.underlying23 Qge Qef Qee rfl rfl rfl rfl rfl rfl rfl rfl h;have e': [Value.slice a len cap]= [Value.slice a' fs.length cap']:=e;simp only[List.cons.injEq,and_true,Value.slice.injEq] at e';obtain⟨rfl,rfl,rfl⟩:=e';have hall:Rows.uptoBulkAll (fs.map (forceD (H:=H)))≤1048576:=by
  rcases hs with ⟨rfl,_⟩|⟨l,r,hd⟩
  · simp[Rows.uptoBulkAll]
  ·
   have:=hl l r hd;simp only at hd;subst hd;rw[←this];exact Nat.le_trans (Qn5 l r) hb
 have hc:=Qod (H:=H) fs;exact⟨fs,rfl,hr,fun h60=>Sized.of_bulk hall h60,by omega,fun f hf=>Nat.le_trans (Qgd (H:=H) fs f hf) hall⟩
theorem Qoe{cs:Array Value}{d:DataW H}{ps:List MemPlace}(hb:Rows.uptoBulk d≤1048576)
 (h:DataW.Trod enc Tryz.prog W 0 (fun _=>true) true 25 (.agg cs) d ps):
 ∃s t:ByteArray,cs=#[.string s,.string t]∧s.size≤1048576∧t.size≤1048576:=by
 obtain⟨fuel,h⟩:=h;obtain⟨s,t,e,hd,_⟩:=Qeg Tryz.underlying25 Tryz.underlying23 Qef Qee rfl rfl rfl rfl h;simp only at hd;subst hd;have e':cs.toList= [.string s,.string t]:=e;refine⟨s,t,by rw[←Array.toArray_toList (xs:=cs),e'],?_,?_⟩
 ·
  simp[Rows.uptoBulk,Rows.uptoBulkAll] at hb;have:s.data.toList.length=s.size:=by simp
  omega
 ·
  simp[Rows.uptoBulk,Rows.uptoBulkAll] at hb;have:t.data.toList.length=t.size:=by simp
  omega
end
def tabled(w:World):World:=
 put 10 Rows.laid_math_bits_deBruijn32tab (put 11 Rows.laid_math_bits_deBruijn64tab (put 9 Rows.laid_internal_strconv_uint64pow10
  (put 6 Rows.laid_unicode_utf8_acceptRanges (put 5 Rows.laid_unicode_utf8_first (put 0 Rows.laid_rafter_raftersame_Force w)))))
end Go.Proofs.YtbbkamnfjejceaaGreatDoor
namespace Go.Proofs.YtbbkamnfjejceaaGreatDoor
open Go.RowKit
set_option linter.unusedVariables false
set_option linter.unusedSimpArgs false
structure CRow (w:World) (a:Option Addr) (xs:List Value):Prop where
 cell:∀j u,xs[j]?=some u→∃b off,a=some ⟨b,off,none⟩∧b<w.heap.size∧w.cell? ⟨b,off+j,none⟩=some u
theorem CRow.below{w w':World}{a:Option Addr}{xs:List Value}(h:CRow w a xs)(hb:Below w.heap.size w w'):CRow w' a xs:=by
 refine⟨fun j u hj=>?_⟩;obtain⟨b,off,h1,h2,h3⟩:=h.cell j u hj;exact⟨b,off,h1,by have:=hb.size;omega,(hb.cell (p:=⟨b,off+j,none⟩) h2).trans h3⟩
section
variable {P:Program} {t e:TypeId} {i:TypeInfo} {size:Nat}
theorem Qgg(b off j:Nat):Addr.add ⟨b,off,none⟩ j=⟨b,off+j,none⟩:=by
 unfold Addr.add;by_cases hj:j=0<;>simp[hj]
theorem Qlc(ht:P.underlying t=some (.slice e))(hi:P.info? e=some i)(hsize:i.size=size)(h0:0<size){w:World}{g c base n cap:Nat}{a:Option Addr}{xs:List Value}
 (hown:w.ownsRow base e size (.slice (some ⟨g,0,none⟩) 0 c) 0 []) (hx:CRow w a xs) (hl:xs.length=n*size) (h1:∀u∈ xs,u.oneCell'=true) (hroom:n≤c) (ty:TypeId):
 ∃w',(Builtin.append_ #[t,t] ty #[.slice (some ⟨g,0,none⟩) 0 c,.slice a n cap]).run P w=.ok (.slice (some ⟨g,0,none⟩) n c) w'∧w'.ownsRow base e size (.slice (some ⟨g,0,none⟩) n c) n xs∧w.grownBy w' (some g):=by
 cases a with
 |none=>
  have hnil:xs= []:=by
   cases xs with
   |nil=>rfl
   |cons u l=>
    obtain⟨b,off,h,_⟩:=hx.cell 0 u rfl;cases h
  subst hnil;have hn:n=0:=by
   rcases Nat.eq_zero_or_pos n with h|h
   · exact h
   ·
    have:=Nat.mul_pos h h0;simp at hl;omega
  subst hn;have hs:Src P i.size t (.slice none 0 cap) 0 [] w:=Src.ofNil w ht cap;exact⟨w,run_append_nothing w t t ty e i ht hi _ 0 c (Nat.zero_le _) _ hs,hown,⟨rfl,rfl,rfl,Nat.le_refl _,fun _ _ _=>rfl⟩⟩
 |some ad=>
  have hnews:∀j u,xs[j]?=some u→w.cell? (ad.add j)=some u:=by
   intro j u hj;obtain⟨b,off,h,_,hc⟩:=hx.cell j u hj;cases h;rw[Qgg];exact hc
  have:=run_append_fits w base t ty e i size ht hi hsize g 0 c [] hown ad n cap xs hl hnews h1 (by omega)
  simpa using this
theorem Qgh{ops:Array Oper}{o:Oper}{a:Act}{w:World}{K:Act→World→Prop}{Q:Exit→Act→World→Prop}{E:Prop}
 (hg:o.guard=none) (s x:Operand) (hop:o.op=Op.call { callee:=Callee.builtin Builtin.append,args:=#[s,x],argTypes:=#[t,t] })
 {vs vx v:Value} {w':World} (hs:a.eval s=vs) (hx:a.eval x=vx) (hrun:(Builtin.append_ #[t,t] o.type #[vs,vx]).run P w=.ok v w') (hK:K (a.put o.dst v) w'):
 if Region.wanted o (yielded ops a.tmps)=true then Oper.wp P o a w K Q else E:=by
 have hw:Region.wanted o (yielded ops a.tmps)=true:=by simp[Region.wanted,hg]
 rw[if_pos hw];unfold Oper.wp;simp[execOp,hop,resolve,invoke,builtin,hs,hx,hrun,Result.andThen];exact hK
theorem Qd0(ht:P.underlying t=some (.slice e))(hi:P.info? e=some i)(hsize:i.size=size)(h0:0<size){ops:Array Oper}{o:Oper}{a:Act}{w:World}{K:Act→World→Prop}{Q:Exit→Act→World→Prop}{E:Prop}
 (hg:o.guard=none) (s x:Operand) (hop:o.op=Op.call { callee:=Callee.builtin Builtin.append,args:=#[s,x],argTypes:=#[t,t] })
 {g c n cap:Nat} (base:Nat) {ad:Option Addr} {xs:List Value} (hs:a.eval s=.slice (some ⟨g,0,none⟩) 0 c) (hx:a.eval x=.slice ad n cap)
 (hown:w.ownsRow base e size (.slice (some ⟨g,0,none⟩) 0 c) 0 []) (hr:CRow w ad xs) (hl:xs.length=n*size) (h1:∀u∈ xs,u.oneCell'=true) (hroom:n≤c)
 (hK:∀w',w'.ownsRow base e size (.slice (some ⟨g,0,none⟩) n c) n xs→w.grownBy w' (some g)→K (a.put o.dst (.slice (some ⟨g,0,none⟩) n c)) w'):
 if Region.wanted o (yielded ops a.tmps)=true then Oper.wp P o a w K Q else E:=by
 obtain⟨w',hrun,h2,h3⟩:=Qlc ht hi hsize h0 (cap:=cap) hown hr hl h1 hroom o.type;exact Qgh hg s x hop hs hx hrun (hK w' h2 h3)
theorem Qgi(ht:P.underlying t=some (.slice e))(hi:P.info? e=some i)(hsize:i.size=size){ops:Array Oper}{o:Oper}{a:Act}{w:World}{K:Act→World→Prop}{Q:Exit→Act→World→Prop}{E:Prop}
 (hg:o.guard=none) (s x:Operand) (hop:o.op=Op.call { callee:=Callee.builtin Builtin.append,args:=#[s,x],argTypes:=#[t,t] })
 {g c n m cap gb:Nat} (base:Nat) {xs news:List Value} (hs:a.eval s=.slice (some ⟨g,0,none⟩) n c) (hx:a.eval x=.slice (some ⟨gb,0,none⟩) m cap)
 (hown:w.ownsRow base e size (.slice (some ⟨g,0,none⟩) n c) n xs) (hl:news.length=m*size) (hr:∀j u,news[j]?=some u→w.cell? ⟨gb,j,none⟩=some u) (h1:∀u∈ news,u.oneCell'=true) (hroom:n+m≤c)
 (hK:∀w',w'.ownsRow base e size (.slice (some ⟨g,0,none⟩) (n+m) c) (n+m) (xs++news)→w.grownBy w' (some g)→K (a.put o.dst (.slice (some ⟨g,0,none⟩) (n+m) c)) w'):
 if Region.wanted o (yielded ops a.tmps)=true then Oper.wp P o a w K Q else E:=by
 obtain⟨w',hrun,h2,h3⟩:=run_append_fits w base t o.type e i size ht hi hsize g n c xs hown ⟨gb,0,none⟩ m cap news hl (fun j u hj=>by rw[Qgg];simpa using hr j u hj) h1 hroom;exact Qgh hg s x hop hs hx hrun (hK w' h2 h3)
end
theorem Below.ofGrown{B:Nat}{a w w':World}{g:Nat}(h:Below B a w)(hg:w.grownBy w' (some g))(hB:B≤w.heap.size)(hr:B≤g):Below B a w':=
 h.grown hg hB (fun k hk=>by cases hk;exact hr)
theorem Qaf{w w':World}{g:Nat}(hg:w.grownBy w' (some g)){p:Addr}(hp:p.block<w.heap.size)(hne:p.block≠g):w'.cell? p=w.cell? p:=
 World.cell?_of_block (hg.block p.block hp (by simpa using hne))
def F4.cells(f:F4):List Value:=[.string f.ax,.string f.ay,.string f.wx,.string f.wy]
def flatF(fs:List F4):List Value:=fs.flatMap F4.cells
theorem Qb6(f:F4)(l:List F4):flatF (f :: l)=.string f.ax :: .string f.ay :: .string f.wx :: .string f.wy :: flatF l:=rfl
theorem Qld(l m:List F4):flatF (l++m)=flatF l++flatF m:=List.flatMap_append
theorem Qd1(fs:List F4):(flatF fs).length=fs.length*4:=by
 induction fs with
 |nil=>rfl
 |cons f l ih=>rw[Qb6];simp[ih];omega
theorem Qb7(fs:List F4):∀u∈ flatF fs,u.oneCell'=true:=by
 induction fs with
 |nil=>intro u h;cases h
 |cons f l ih=>
  intro u h;rw[Qb6] at h;simp only[List.mem_cons] at h;rcases h with rfl|rfl|rfl|rfl|h
  · rfl
  · rfl
  · rfl
  · rfl
  · exact ih u h
theorem Qgj:∀(fs:List F4) (i:Nat) (f:F4),fs[i]?=some f→(flatF fs)[i*4]?=some (.string f.ax)∧(flatF fs)[i*4+1]?=some (.string f.ay)∧(flatF fs)[i*4+2]?=some (.string f.wx)∧(flatF fs)[i*4+3]?=some (.string f.wy)
 | [],i,f,h=>by simp at h
 |g :: l,0,f,h=>by
  obtain rfl:g=f:=by simpa using h
  simp[Qb6]
 |g :: l,i+1,f,h=>by
  have:=Qgj l i f (by simpa using h);rw[Qb6,Nat.succ_mul]
  simpa using this
theorem Qgk:∀(fs:List F4) (j:Nat) (u:Value),(flatF fs)[j]?=some u→∃i f k,fs[i]?=some f∧j=i*4+k∧f.cells[k]?=some u
 | [],j,u,h=>by simp[flatF] at h
 |g :: l,j,u,h=>by
  rw[Qb6] at h
  match j with
  |0=>exact⟨0,g,0,rfl,rfl,h⟩
  |1=>exact⟨0,g,1,rfl,rfl,h⟩
  |2=>exact⟨0,g,2,rfl,rfl,h⟩
  |3=>exact⟨0,g,3,rfl,rfl,h⟩
  |j+4=>
   obtain⟨i,f,k,h1,h2,h3⟩:=Qgk l j u (by simpa using h);exact⟨i+1,f,k,by simpa using h1,by omega,h3⟩
theorem FRow.crow{w:World}{a:Option Addr}{cap:Nat}{fs:List F4}(h:FRow w a cap fs):CRow w a (flatF fs):=by
 refine⟨fun j u hj=>?_⟩;obtain⟨i,f,k,h1,rfl,h3⟩:=Qgk fs j u hj;obtain⟨b,off,ha,hb,c0,c1,c2,c3⟩:=h.cell i f h1;refine⟨b,off,ha,hb,?_⟩
 match k with
 |0=>obtain rfl:=Option.some.inj h3;simpa using c0
 |1=>obtain rfl:=Option.some.inj h3;simpa [Nat.add_assoc] using c1
 |2=>obtain rfl:=Option.some.inj h3;simpa [Nat.add_assoc] using c2
 |3=>obtain rfl:=Option.some.inj h3;simpa [Nat.add_assoc] using c3
 |k+4=>simp[F4.cells] at h3
theorem CRow.frow{w:World}{a:Option Addr}{cap:Nat}{fs:List F4}(h:CRow w a (flatF fs))(hc:fs.length≤cap):FRow w a cap fs:=by
 refine⟨hc,fun i f hi=>?_⟩;obtain⟨h0,h1,h2,h3⟩:=Qgj fs i f hi;obtain⟨b,off,rfl,hb,c0⟩:=h.cell _ _ h0;obtain⟨b1,o1,e1,_,c1⟩:=h.cell _ _ h1;obtain⟨b2,o2,e2,_,c2⟩:=h.cell _ _ h2;obtain⟨b3,o3,e3,_,c3⟩:=h.cell _ _ h3;cases e1;cases e2;cases e3;exact⟨b,off,rfl,hb,c0,by simpa [Nat.add_assoc] using c1,by simpa [Nat.add_assoc] using c2,by simpa [Nat.add_assoc] using c3⟩
theorem Qle{w:World}{base e size g n c:Nat}{xs:List Value}(h:w.ownsRow base e size (.slice (some ⟨g,0,none⟩) n c) n xs):CRow w (some ⟨g,0,none⟩) xs:=by
 refine⟨fun j u hj=>⟨g,0,rfl,(h.lt g rfl).2,?_⟩⟩;have hl:=h.1;have hj':=(List.getElem?_eq_some_iff.1 hj).1;rw[Nat.zero_add,h.cellAt j (by omega)];exact hj
theorem Qgl:(Tryz.prog.info? 29).map (fun i=>(i.zero,i.size,i.bytes))=some (some (.agg #[.string ⟨#[]⟩,.string ⟨#[]⟩,.string ⟨#[]⟩,.string ⟨#[]⟩]),4,64):=by kernel_rfl
theorem Qlf(n:Nat)(hn:n≤1048576):∃MC:Array Value,MC.size=(n+3)*4∧∀w,(Instr.makeSlice 22 (.int .i64 0) (.int .i64 (IntKind.i64.wrap ((n:Int)+3)))).run Tryz.prog w=.ok (.slice (some ⟨w.heap.size,0,none⟩) 0 (n+3)) (w.alloc (.cells MC 29)):=by
 obtain⟨i,hi,h⟩:=Option.map_eq_some_iff.1 Qgl;simp only[Prod.mk.injEq] at h;obtain⟨hz,hs,hb⟩:=h;refine⟨madeCells (Value.cells (.agg #[.string ⟨#[]⟩,.string ⟨#[]⟩,.string ⟨#[]⟩,.string ⟨#[]⟩])) ((n+3)*4),size_madeCells _ _,fun w=>?_⟩;have:=run_make w 22 29 i _ Tryz.underlying22 hi hz .i64 .i64 0 ((n:Int)+3) (by omega) (by omega) (by rw[hb];omega) (by omega);have e:((n:Int)+3).toNat=n+3:=by omega
 rw[e,hs] at this;rw[show IntKind.i64.wrap ((n:Int)+3)=(n:Int)+3 by rw[IntKind.wrap_i64];omega];exact this
set_option maxRecDepth 100000 in
set_option maxHeartbeats 4000000 in
theorem Qd2(a:Option Addr)(cap:Nat)(fs:List F4)(m0 m1 m2 m3:ByteArray)(w:World)(hf:FRow w a cap fs)(hn:fs.length≤1048576):
 Calls Tryz.prog 8 #[.slice a fs.length cap,.agg #[.string m0,.string m1,.string m2,.string m3]] w fun e w'=>∃g,e=.returned (.slice (some ⟨g,0,none⟩) fs.length (fs.length+3))∧FRow w' (some ⟨g,0,none⟩) (fs.length+3) (fs++ [⟨m0,m1,m2,m3⟩,⟨m0,m1,m2,m3⟩,⟨m0,m1,m2,m3⟩])∧Below w.heap.size w w':=by
 have HC:=Hi hf.crow;obtain⟨MC,hMC,hmk⟩:=Qlf fs.length hn;have HMC:=Hi hMC;obtain⟨i,hi,h⟩:=Option.map_eq_some_iff.1 Qgl;simp only[Prod.mk.injEq] at h;obtain⟨hz,hs,hb⟩:=h;have HI:=Hi hi;have HS:=Hi hs;clear hz hb hi hs hMC hf;go_enter Tryz.func8,Tryz.ntmps8;go_wp2_with fail;obtain⟨W,hW⟩:∃W,w.alloc (.cells #[.string m0,.string m1,.string m2,.string m3] 29)=W:=⟨_,rfl⟩;have HB0:Hid (Below w.heap.size w W):=Hi (by rw[←hW];exact(Below.refl _ _).alloc (Nat.le_refl _) _);have hsb:SB W w.heap.size 29 #[.string m0,.string m1,.string m2,.string m3]:=by rw[←hW];exact SB.new w _ _
 rw[hW];have hlt:=hsb.lt;have c0:W.cell? ⟨w.heap.size,0,none⟩=some (.string m0):=hsb.cell 0;have c1:W.cell? ⟨w.heap.size,1,none⟩=some (.string m1):=hsb.cell 1;have c2:W.cell? ⟨w.heap.size,2,none⟩=some (.string m2):=hsb.cell 2;have c3:W.cell? ⟨w.heap.size,3,none⟩=some (.string m3):=hsb.cell 3;clear hsb hW;obtain⟨MK,hMK⟩:∃MK:List F4,MK= [⟨m0,m1,m2,m3⟩,⟨m0,m1,m2,m3⟩,⟨m0,m1,m2,m3⟩]:=⟨_,rfl⟩;have HMK:=Hi hMK;have hBC:∀(X:World) (j:Nat) (u:Value),(flatF MK)[j]?=some u→(X.alloc (.cells #[.string m0,.string m1,.string m2,.string m3,.string m0,.string m1,.string m2,.string m3,.string m0,.string m1,.string m2,.string m3] 29)).cell? ⟨X.heap.size,j,none⟩=some u:=by
  intro X j u hj;rw[(SB.new X 29 #[.string m0,.string m1,.string m2,.string m3,.string m0,.string m1,.string m2,.string m3,.string m0,.string m1,.string m2,.string m3]).cell j];rw[hMK] at hj
  simpa [flatF,F4.cells] using hj
 have HBC:=Hi hBC;have HML:Hid ((flatF MK).length=3*4):=Hi (by rw[hMK];rfl);have HCW:=Hi (HC.out.below HB0.out);have hown:∀X:World,W.heap.size≤X.heap.size→(X.alloc (.cells MC 29)).ownsRow W.heap.size 29 4 (.slice (some ⟨X.heap.size,0,none⟩) 0 (fs.length+3)) 0 []:=fun X hX=>World.ownsRow_made X MC (fs.length+3) hX (by unfold maxLen;omega) HMC.out
 have HOW:=Hi hown;have HA:Hid (Below W.heap.size W (W.alloc (.cells MC 29)).drew):=Hi ((Below.refl _ _).alloc (Nat.le_refl _) _).drew;obtain⟨BC,hBCe⟩:∃BC:Array Value,BC=#[.string m0,.string m1,.string m2,.string m3,.string m0,.string m1,.string m2,.string m3,.string m0,.string m1,.string m2,.string m3]:=⟨_,rfl⟩;have HAX:Hid (Below W.heap.size W ((W.alloc (.cells #[.string m0,.string m1,.string m2,.string m3,.string m0,.string m1,.string m2,.string m3,.string m0,.string m1,.string m2,.string m3] 29)).alloc (.cells MC 29)).drew):=Hi ((((Below.refl _ _).alloc (Nat.le_refl _) _).alloc (by simp) _).drew);have HOX:Hid (((W.alloc (.cells #[.string m0,.string m1,.string m2,.string m3,.string m0,.string m1,.string m2,.string m3,.string m0,.string m1,.string m2,.string m3] 29)).alloc (.cells MC 29)).drew.ownsRow W.heap.size 29 4 (.slice (some ⟨W.heap.size+1,0,none⟩) 0 (fs.length+3)) 0 []):=Hi (by
  have:=hown (W.alloc (.cells #[.string m0,.string m1,.string m2,.string m3,.string m0,.string m1,.string m2,.string m3,.string m0,.string m1,.string m2,.string m3] 29)) (by simp);simp only[World.size_alloc] at this
  exact this)
 have HCX:=Hi (HCW.out.below HAX.out);have HBX:Hid (∀(j:Nat) (u:Value),(flatF MK)[j]?=some u→((W.alloc (.cells #[.string m0,.string m1,.string m2,.string m3,.string m0,.string m1,.string m2,.string m3,.string m0,.string m1,.string m2,.string m3] 29)).alloc (.cells MC 29)).drew.cell? ⟨W.heap.size,j,none⟩=some u):=Hi (fun j u hj=>by
  have h1:=hBC W j u hj;have h2:Below (W.alloc (.cells #[.string m0,.string m1,.string m2,.string m3,.string m0,.string m1,.string m2,.string m3,.string m0,.string m1,.string m2,.string m3] 29)).heap.size _ _:=(Below.refl _ (W.alloc (.cells #[.string m0,.string m1,.string m2,.string m3,.string m0,.string m1,.string m2,.string m3,.string m0,.string m1,.string m2,.string m3] 29))).alloc (Nat.le_refl _) (.cells MC 29)
  exact(h2.drew.cell (p:=⟨W.heap.size,j,none⟩) (by simp)).trans h1)
 clear hMK hBC hown hBCe BC;go_region_held3 (fun w'=>w'.cell? ⟨w.heap.size,0,none⟩=some (.string m0)∧w'.cell? ⟨w.heap.size,1,none⟩=some (.string m1)∧w'.cell? ⟨w.heap.size,2,none⟩=some (.string m2)∧w'.cell? ⟨w.heap.size,3,none⟩=some (.string m3)) ((first|(simp [*];done)|go_keep)) (first
  |(
   refine Qd0 Tryz.underlying22 HI.out HS.out (by decide) rfl (.tmp 9) (.tmp 10) rfl W.heap.size (xs:=flatF fs) rfl rfl (HOW.out W (Nat.le_refl _)) (HCW.out.below HA.out) (Qd1 fs) (Qb7 fs) (by omega) ?_;intro w1 hown1 hgr1;have HO1:=Hi hown1;have hs1:W.heap.size<w1.heap.size:=by have:=hgr1.size;simp at this;omega
   have c0:w1.cell? ⟨w.heap.size,0,none⟩=some (.string m0):=(Qaf hgr1 (p:=⟨w.heap.size,0,none⟩) (by simp;omega) (by simp;omega)).trans (by simp[*]);have c1:w1.cell? ⟨w.heap.size,1,none⟩=some (.string m1):=(Qaf hgr1 (p:=⟨w.heap.size,1,none⟩) (by simp;omega) (by simp;omega)).trans (by simp[*]);have c2:w1.cell? ⟨w.heap.size,2,none⟩=some (.string m2):=(Qaf hgr1 (p:=⟨w.heap.size,2,none⟩) (by simp;omega) (by simp;omega)).trans (by simp[*]);have c3:w1.cell? ⟨w.heap.size,3,none⟩=some (.string m3):=(Qaf hgr1 (p:=⟨w.heap.size,3,none⟩) (by simp;omega) (by simp;omega)).trans (by simp[*]);have HB1:Hid (Below W.heap.size W w1):=Hi (Below.ofGrown HA.out hgr1 HA.out.size (Nat.le_refl _))
   clear hown1 hgr1)
  |(
   refine Qgi Tryz.underlying22 HI.out HS.out rfl (.tmp 11) (.tmp 15) rfl W.heap.size (xs:=flatF fs) (news:=flatF MK) (n:=fs.length) (m:=3) rfl rfl (HO1.out.alloc _) HML.out (HBC.out w1) (Qb7 MK) (Nat.le_refl _) ?_;intro w2 hown2 hgr2;have HO2:=Hi hown2;have hs2:w1.heap.size<w2.heap.size:=by have:=hgr2.size;simp at this;omega
   have c0:w2.cell? ⟨w.heap.size,0,none⟩=some (.string m0):=(Qaf hgr2 (p:=⟨w.heap.size,0,none⟩) (by simp;omega) (by simp;omega)).trans (by simp[*]);have c1:w2.cell? ⟨w.heap.size,1,none⟩=some (.string m1):=(Qaf hgr2 (p:=⟨w.heap.size,1,none⟩) (by simp;omega) (by simp;omega)).trans (by simp[*]);have c2:w2.cell? ⟨w.heap.size,2,none⟩=some (.string m2):=(Qaf hgr2 (p:=⟨w.heap.size,2,none⟩) (by simp;omega) (by simp;omega)).trans (by simp[*]);have c3:w2.cell? ⟨w.heap.size,3,none⟩=some (.string m3):=(Qaf hgr2 (p:=⟨w.heap.size,3,none⟩) (by simp;omega) (by simp;omega)).trans (by simp[*]);have HB2:Hid (Below w.heap.size w w2):=Hi (HB0.out.trans ((Below.ofGrown (HB1.out.alloc HB1.out.size _) hgr2 (by have:=HB1.out.size;simp;omega) (Nat.le_refl _)).mono HB0.out.size))
   clear hown2 hgr2)
  |(
   refine Qd0 Tryz.underlying22 HI.out HS.out (by decide) rfl (.tmp 9) (.tmp 10) rfl W.heap.size (xs:=flatF fs) rfl rfl ((HOW.out W (Nat.le_refl _)).alloc (.cells #[.string m0,.string m1,.string m2,.string m3,.string m0,.string m1,.string m2,.string m3,.string m0,.string m1,.string m2,.string m3] 29)) (HCW.out.below (HA.out.alloc HA.out.size _)) (Qd1 fs) (Qb7 fs) (by omega) ?_;intro w1 hown1 hgr1;have HO1:=Hi hown1;have hs1:W.heap.size<w1.heap.size:=by have:=hgr1.size;simp at this;omega
   have c0:w1.cell? ⟨w.heap.size,0,none⟩=some (.string m0):=(Qaf hgr1 (p:=⟨w.heap.size,0,none⟩) (by simp;omega) (by simp;omega)).trans (by simp[*]);have c1:w1.cell? ⟨w.heap.size,1,none⟩=some (.string m1):=(Qaf hgr1 (p:=⟨w.heap.size,1,none⟩) (by simp;omega) (by simp;omega)).trans (by simp[*]);have c2:w1.cell? ⟨w.heap.size,2,none⟩=some (.string m2):=(Qaf hgr1 (p:=⟨w.heap.size,2,none⟩) (by simp;omega) (by simp;omega)).trans (by simp[*]);have c3:w1.cell? ⟨w.heap.size,3,none⟩=some (.string m3):=(Qaf hgr1 (p:=⟨w.heap.size,3,none⟩) (by simp;omega) (by simp;omega)).trans (by simp[*]);have HB1:Hid (Below W.heap.size W w1):=Hi (Below.ofGrown (HA.out.alloc HA.out.size _) hgr1 (by simp<;>omega) (Nat.le_refl _))
   have HBB:Hid (∀(j:Nat) (u:Value),(flatF MK)[j]?=some u→w1.cell? ⟨W.heap.size+1,j,none⟩=some u):=Hi (fun j u hj=>(Qaf hgr1 (p:=⟨W.heap.size+1,j,none⟩) (by simp<;>omega) (by simp<;>omega)).trans (by simpa using HBC.out (W.alloc (.cells MC 29)) j u hj))
   clear hown1 hgr1)
  |(
   refine Qd0 Tryz.underlying22 HI.out HS.out (by decide) rfl (.tmp 9) (.tmp 10) rfl W.heap.size (xs:=flatF fs) (g:=W.heap.size+1) rfl rfl (HOX.out) (HCX.out) (Qd1 fs) (Qb7 fs) (by omega) ?_;intro w1 hown1 hgr1;have HO1:=Hi hown1;have hs1:W.heap.size<w1.heap.size:=by have:=hgr1.size;simp at this;omega
   have c0:w1.cell? ⟨w.heap.size,0,none⟩=some (.string m0):=(Qaf hgr1 (p:=⟨w.heap.size,0,none⟩) (by simp;omega) (by simp;omega)).trans (by simp[*]);have c1:w1.cell? ⟨w.heap.size,1,none⟩=some (.string m1):=(Qaf hgr1 (p:=⟨w.heap.size,1,none⟩) (by simp;omega) (by simp;omega)).trans (by simp[*]);have c2:w1.cell? ⟨w.heap.size,2,none⟩=some (.string m2):=(Qaf hgr1 (p:=⟨w.heap.size,2,none⟩) (by simp;omega) (by simp;omega)).trans (by simp[*]);have c3:w1.cell? ⟨w.heap.size,3,none⟩=some (.string m3):=(Qaf hgr1 (p:=⟨w.heap.size,3,none⟩) (by simp;omega) (by simp;omega)).trans (by simp[*]);have HB1:Hid (Below W.heap.size W w1):=Hi (Below.ofGrown HAX.out hgr1 (by simp<;>omega) (by omega));have HBB:Hid (∀(j:Nat) (u:Value),(flatF MK)[j]?=some u→w1.cell? ⟨W.heap.size,j,none⟩=some u):=Hi (fun j u hj=>(Qaf hgr1 (p:=⟨W.heap.size,j,none⟩) (by simp<;>omega) (by simp<;>omega)).trans (HBX.out j u hj))
   clear hown1 hgr1)
  |(
   refine Qgi Tryz.underlying22 HI.out HS.out rfl (.tmp 11) (.tmp 15) rfl W.heap.size (xs:=flatF fs) (news:=flatF MK) (n:=fs.length) (m:=3) rfl rfl HO1.out HML.out HBB.out (Qb7 MK) (Nat.le_refl _) ?_;intro w2 hown2 hgr2;have HO2:=Hi hown2;have hs2:w1.heap.size≤w2.heap.size:=hgr2.size;have c0:w2.cell? ⟨w.heap.size,0,none⟩=some (.string m0):=(Qaf hgr2 (p:=⟨w.heap.size,0,none⟩) (by simp;omega) (by simp;omega)).trans (by simp[*]);have c1:w2.cell? ⟨w.heap.size,1,none⟩=some (.string m1):=(Qaf hgr2 (p:=⟨w.heap.size,1,none⟩) (by simp;omega) (by simp;omega)).trans (by simp[*]);have c2:w2.cell? ⟨w.heap.size,2,none⟩=some (.string m2):=(Qaf hgr2 (p:=⟨w.heap.size,2,none⟩) (by simp;omega) (by simp;omega)).trans (by simp[*]);have c3:w2.cell? ⟨w.heap.size,3,none⟩=some (.string m3):=(Qaf hgr2 (p:=⟨w.heap.size,3,none⟩) (by simp;omega) (by simp;omega)).trans (by simp[*])
   have HB2:Hid (Below w.heap.size w w2):=Hi (HB0.out.trans ((Below.ofGrown HB1.out hgr2 HB1.out.size (by omega)).mono HB0.out.size))
   clear hown2 hgr2)
  )
 all_goals
  go_wp2;go_ret;exact⟨_,rfl,CRow.frow (by rw[Qld,←HMK.out];exact Qle HO2.out) (by simp),HB2.out⟩
end Go.Proofs.YtbbkamnfjejceaaGreatDoor
