/- Where lists of spots, bars, holds and loads lie. -/
import Derived.Test.YtbbkamnfjejceaaGreatDoorR24FracQ
import Derived.Deep.Slices
import Derived.KernelRfl
import Derived.Test.YtbbkamnfjejceaaGreatDoorRows
import Derived.ProofKit
import Derived.OpenShut
import Derived.Carry
import Derived.Lib.LaidTab
import Derived.Shelf.LaysM
import Derived.Deep.RegionLaw
import Derived.Deep.Upon
import Derived.Laws.OwnMore
namespace Go.Proofs.YtbbkamnfjejceaaGreatDoor
open Go.RowKit
set_option linter.unusedVariables false
set_option linter.unusedSimpArgs false
structure Glob (w:World):Prop where
 most:∃m,w.cell? ⟨4,0,none⟩=some (.int .i64 m)
 tab:Tab w
theorem Glob.below{w w':World}(h:Glob w)(hb:Below w.heap.size w w'):Glob w':=by
 obtain⟨m,hm⟩:=h.most;exact⟨⟨m,(hb.cell (p:=⟨4,0,none⟩) (World.block_lt_of_cell? _ _ hm)).trans hm⟩,h.tab.below hb⟩
structure FE where
 x:Value
 y:Value
 z:Value
 q:Rat
 k:Nat
structure FBag (w0 w:World) (L:List FE):Prop where
 base:Below w0.heap.size w0 w
 glob:Glob w0
 ts:∀t,t∈ L→FracV w (.agg #[t.x,t.y,t.z]) t.q∧Fits t.q t.k∧0<t.k
theorem FBag.start{w:World}(h:Glob w):FBag w w []:=⟨Below.refl _ _,h,fun t ht=>by cases ht⟩
theorem FBag.below{w0 w w':World}{L:List FE}(h:FBag w0 w L)(hb:Below w.heap.size w w'):FBag w0 w' L:=
 ⟨h.base.trans (hb.mono h.base.size),h.glob,fun t ht=>⟨(h.ts t ht).1.below hb,(h.ts t ht).2⟩⟩
theorem FBag.drew{w0 w:World}{L:List FE}(h:FBag w0 w L):FBag w0 w.drew L:=h.below (Below.refl _ _).drew
theorem FBag.globNow{w0 w:World}{L:List FE}(h:FBag w0 w L):Glob w:=h.glob.below h.base
theorem FBag.get{w0 w:World}{L:List FE}{x y z:Value}{q:Rat}{k:Nat}(h:FBag w0 w L)(hx:⟨x,y,z,q,k⟩∈ L):FracV w (.agg #[x,y,z]) q∧Fits q k∧0<k:=h.ts _ hx
theorem FBag.put{w0 w:World}{L:List FE}{x y z:Value}{q:Rat}{k:Nat}(h:FBag w0 w L)(hv:FracV w (.agg #[x,y,z]) q)(hf:Fits q k)(hk:0<k):FBag w0 w (⟨x,y,z,q,k⟩ :: L):=
 ⟨h.base,h.glob,fun t ht=>by
   rcases List.mem_cons.1 ht with rfl|ht
   · exact⟨hv,hf,hk⟩
   · exact h.ts t ht⟩
theorem FBag.only{w0 w w':World}{L:List FE}{g:Nat}{t:TypeId}{C:Array Value}(h:FBag w0 w L)(ho:Only g w w')(hs:SB w g t C)(hn:NoU64 C)(hg:w0.heap.size≤g):FBag w0 w' L:=
 ⟨Only.fresh h.base ho hg,h.glob,fun t ht=>⟨(h.ts t ht).1.only ho hs hn,(h.ts t ht).2⟩⟩
theorem FBag.from{w0 w1 w:World}{L M:List FE}(h:FBag w1 w L)(hb:Below w0.heap.size w0 w1)(hg:Glob w0)(hm:∀t,t∈ M→∃k,⟨t.x,t.y,t.z,t.q,k⟩∈ L∧k≤t.k):FBag w0 w M:=by
 refine⟨hb.trans (h.base.mono hb.size),hg,fun t ht=>?_⟩;obtain⟨k,hk,hle⟩:=hm t ht;have:=h.ts _ hk;exact⟨this.1,this.2.1.mono hle,Nat.lt_of_lt_of_le this.2.2 hle⟩
def FNewB(w0:World)(L:List FE)(q:Rat)(k:Nat)(e:Ending)(w':World):Prop:=∃x y z,e=.returned (.agg #[x,y,z])∧FBag w0 w' (⟨x,y,z,q,k⟩ :: L)
theorem FBag.new{w0 w w':World}{L:List FE}{q:Rat}{k:Nat}{e:Ending}(h:FBag w0 w L)(hn:FNew w q e w')(hf:Fits q k)(hk:0<k):FNewB w0 L q k e w':=by
 obtain⟨⟨v,rfl,neg,a,n,c,b,m,d,rfl,hv⟩,hb⟩:=hn;exact⟨_,_,_,rfl,(h.below hb).put ⟨neg,a,n,c,b,m,d,rfl,hv⟩ hf hk⟩
theorem FBag.minus{w0 w:World}{L:List FE}{x1 x2 x3 y1 y2 y3:Value}{j k:Nat}{p q:Rat}(h:FBag w0 w L)(hx:⟨x1,x2,x3,p,j⟩∈ L)(hy:⟨y1,y2,y3,q,k⟩∈ L)(hj:j+k<68719476000):
 Calls Tryz.prog 148 #[.agg #[x1,x2,x3],.agg #[y1,y2,y3]] w (FNewB w0 L (p - q) (j+k+1)):=by
 obtain⟨hx,fx,kx⟩:=h.get hx;obtain⟨hy,fy,ky⟩:=h.get hy;exact(Qbb hx hy fx fy hj).mono fun e w' hn=>h.new hn (fx.sub fy) (by omega)
theorem Fits.div{p q:Rat}{j k:Nat}(h:Fits p j)(h':Fits q k)(hj:0<j)(hk:0<k):Fits (p / q) (j+k):=by
 by_cases hq:q=0
 · rw[hq,Rat.div_def,Rat.inv_zero,Rat.mul_zero];exact Fits.zero.mono (by omega)
 · rw[Rat.div_def];exact h.mul (h'.inv hq) hj
theorem FBag.equal{w0 w:World}{L:List FE}{x1 x2 x3 y1 y2 y3:Value}{j k:Nat}{p q:Rat}(h:FBag w0 w L)(hx:⟨x1,x2,x3,p,j⟩∈ L)(hy:⟨y1,y2,y3,q,k⟩∈ L):
 Calls Tryz.prog 39 #[.agg #[x1,x2,x3],.agg #[y1,y2,y3]] w (fun e w'=>e=.returned (.bool (decide (p=q)))∧FBag w0 w' L):=by
 obtain⟨hx,fx,kx⟩:=h.get hx;obtain⟨hy,fy,ky⟩:=h.get hy;refine(Ql6 hx hy).mono ?_;rintro e w' ⟨rfl,hb⟩;exact⟨rfl,h.below hb⟩
theorem FBag.of{w0 w:World}{L:List FE}{n:Nat}(s:ByteArray)(h:FBag w0 w L)(hs:s.size≤n)(hn:n≤1073741824):
 Calls Tryz.prog 85 #[.string s] w (fun e w'=>∃q,QOf s.data.toList q∧FNewB w0 L q (4*n+1) e w'):=by
 obtain⟨m,hm⟩:=h.globNow.most;refine(Qh5 s m w hm (by omega)).mono ?_;rintro e w' ⟨q,hq,hf⟩;exact⟨q,hq,h.new hf (hq.fits (by rw[Qad];exact hs)) (by omega)⟩
theorem Qgo{C:Array Value}(h:∀v,v∈ C.toList→∀n,v≠Value.int .u64 n):NoU64 C:=fun i n hi=>h _ (by rw[←Array.getElem?_toList] at hi;exact List.mem_of_getElem? hi) n rfl
theorem Qap(P:Program){v:Value}(h:v.oneCell'=true):∀(a:Addr) (w:World),(store a v).run P w=stored P w a v .plain:=fun a w=>run_store P w a v .plain h
theorem FracV.one{w:World}{x y z:Value}{q:Rat}(h:FracV w (.agg #[x,y,z]) q):x.oneCell'=true∧y.oneCell'=true∧z.oneCell'=true:=by
 obtain⟨neg,a,n,c,b,m,d,e,_⟩:=h;simp at e;obtain⟨rfl,rfl,rfl⟩:=e;exact⟨rfl,rfl,rfl⟩
theorem FracV.no64{w:World}{x y z:Value}{q:Rat}(h:FracV w (.agg #[x,y,z]) q)(n:Int):x≠.int .u64 n∧y≠.int .u64 n∧z≠.int .u64 n:=by
 obtain⟨neg,a,m,c,b,k,d,e,_⟩:=h;simp at e;obtain⟨rfl,rfl,rfl⟩:=e;exact⟨by simp,by simp,by simp⟩
theorem Tryz.spotInfo:(Tryz.prog.info? 25).map (·.size)=some 2:=by kernel_rfl
end Go.Proofs.YtbbkamnfjejceaaGreatDoor
namespace Go.Proofs.YtbbkamnfjejceaaGreatDoor
open Go
set_option linter.unusedVariables false
section
variable {P:Program} {ops:Array Oper} {Q:Exit→Act→World→Prop} {md:Region.Mode} {S:World→Prop} {k:Nat}
def waits(md:Region.Mode)(ops:Array Oper)(k i:Nat):Bool:=match ops[k]? with
 |some o=>o.after.any (fun e=>Region.binds md e && (e.on == i))
 |none=>false
theorem Qh8{i:Nat}(h:waits md ops k i=true){o:Oper}(ho:ops[k]?=some o):¬∀e∈ o.after,Region.binds md e=true→e.on≠i:=by
 unfold waits at h;rw[ho] at h;simp only[Array.any_eq_true] at h;obtain⟨j,hj,he⟩:=h;simp only[Bool.and_eq_true,beq_iff_eq] at he;intro hc;exact hc _ (Array.getElem_mem hj) he.1 he.2
end
end Go.Proofs.YtbbkamnfjejceaaGreatDoor
namespace Go.Proofs.YtbbkamnfjejceaaGreatDoor
open Go.RowKit
set_option linter.unusedVariables false
set_option linter.unusedSimpArgs false
set_option maxRecDepth 100000 in
theorem Qdz(s t:ByteArray)(w:World):Calls Tryz.prog 14 #[.string s,.string t] w fun e w'=>e=.returned (.agg #[.string s,.string t])∧Below w.heap.size w w':=by
 have HB:=Hi ((Below.refl w.heap.size w).alloc (Nat.le_refl _) (.cells #[.string s,.string t] 25));go_enter Tryz.func14,Tryz.ntmps14;go_wp2;refine bodyPost_ret (results_cell_row rfl _ _ w.heap.size 25 #[.string s,.string t] (0,0) _ rfl (SB.new w _ _) Tryz.underlying25 rfl Tryz.spotInfo) rfl ?_;exact⟨rfl,HB.out⟩
theorem Qb4:Tryz.prog.cellsOf 23=1:=by kernel_rfl
theorem Qfh:Tryz.prog.cellsOf 25=2:=by kernel_rfl
section
variable {H:Type} {enc:TypeId × Value→H} {P:Program} {w:World} {base:Nat} {spare:Nat→Bool} {held:Bool} {fuel:Nat} {cs:List Value} {x:DataW H × List MemPlace} {tF tS tQ:TypeId} {f0 f1 g0 g1:Field}
theorem Qik(uS:P.underlying tS=some (.struct #[f0,f1]))(uQ:P.underlying tQ=some .string)(cS:P.cellsOf tS=2)(cQ:P.cellsOf tQ=1)(t0:f0.type=tQ)(t1:f1.type=tQ)(o0:f0.offset=0)(o1:f1.offset=1)
 (h:DataW.trod enc P w base spare held fuel tS cs=some x):
 ∃s t:ByteArray,cs= [.string s,.string t]∧x.1=.agg [.lit (.string s.data.toList),.lit (.string t.data.toList)]∧x.2= []:=by
 obtain⟨xs,n,rfl,rfl,hl,hxl,hf⟩:=DataW.trod_struct uS h;rw[cS] at hl;clear h;have h0:=hf 0 f0 rfl;have h1:=hf 1 f1 rfl;rw[t0,o0,cQ] at h0;rw[t1,o1,cQ] at h1;clear hf
 match cs,hl,xs,hxl with
 | [v0,v1],_,[y0,y1],_=>
   simp only[List.drop_zero,List.drop_succ_cons,List.take_succ_cons,List.take_zero,List.getElem?_cons_zero,List.getElem?_cons_succ] at h0 h1;obtain⟨s,e0,rfl,_⟩:=DataW.trod_string uQ h0;obtain⟨t,e1,rfl,_⟩:=DataW.trod_string uQ h1;obtain rfl:v0=_:=by simpa using e0
   obtain rfl:v1=_:=by simpa using e1
   exact⟨s,t,rfl,rfl,rfl⟩
end
end Go.Proofs.YtbbkamnfjejceaaGreatDoor
namespace Go.Proofs.YtbbkamnfjejceaaGreatDoor
open Go.ChangeShapes Go.WideShapes Go.ChangeAt Go.RowKit
set_option linter.unusedVariables false
set_option linter.unusedSimpArgs false
theorem own:ownKnob Tryz.prog.godebug=none:=by kernel_rfl
theorem Qpr:laidOutB Tryz.prog=true:=by kernel_rfl
theorem Qiw{H:Type}{d:DataW H}{l:List (DataW H)}(h:d∈ l):Rows.uptoBulk d≤Rows.uptoBulkAll l:=by
 induction l with
 |nil=>cases h
 |cons x r ih=>
  simp only[Rows.uptoBulkAll];rcases List.mem_cons.1 h with rfl|h
  · omega
  · have:=ih h;omega
theorem Qps{H:Type}(l r:List (DataW H)):Rows.uptoBulkAll l≤Rows.uptoBulk (.slice l r):=by
 simp only[Rows.uptoBulk];omega
theorem Qa3{P:Program}{W:World}{x:String × DataW Unit}{l:List (String × DataW Unit)}(h:laidMet P (x :: l) W):laidMet P l W:=by
 obtain⟨ps,⟨g,t,cs,fuel,p,q,_,_,_,_,hl,rfl⟩,hn,hc⟩:=h;exact⟨q,hl,(List.nodup_append.1 hn).2.1,fun b off hm=>hc b off (List.mem_append.2 (.inr hm))⟩
theorem gTen:Tryz.prog.globalNamed "internal/strconv.uint64pow10" =some 9:=by kernel_rfl
theorem Qpt:(Tryz.prog.globals[9]?).map (·.type)=some 293:=by kernel_rfl
theorem Qpu:Tryz.prog.cellsOf 293=20:=by kernel_rfl
theorem Qpv:Tryz.prog.cellsOf 146=1:=by kernel_rfl
theorem Qpw:(Rows.laid_internal_strconv_uint64pow10:DataW Unit)=Lib.tabData .u64 Lib.pow10Tab:=by kernel_rfl
theorem Qpx{W:World}{rest:List (String × DataW Unit)}(h:laidMet Tryz.prog (("internal/strconv.uint64pow10",Rows.laid_internal_strconv_uint64pow10) :: rest) W):Tab W:=by
 rw[Qpw] at h;exact Lib.tabIs_of_head gTen Qpt Tryz.underlying293 Tryz.underlying146 Qpv Qpu h
theorem Qpy{W:World}(h:W.ShapedOpen Tryz.prog):∃m,W.cell? ⟨4,0,none⟩=some (.int .i64 m):=
 cell_of_shapedOpen_int (zero:=#[.int .i64 0]) (t:=3) h (of_decide_eq_true (by kernel_rfl)) (by kernel_rfl) rfl (by kernel_rfl) (by kernel_rfl) Tryz.underlying3
def flat1:DataW Unit→List Value
 | .lit (.int k z)=>[.int k z]
 | .lit (.string bs)=>[.string ⟨bs.toArray⟩]
 |_=>[]
def flat2:DataW Unit→List Value
 | .agg ps=>ps.flatMap flat1
 |d=>flat1 d
def flat3:DataW Unit→List Value
 | .agg ps=>ps.flatMap flat2
 |d=>flat1 d
def put(g:Nat)(d:DataW Unit)(w:World):World:={ w with heap:=w.heap.modify g fun
 | .cells _ t frozen=>.cells (flat3 d).toArray t frozen
 |o=>o }
end Go.Proofs.YtbbkamnfjejceaaGreatDoor
namespace Go.Proofs.YtbbkamnfjejceaaGreatDoor
open Go.RowKit
set_option linter.unusedVariables false
set_option linter.unusedSimpArgs false
structure CRow (w:World) (a:Option Addr) (xs:List Value):Prop where
 cell:∀j u,xs[j]?=some u→∃b off,a=some ⟨b,off,none⟩∧b<w.heap.size∧w.cell? ⟨b,off+j,none⟩=some u
theorem CRow.below{w w':World}{a:Option Addr}{xs:List Value}(h:CRow w a xs)(hb:Below w.heap.size w w'):CRow w' a xs:=by
 refine⟨fun j u hj=>?_⟩;obtain⟨b,off,h1,h2,h3⟩:=h.cell j u hj;exact⟨b,off,h1,by have:=hb.size;omega,(hb.cell (p:=⟨b,off+j,none⟩) h2).trans h3⟩
section
variable {P:Program} {t e:TypeId} {i:TypeInfo} {size:Nat}
theorem Qha(b off j:Nat):Addr.add ⟨b,off,none⟩ j=⟨b,off+j,none⟩:=by
 unfold Addr.add;by_cases hj:j=0<;>simp[hj]
theorem Qml(ht:P.underlying t=some (.slice e))(hi:P.info? e=some i)(hsize:i.size=size)(h0:0<size){w:World}{g c base n cap:Nat}{a:Option Addr}{xs:List Value}
 (hown:w.ownsRow base e size (.slice (some ⟨g,0,none⟩) 0 c) 0 []) (hx:CRow w a xs) (hl:xs.length=n*size) (h1:∀u∈ xs,u.oneCell'=true) (hroom:n≤c) (ty:TypeId):
 ∃w',(Builtin.append_ #[t,t] ty #[.slice (some ⟨g,0,none⟩) 0 c,.slice a n cap]).run P w=.ok (.slice (some ⟨g,0,none⟩) n c) w'∧w'.ownsRow base e size (.slice (some ⟨g,0,none⟩) n c) n xs∧w.grownBy w' (some g):=by
 cases a with
 |none=>
  have hnil:xs= []:=by
   cases xs with
   |nil=>rfl
   |cons u l=>
    obtain⟨b,off,h,_⟩:=hx.cell 0 u rfl;cases h
  subst hnil;have hn:n=0:=by
   rcases Nat.eq_zero_or_pos n with h|h
   · exact h
   ·
    have:=Nat.mul_pos h h0;simp at hl;omega
  subst hn;have hs:Src P i.size t (.slice none 0 cap) 0 [] w:=Src.ofNil w ht cap;exact⟨w,run_append_nothing w t t ty e i ht hi _ 0 c (Nat.zero_le _) _ hs,hown,⟨rfl,rfl,rfl,Nat.le_refl _,fun _ _ _=>rfl⟩⟩
 |some ad=>
  have hnews:∀j u,xs[j]?=some u→w.cell? (ad.add j)=some u:=by
   intro j u hj;obtain⟨b,off,h,_,hc⟩:=hx.cell j u hj;cases h;rw[Qha];exact hc
  have:=run_append_fits w base t ty e i size ht hi hsize g 0 c [] hown ad n cap xs hl hnews h1 (by omega)
  simpa using this
theorem Qaz{ops:Array Oper}{o:Oper}{a:Act}{w:World}{K:Act→World→Prop}{Q:Exit→Act→World→Prop}{E:Prop}
 (hg:o.guard=none) (s x:Operand) (hop:o.op=Op.call { callee:=Callee.builtin Builtin.append,args:=#[s,x],argTypes:=#[t,t] })
 {vs vx v:Value} {w':World} (hs:a.eval s=vs) (hx:a.eval x=vx) (hrun:(Builtin.append_ #[t,t] o.type #[vs,vx]).run P w=.ok v w') (hK:K (a.put o.dst v) w'):
 if Region.wanted o (yielded ops a.tmps)=true then Oper.wp P o a w K Q else E:=by
 have hw:Region.wanted o (yielded ops a.tmps)=true:=by simp[Region.wanted,hg]
 rw[if_pos hw];unfold Oper.wp;simp[execOp,hop,resolve,invoke,builtin,hs,hx,hrun,Result.andThen];exact hK
theorem Qa0(ht:P.underlying t=some (.slice e))(hi:P.info? e=some i)(hsize:i.size=size)(h0:0<size){ops:Array Oper}{o:Oper}{a:Act}{w:World}{K:Act→World→Prop}{Q:Exit→Act→World→Prop}{E:Prop}
 (hg:o.guard=none) (s x:Operand) (hop:o.op=Op.call { callee:=Callee.builtin Builtin.append,args:=#[s,x],argTypes:=#[t,t] })
 {g c n cap:Nat} (base:Nat) {ad:Option Addr} {xs:List Value} (hs:a.eval s=.slice (some ⟨g,0,none⟩) 0 c) (hx:a.eval x=.slice ad n cap)
 (hown:w.ownsRow base e size (.slice (some ⟨g,0,none⟩) 0 c) 0 []) (hr:CRow w ad xs) (hl:xs.length=n*size) (h1:∀u∈ xs,u.oneCell'=true) (hroom:n≤c)
 (hK:∀w',w'.ownsRow base e size (.slice (some ⟨g,0,none⟩) n c) n xs→w.grownBy w' (some g)→K (a.put o.dst (.slice (some ⟨g,0,none⟩) n c)) w'):
 if Region.wanted o (yielded ops a.tmps)=true then Oper.wp P o a w K Q else E:=by
 obtain⟨w',hrun,h2,h3⟩:=Qml ht hi hsize h0 (cap:=cap) hown hr hl h1 hroom o.type;exact Qaz hg s x hop hs hx hrun (hK w' h2 h3)
theorem Qb0(ht:P.underlying t=some (.slice e))(hi:P.info? e=some i)(hsize:i.size=size){ops:Array Oper}{o:Oper}{a:Act}{w:World}{K:Act→World→Prop}{Q:Exit→Act→World→Prop}{E:Prop}
 (hg:o.guard=none) (s x:Operand) (hop:o.op=Op.call { callee:=Callee.builtin Builtin.append,args:=#[s,x],argTypes:=#[t,t] })
 {g c n m cap gb:Nat} (base:Nat) {xs news:List Value} (hs:a.eval s=.slice (some ⟨g,0,none⟩) n c) (hx:a.eval x=.slice (some ⟨gb,0,none⟩) m cap)
 (hown:w.ownsRow base e size (.slice (some ⟨g,0,none⟩) n c) n xs) (hl:news.length=m*size) (hr:∀j u,news[j]?=some u→w.cell? ⟨gb,j,none⟩=some u) (h1:∀u∈ news,u.oneCell'=true) (hroom:n+m≤c)
 (hK:∀w',w'.ownsRow base e size (.slice (some ⟨g,0,none⟩) (n+m) c) (n+m) (xs++news)→w.grownBy w' (some g)→K (a.put o.dst (.slice (some ⟨g,0,none⟩) (n+m) c)) w'):
 if Region.wanted o (yielded ops a.tmps)=true then Oper.wp P o a w K Q else E:=by
 obtain⟨w',hrun,h2,h3⟩:=run_append_fits w base t o.type e i size ht hi hsize g n c xs hown ⟨gb,0,none⟩ m cap news hl (fun j u hj=>by rw[Qha];simpa using hr j u hj) h1 hroom;exact Qaz hg s x hop hs hx hrun (hK w' h2 h3)
end
theorem Below.ofGrown{B:Nat}{a w w':World}{g:Nat}(h:Below B a w)(hg:w.grownBy w' (some g))(hB:B≤w.heap.size)(hr:B≤g):Below B a w':=
 h.grown hg hB (fun k hk=>by cases hk;exact hr)
theorem Qb1{w w':World}{g:Nat}(hg:w.grownBy w' (some g)){p:Addr}(hp:p.block<w.heap.size)(hne:p.block≠g):w'.cell? p=w.cell? p:=
 World.cell?_of_block (hg.block p.block hp (by simpa using hne))
theorem Qey{w:World}{base e size g n c:Nat}{xs:List Value}(h:w.ownsRow base e size (.slice (some ⟨g,0,none⟩) n c) n xs):CRow w (some ⟨g,0,none⟩) xs:=by
 refine⟨fun j u hj=>⟨g,0,rfl,(h.lt g rfl).2,?_⟩⟩;have hl:=h.1;have hj':=(List.getElem?_eq_some_iff.1 hj).1;rw[Nat.zero_add,h.cellAt j (by omega)];exact hj
theorem CRow.left{w:World}{a:Option Addr}{xs ys:List Value}(h:CRow w a (xs++ys)):CRow w a xs:=by
 refine⟨fun j u hj=>h.cell j u ?_⟩;rw[List.getElem?_append_left (List.getElem?_eq_some_iff.1 hj).1];exact hj
structure S2 where
 x:ByteArray
 y:ByteArray
structure B6 where
 a:Int
 b:Int
 c:ByteArray
 e:ByteArray
 l:ByteArray
 m:ByteArray
structure H3 where
 j:Int
 w:Int
 q:ByteArray
structure L3 where
 j:Int
 x:ByteArray
 y:ByteArray
def S2.cells(s:S2):List Value:=[.string s.x,.string s.y]
def B6.cells(s:B6):List Value:=[.int .i64 s.a,.int .i64 s.b,.string s.c,.string s.e,.string s.l,.string s.m]
def H3.cells(s:H3):List Value:=[.int .i64 s.j,.int .i64 s.w,.string s.q]
def L3.cells(s:L3):List Value:=[.int .i64 s.j,.string s.x,.string s.y]
theorem S2.one(s:S2):∀u∈ s.cells,u.oneCell'=true:=by simp[S2.cells,Value.oneCell']
theorem B6.one(s:B6):∀u∈ s.cells,u.oneCell'=true:=by simp[B6.cells,Value.oneCell']
theorem H3.one(s:H3):∀u∈ s.cells,u.oneCell'=true:=by simp[H3.cells,Value.oneCell']
structure ARow {α:Type} (c:α→List Value) (w:World) (a:Option Addr) (cap:Nat) (es:List α):Prop where
 fit:es.length≤cap
 row:CRow w a (es.flatMap c)
section
variable {α:Type} {c:α→List Value} {sz:Nat}
theorem ARow.below{w w':World}{a:Option Addr}{cap:Nat}{es:List α}(h:ARow c w a cap es)(hb:Below w.heap.size w w'):ARow c w' a cap es:=⟨h.fit,h.row.below hb⟩
theorem ARow.left{w:World}{a:Option Addr}{cap:Nat}{es fs:List α}(h:ARow c w a cap (es++fs)):ARow c w a cap es:=by
 refine⟨?_,?_⟩
 ·
  have:=h.fit;simp at this;omega
 ·
  have:=h.row;rw[List.flatMap_append] at this;exact this.left
theorem Qa9(hc:∀e,(c e).length=sz)(es:List α):(es.flatMap c).length=es.length*sz:=by
 induction es with
 |nil=>simp
 |cons e l ih=>rw[List.flatMap_cons,List.length_append,ih,hc,List.length_cons,Nat.succ_mul];omega
theorem Qeq(hc:∀e,∀u∈ c e,u.oneCell'=true)(es:List α):∀u∈ es.flatMap c,u.oneCell'=true:=by
 intro u hu;obtain⟨e,_,h⟩:=List.mem_flatMap.1 hu;exact hc e u h
theorem Qcc(hc:∀e,(c e).length=sz):∀(es:List α) (i:Nat) (e:α) (j:Nat) (u:Value),es[i]?=some e→(c e)[j]?=some u→(es.flatMap c)[i*sz+j]?=some u
 | [],i,e,j,u,h,_=>by simp at h
 |g :: l,0,e,j,u,h,hj=>by
  obtain rfl:g=e:=by simpa using h
  rw[List.flatMap_cons,Nat.zero_mul,Nat.zero_add,List.getElem?_append_left (List.getElem?_eq_some_iff.1 hj).1];exact hj
 |g :: l,i+1,e,j,u,h,hj=>by
  have:=Qcc hc l i e j u (by simpa using h) hj;rw[List.flatMap_cons,List.getElem?_append_right (by rw[hc,Nat.succ_mul];omega),hc,show (i+1)*sz+j - sz=i*sz+j by rw[Nat.succ_mul];omega];exact this
theorem ARow.at(hc:∀e,(c e).length=sz)(h0:0<sz){w:World}{a:Option Addr}{cap:Nat}{es:List α}(h:ARow c w a cap es){i:Nat}{e:α}(hi:es[i]?=some e):
 ∃b off,a=some ⟨b,off,none⟩∧b<w.heap.size∧∀j u,(c e)[j]?=some u→w.cell? ⟨b,off+i*sz+j,none⟩=some u:=by
 have h1:∃u,(c e)[0]?=some u:=⟨_,List.getElem?_eq_getElem (by rw[hc];exact h0)⟩;obtain⟨u,hu⟩:=h1;obtain⟨b,off,ha,hb,_⟩:=h.row.cell _ _ (Qcc hc es i e 0 u hi hu);refine⟨b,off,ha,hb,fun j v hv=>?_⟩;obtain⟨b',off',ha',_,hcell⟩:=h.row.cell _ _ (Qcc hc es i e j v hi hv);rw[ha] at ha';cases ha';rw[Nat.add_assoc];exact hcell
end
theorem ARow.spot{w:World}{a:Option Addr}{cap:Nat}{es:List S2}(h:ARow S2.cells w a cap es){i:Nat}{e:S2}(hi:es[i]?=some e):
 ∃b off,a=some ⟨b,off,none⟩∧b<w.heap.size∧w.cell? ⟨b,off+i*2,none⟩=some (.string e.x)∧w.cell? ⟨b,off+i*2+1,none⟩=some (.string e.y):=by
 obtain⟨b,off,h1,h2,h3⟩:=h.at (sz:=2) (fun _=>rfl) (by decide) hi;exact⟨b,off,h1,h2,h3 0 _ rfl,h3 1 _ rfl⟩
theorem ARow.bar{w:World}{a:Option Addr}{cap:Nat}{es:List B6}(h:ARow B6.cells w a cap es){i:Nat}{e:B6}(hi:es[i]?=some e):
 ∃b off,a=some ⟨b,off,none⟩∧b<w.heap.size∧w.cell? ⟨b,off+i*6,none⟩=some (.int .i64 e.a)∧w.cell? ⟨b,off+i*6+1,none⟩=some (.int .i64 e.b)∧w.cell? ⟨b,off+i*6+2,none⟩=some (.string e.c)∧w.cell? ⟨b,off+i*6+3,none⟩=some (.string e.e)∧w.cell? ⟨b,off+i*6+4,none⟩=some (.string e.l)∧w.cell? ⟨b,off+i*6+5,none⟩=some (.string e.m):=by
 obtain⟨b,off,h1,h2,h3⟩:=h.at (sz:=6) (fun _=>rfl) (by decide) hi;exact⟨b,off,h1,h2,h3 0 _ rfl,h3 1 _ rfl,h3 2 _ rfl,h3 3 _ rfl,h3 4 _ rfl,h3 5 _ rfl⟩
theorem ARow.hold{w:World}{a:Option Addr}{cap:Nat}{es:List H3}(h:ARow H3.cells w a cap es){i:Nat}{e:H3}(hi:es[i]?=some e):
 ∃b off,a=some ⟨b,off,none⟩∧b<w.heap.size∧w.cell? ⟨b,off+i*3,none⟩=some (.int .i64 e.j)∧w.cell? ⟨b,off+i*3+1,none⟩=some (.int .i64 e.w)∧w.cell? ⟨b,off+i*3+2,none⟩=some (.string e.q):=by
 obtain⟨b,off,h1,h2,h3⟩:=h.at (sz:=3) (fun _=>rfl) (by decide) hi;exact⟨b,off,h1,h2,h3 0 _ rfl,h3 1 _ rfl,h3 2 _ rfl⟩
theorem ARow.load{w:World}{a:Option Addr}{cap:Nat}{es:List L3}(h:ARow L3.cells w a cap es){i:Nat}{e:L3}(hi:es[i]?=some e):
 ∃b off,a=some ⟨b,off,none⟩∧b<w.heap.size∧w.cell? ⟨b,off+i*3,none⟩=some (.int .i64 e.j)∧w.cell? ⟨b,off+i*3+1,none⟩=some (.string e.x)∧w.cell? ⟨b,off+i*3+2,none⟩=some (.string e.y):=by
 obtain⟨b,off,h1,h2,h3⟩:=h.at (sz:=3) (fun _=>rfl) (by decide) hi;exact⟨b,off,h1,h2,h3 0 _ rfl,h3 1 _ rfl,h3 2 _ rfl⟩
end Go.Proofs.YtbbkamnfjejceaaGreatDoor
