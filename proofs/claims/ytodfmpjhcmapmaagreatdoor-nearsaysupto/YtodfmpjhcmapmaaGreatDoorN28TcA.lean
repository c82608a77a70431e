/- Lists of texts, where they lie. -/
import Derived.Test.YtodfmpjhcmapmaaGreatDoorN26FVal
import Derived.Deep.Slices
import Derived.KernelRfl
import Derived.Test.YtodfmpjhcmapmaaGreatDoorRows
import Derived.ProofKit
import Derived.OpenShut
import Derived.Carry
import Derived.Lib.LaidTab
import Derived.Shelf.LaysM
import Derived.Deep.RegionLaw
import Derived.Deep.Upon
import Derived.Laws.OwnMore
namespace Go.Proofs.YtodfmpjhcmapmaaGreatDoor
open Go.RowKit
set_option linter.unusedVariables false
set_option linter.unusedSimpArgs false
set_option maxRecDepth 100000 in
theorem Qrt(s t:ByteArray)(w:World):Calls Tryz.prog 5 #[.string s,.string t] w fun e w'=>e=.returned (.agg #[.string s,.string t])∧Below w.heap.size w w':=by
 have HB:=Hi ((Below.refl w.heap.size w).alloc (Nat.le_refl _) (.cells #[.string s,.string t] 36));go_enter Tryz.func5,Tryz.ntmps5;go_wp2;refine bodyPost_ret (results_cell_row rfl _ _ w.heap.size 36 #[.string s,.string t] (0,0) _ rfl (SB.new w _ _) Tryz.underlying36 rfl Tryz.spotInfo) rfl ?_;exact⟨rfl,HB.out⟩
theorem Qbq:Tryz.prog.cellsOf 34=1:=by kernel_rfl
theorem Qe8:Tryz.prog.cellsOf 36=2:=by kernel_rfl
section
variable {H:Type} {enc:TypeId × Value→H} {P:Program} {w:World} {base:Nat} {spare:Nat→Bool} {held:Bool} {fuel:Nat} {cs:List Value} {x:DataW H × List MemPlace} {tF tS tQ:TypeId} {f0 f1 g0 g1:Field}
theorem Qii(uS:P.underlying tS=some (.struct #[f0,f1]))(uQ:P.underlying tQ=some .string)(cS:P.cellsOf tS=2)(cQ:P.cellsOf tQ=1)(t0:f0.type=tQ)(t1:f1.type=tQ)(o0:f0.offset=0)(o1:f1.offset=1)
 (h:DataW.trod enc P w base spare held fuel tS cs=some x):
 ∃s t:ByteArray,cs= [.string s,.string t]∧x.1=.agg [.lit (.string s.data.toList),.lit (.string t.data.toList)]∧x.2= []:=by
 obtain⟨xs,n,rfl,rfl,hl,hxl,hf⟩:=DataW.trod_struct uS h;rw[cS] at hl;clear h;have h0:=hf 0 f0 rfl;have h1:=hf 1 f1 rfl;rw[t0,o0,cQ] at h0;rw[t1,o1,cQ] at h1;clear hf
 match cs,hl,xs,hxl with
 | [v0,v1],_,[y0,y1],_=>
   simp only[List.drop_zero,List.drop_succ_cons,List.take_succ_cons,List.take_zero,List.getElem?_cons_zero,List.getElem?_cons_succ] at h0 h1;obtain⟨s,e0,rfl,_⟩:=DataW.trod_string uQ h0;obtain⟨t,e1,rfl,_⟩:=DataW.trod_string uQ h1;obtain rfl:v0=_:=by simpa using e0
   obtain rfl:v1=_:=by simpa using e1
   exact⟨s,t,rfl,rfl,rfl⟩
end
end Go.Proofs.YtodfmpjhcmapmaaGreatDoor
namespace Go.Proofs.YtodfmpjhcmapmaaGreatDoor
open Go.ChangeShapes Go.WideShapes Go.ChangeAt Go.RowKit
set_option linter.unusedVariables false
set_option linter.unusedSimpArgs false
theorem own:ownKnob Tryz.prog.godebug=none:=by kernel_rfl
theorem Qi3:laidOutB Tryz.prog=true:=by kernel_rfl
theorem Qfc{H:Type}{d:DataW H}{l:List (DataW H)}(h:d∈ l):Rows.uptoBulk d≤Rows.uptoBulkAll l:=by
 induction l with
 |nil=>cases h
 |cons x r ih=>
  simp only[Rows.uptoBulkAll];rcases List.mem_cons.1 h with rfl|h
  · omega
  · have:=ih h;omega
theorem Qrf{H:Type}(l r:List (DataW H)):Rows.uptoBulkAll l≤Rows.uptoBulk (.slice l r):=by
 simp only[Rows.uptoBulk];omega
theorem Qdv{P:Program}{W:World}{x:String × DataW Unit}{l:List (String × DataW Unit)}(h:laidMet P (x :: l) W):laidMet P l W:=by
 obtain⟨ps,⟨g,t,cs,fuel,p,q,_,_,_,_,hl,rfl⟩,hn,hc⟩:=h;exact⟨q,hl,(List.nodup_append.1 hn).2.1,fun b off hm=>hc b off (List.mem_append.2 (.inr hm))⟩
theorem Qrg{W:World}(h:W.ShapedOpen Tryz.prog):∃m,W.cell? ⟨4,0,none⟩=some (.int .i64 m):=
 cell_of_shapedOpen_int (zero:=#[.int .i64 0]) (t:=3) h (of_decide_eq_true (by kernel_rfl)) (by kernel_rfl) rfl (by kernel_rfl) (by kernel_rfl) Tryz.underlying3
def flat1:DataW Unit→List Value
 | .lit (.int k z)=>[.int k z]
 | .lit (.string bs)=>[.string ⟨bs.toArray⟩]
 |_=>[]
def flat2:DataW Unit→List Value
 | .agg ps=>ps.flatMap flat1
 |d=>flat1 d
def flat3:DataW Unit→List Value
 | .agg ps=>ps.flatMap flat2
 |d=>flat1 d
def put(g:Nat)(d:DataW Unit)(w:World):World:={ w with heap:=w.heap.modify g fun
 | .cells _ t frozen=>.cells (flat3 d).toArray t frozen
 |o=>o }
end Go.Proofs.YtodfmpjhcmapmaaGreatDoor
namespace Go.Proofs.YtodfmpjhcmapmaaGreatDoor
open Go.RowKit
set_option linter.unusedVariables false
set_option linter.unusedSimpArgs false
structure CRow (w:World) (a:Option Addr) (xs:List Value):Prop where
 cell:∀j u,xs[j]?=some u→∃b off,a=some ⟨b,off,none⟩∧b<w.heap.size∧w.cell? ⟨b,off+j,none⟩=some u
theorem CRow.below{w w':World}{a:Option Addr}{xs:List Value}(h:CRow w a xs)(hb:Below w.heap.size w w'):CRow w' a xs:=by
 refine⟨fun j u hj=>?_⟩;obtain⟨b,off,h1,h2,h3⟩:=h.cell j u hj;exact⟨b,off,h1,by have:=hb.size;omega,(hb.cell (p:=⟨b,off+j,none⟩) h2).trans h3⟩
section
variable {P:Program} {t e:TypeId} {i:TypeInfo} {size:Nat}
theorem Qch(b off j:Nat):Addr.add ⟨b,off,none⟩ j=⟨b,off+j,none⟩:=by
 unfold Addr.add;by_cases hj:j=0<;>simp[hj]
theorem Qgr(ht:P.underlying t=some (.slice e))(hi:P.info? e=some i)(hsize:i.size=size)(h0:0<size){w:World}{g c base n cap:Nat}{a:Option Addr}{xs:List Value}
 (hown:w.ownsRow base e size (.slice (some ⟨g,0,none⟩) 0 c) 0 []) (hx:CRow w a xs) (hl:xs.length=n*size) (h1:∀u∈ xs,u.oneCell'=true) (hroom:n≤c) (ty:TypeId):
 ∃w',(Builtin.append_ #[t,t] ty #[.slice (some ⟨g,0,none⟩) 0 c,.slice a n cap]).run P w=.ok (.slice (some ⟨g,0,none⟩) n c) w'∧w'.ownsRow base e size (.slice (some ⟨g,0,none⟩) n c) n xs∧w.grownBy w' (some g):=by
 cases a with
 |none=>
  have hnil:xs= []:=by
   cases xs with
   |nil=>rfl
   |cons u l=>
    obtain⟨b,off,h,_⟩:=hx.cell 0 u rfl;cases h
  subst hnil;have hn:n=0:=by
   rcases Nat.eq_zero_or_pos n with h|h
   · exact h
   ·
    have:=Nat.mul_pos h h0;simp at hl;omega
  subst hn;have hs:Src P i.size t (.slice none 0 cap) 0 [] w:=Src.ofNil w ht cap;exact⟨w,run_append_nothing w t t ty e i ht hi _ 0 c (Nat.zero_le _) _ hs,hown,⟨rfl,rfl,rfl,Nat.le_refl _,fun _ _ _=>rfl⟩⟩
 |some ad=>
  have hnews:∀j u,xs[j]?=some u→w.cell? (ad.add j)=some u:=by
   intro j u hj;obtain⟨b,off,h,_,hc⟩:=hx.cell j u hj;cases h;rw[Qch];exact hc
  have:=run_append_fits w base t ty e i size ht hi hsize g 0 c [] hown ad n cap xs hl hnews h1 (by omega)
  simpa using this
theorem Qgs{ops:Array Oper}{o:Oper}{a:Act}{w:World}{K:Act→World→Prop}{Q:Exit→Act→World→Prop}{E:Prop}
 (hg:o.guard=none) (s x:Operand) (hop:o.op=Op.call { callee:=Callee.builtin Builtin.append,args:=#[s,x],argTypes:=#[t,t] })
 {vs vx v:Value} {w':World} (hs:a.eval s=vs) (hx:a.eval x=vx) (hrun:(Builtin.append_ #[t,t] o.type #[vs,vx]).run P w=.ok v w') (hK:K (a.put o.dst v) w'):
 if Region.wanted o (yielded ops a.tmps)=true then Oper.wp P o a w K Q else E:=by
 have hw:Region.wanted o (yielded ops a.tmps)=true:=by simp[Region.wanted,hg]
 rw[if_pos hw];unfold Oper.wp;simp[execOp,hop,resolve,invoke,builtin,hs,hx,hrun,Result.andThen];exact hK
theorem Qa8(ht:P.underlying t=some (.slice e))(hi:P.info? e=some i)(hsize:i.size=size)(h0:0<size){ops:Array Oper}{o:Oper}{a:Act}{w:World}{K:Act→World→Prop}{Q:Exit→Act→World→Prop}{E:Prop}
 (hg:o.guard=none) (s x:Operand) (hop:o.op=Op.call { callee:=Callee.builtin Builtin.append,args:=#[s,x],argTypes:=#[t,t] })
 {g c n cap:Nat} (base:Nat) {ad:Option Addr} {xs:List Value} (hs:a.eval s=.slice (some ⟨g,0,none⟩) 0 c) (hx:a.eval x=.slice ad n cap)
 (hown:w.ownsRow base e size (.slice (some ⟨g,0,none⟩) 0 c) 0 []) (hr:CRow w ad xs) (hl:xs.length=n*size) (h1:∀u∈ xs,u.oneCell'=true) (hroom:n≤c)
 (hK:∀w',w'.ownsRow base e size (.slice (some ⟨g,0,none⟩) n c) n xs→w.grownBy w' (some g)→K (a.put o.dst (.slice (some ⟨g,0,none⟩) n c)) w'):
 if Region.wanted o (yielded ops a.tmps)=true then Oper.wp P o a w K Q else E:=by
 obtain⟨w',hrun,h2,h3⟩:=Qgr ht hi hsize h0 (cap:=cap) hown hr hl h1 hroom o.type;exact Qgs hg s x hop hs hx hrun (hK w' h2 h3)
theorem Qb2(ht:P.underlying t=some (.slice e))(hi:P.info? e=some i)(hsize:i.size=size){ops:Array Oper}{o:Oper}{a:Act}{w:World}{K:Act→World→Prop}{Q:Exit→Act→World→Prop}{E:Prop}
 (hg:o.guard=none) (s x:Operand) (hop:o.op=Op.call { callee:=Callee.builtin Builtin.append,args:=#[s,x],argTypes:=#[t,t] })
 {g c n m cap gb:Nat} (base:Nat) {xs news:List Value} (hs:a.eval s=.slice (some ⟨g,0,none⟩) n c) (hx:a.eval x=.slice (some ⟨gb,0,none⟩) m cap)
 (hown:w.ownsRow base e size (.slice (some ⟨g,0,none⟩) n c) n xs) (hl:news.length=m*size) (hr:∀j u,news[j]?=some u→w.cell? ⟨gb,j,none⟩=some u) (h1:∀u∈ news,u.oneCell'=true) (hroom:n+m≤c)
 (hK:∀w',w'.ownsRow base e size (.slice (some ⟨g,0,none⟩) (n+m) c) (n+m) (xs++news)→w.grownBy w' (some g)→K (a.put o.dst (.slice (some ⟨g,0,none⟩) (n+m) c)) w'):
 if Region.wanted o (yielded ops a.tmps)=true then Oper.wp P o a w K Q else E:=by
 obtain⟨w',hrun,h2,h3⟩:=run_append_fits w base t o.type e i size ht hi hsize g n c xs hown ⟨gb,0,none⟩ m cap news hl (fun j u hj=>by rw[Qch];simpa using hr j u hj) h1 hroom;exact Qgs hg s x hop hs hx hrun (hK w' h2 h3)
end
theorem Below.ofGrown{B:Nat}{a w w':World}{g:Nat}(h:Below B a w)(hg:w.grownBy w' (some g))(hB:B≤w.heap.size)(hr:B≤g):Below B a w':=
 h.grown hg hB (fun k hk=>by cases hk;exact hr)
theorem Qb3{w w':World}{g:Nat}(hg:w.grownBy w' (some g)){p:Addr}(hp:p.block<w.heap.size)(hne:p.block≠g):w'.cell? p=w.cell? p:=
 World.cell?_of_block (hg.block p.block hp (by simpa using hne))
theorem Qdi{w:World}{base e size g n c:Nat}{xs:List Value}(h:w.ownsRow base e size (.slice (some ⟨g,0,none⟩) n c) n xs):CRow w (some ⟨g,0,none⟩) xs:=by
 refine⟨fun j u hj=>⟨g,0,rfl,(h.lt g rfl).2,?_⟩⟩;have hl:=h.1;have hj':=(List.getElem?_eq_some_iff.1 hj).1;rw[Nat.zero_add,h.cellAt j (by omega)];exact hj
theorem CRow.left{w:World}{a:Option Addr}{xs ys:List Value}(h:CRow w a (xs++ys)):CRow w a xs:=by
 refine⟨fun j u hj=>h.cell j u ?_⟩;rw[List.getElem?_append_left (List.getElem?_eq_some_iff.1 hj).1];exact hj
def appR(P:Program)(t ty:TypeId)(vs vx:Value)(w:World):Result Value:=(Builtin.append_ #[t,t] ty #[vs,vx]).run P w
@[go_sem ↓] theorem Qry (ρ:Operand→Value) (dst:Option Tmp) (x y:Operand) (t ty:TypeId) (pos:String) (after:Array Go.Edge) (guard:Option (Nat × Bool)) (w:World):
   (execOp ρ { dst,op:=.call { callee:=.builtin .append,args:=#[x,y],argTypes:=#[t,t] },type:=ty,pos,after,guard }).run Tryz.prog w=(appR Tryz.prog t ty (ρ x) (ρ y) w).andThen (fun v w'=>.ok (.value v) w'):=by
  have e:(#[x,y]:Array Operand).map ρ=#[ρ x,ρ y]:=by simp
  rw[BigFrame.execOp_builtin,BigFrame.builtin_append,e,Sem.run_bind]
  unfold appR
  simp only[Sem.run_pure]
structure S2 where
 x:ByteArray
 y:ByteArray
structure B6 where
 a:Int
 b:Int
 c:ByteArray
 e:ByteArray
 l:ByteArray
 m:ByteArray
structure H3 where
 j:Int
 w:Int
 q:ByteArray
def S2.cells(s:S2):List Value:=[.string s.x,.string s.y]
def B6.cells(s:B6):List Value:=[.int .i64 s.a,.int .i64 s.b,.string s.c,.string s.e,.string s.l,.string s.m]
def H3.cells(s:H3):List Value:=[.int .i64 s.j,.int .i64 s.w,.string s.q]
theorem S2.one(s:S2):∀u∈ s.cells,u.oneCell'=true:=by simp[S2.cells,Value.oneCell']
theorem B6.one(s:B6):∀u∈ s.cells,u.oneCell'=true:=by simp[B6.cells,Value.oneCell']
theorem H3.one(s:H3):∀u∈ s.cells,u.oneCell'=true:=by simp[H3.cells,Value.oneCell']
structure ARow {α:Type} (c:α→List Value) (w:World) (a:Option Addr) (cap:Nat) (es:List α):Prop where
 fit:es.length≤cap
 row:CRow w a (es.flatMap c)
section
variable {α:Type} {c:α→List Value} {sz:Nat}
theorem ARow.below{w w':World}{a:Option Addr}{cap:Nat}{es:List α}(h:ARow c w a cap es)(hb:Below w.heap.size w w'):ARow c w' a cap es:=⟨h.fit,h.row.below hb⟩
theorem ARow.left{w:World}{a:Option Addr}{cap:Nat}{es fs:List α}(h:ARow c w a cap (es++fs)):ARow c w a cap es:=by
 refine⟨?_,?_⟩
 ·
  have:=h.fit;simp at this;omega
 ·
  have:=h.row;rw[List.flatMap_append] at this;exact this.left
theorem Qcf(hc:∀e,(c e).length=sz)(es:List α):(es.flatMap c).length=es.length*sz:=by
 induction es with
 |nil=>simp
 |cons e l ih=>rw[List.flatMap_cons,List.length_append,ih,hc,List.length_cons,Nat.succ_mul];omega
theorem Qd9(hc:∀e,∀u∈ c e,u.oneCell'=true)(es:List α):∀u∈ es.flatMap c,u.oneCell'=true:=by
 intro u hu;obtain⟨e,_,h⟩:=List.mem_flatMap.1 hu;exact hc e u h
theorem Qdd(hc:∀e,(c e).length=sz):∀(es:List α) (i:Nat) (e:α) (j:Nat) (u:Value),es[i]?=some e→(c e)[j]?=some u→(es.flatMap c)[i*sz+j]?=some u
 | [],i,e,j,u,h,_=>by simp at h
 |g :: l,0,e,j,u,h,hj=>by
  obtain rfl:g=e:=by simpa using h
  rw[List.flatMap_cons,Nat.zero_mul,Nat.zero_add,List.getElem?_append_left (List.getElem?_eq_some_iff.1 hj).1];exact hj
 |g :: l,i+1,e,j,u,h,hj=>by
  have:=Qdd hc l i e j u (by simpa using h) hj;rw[List.flatMap_cons,List.getElem?_append_right (by rw[hc,Nat.succ_mul];omega),hc,show (i+1)*sz+j - sz=i*sz+j by rw[Nat.succ_mul];omega];exact this
theorem ARow.at(hc:∀e,(c e).length=sz)(h0:0<sz){w:World}{a:Option Addr}{cap:Nat}{es:List α}(h:ARow c w a cap es){i:Nat}{e:α}(hi:es[i]?=some e):
 ∃b off,a=some ⟨b,off,none⟩∧b<w.heap.size∧∀j u,(c e)[j]?=some u→w.cell? ⟨b,off+i*sz+j,none⟩=some u:=by
 have h1:∃u,(c e)[0]?=some u:=⟨_,List.getElem?_eq_getElem (by rw[hc];exact h0)⟩;obtain⟨u,hu⟩:=h1;obtain⟨b,off,ha,hb,_⟩:=h.row.cell _ _ (Qdd hc es i e 0 u hi hu);refine⟨b,off,ha,hb,fun j v hv=>?_⟩;obtain⟨b',off',ha',_,hcell⟩:=h.row.cell _ _ (Qdd hc es i e j v hi hv);rw[ha] at ha';cases ha';rw[Nat.add_assoc];exact hcell
end
theorem ARow.spot{w:World}{a:Option Addr}{cap:Nat}{es:List S2}(h:ARow S2.cells w a cap es){i:Nat}{e:S2}(hi:es[i]?=some e):
 ∃b off,a=some ⟨b,off,none⟩∧b<w.heap.size∧w.cell? ⟨b,off+i*2,none⟩=some (.string e.x)∧w.cell? ⟨b,off+i*2+1,none⟩=some (.string e.y):=by
 obtain⟨b,off,h1,h2,h3⟩:=h.at (sz:=2) (fun _=>rfl) (by decide) hi;exact⟨b,off,h1,h2,h3 0 _ rfl,h3 1 _ rfl⟩
theorem ARow.bar{w:World}{a:Option Addr}{cap:Nat}{es:List B6}(h:ARow B6.cells w a cap es){i:Nat}{e:B6}(hi:es[i]?=some e):
 ∃b off,a=some ⟨b,off,none⟩∧b<w.heap.size∧w.cell? ⟨b,off+i*6,none⟩=some (.int .i64 e.a)∧w.cell? ⟨b,off+i*6+1,none⟩=some (.int .i64 e.b)∧w.cell? ⟨b,off+i*6+2,none⟩=some (.string e.c)∧w.cell? ⟨b,off+i*6+3,none⟩=some (.string e.e)∧w.cell? ⟨b,off+i*6+4,none⟩=some (.string e.l)∧w.cell? ⟨b,off+i*6+5,none⟩=some (.string e.m):=by
 obtain⟨b,off,h1,h2,h3⟩:=h.at (sz:=6) (fun _=>rfl) (by decide) hi;exact⟨b,off,h1,h2,h3 0 _ rfl,h3 1 _ rfl,h3 2 _ rfl,h3 3 _ rfl,h3 4 _ rfl,h3 5 _ rfl⟩
theorem ARow.hold{w:World}{a:Option Addr}{cap:Nat}{es:List H3}(h:ARow H3.cells w a cap es){i:Nat}{e:H3}(hi:es[i]?=some e):
 ∃b off,a=some ⟨b,off,none⟩∧b<w.heap.size∧w.cell? ⟨b,off+i*3,none⟩=some (.int .i64 e.j)∧w.cell? ⟨b,off+i*3+1,none⟩=some (.int .i64 e.w)∧w.cell? ⟨b,off+i*3+2,none⟩=some (.string e.q):=by
 obtain⟨b,off,h1,h2,h3⟩:=h.at (sz:=3) (fun _=>rfl) (by decide) hi;exact⟨b,off,h1,h2,h3 0 _ rfl,h3 1 _ rfl,h3 2 _ rfl⟩
def tc(s:ByteArray):List Value:=[.string s]
theorem ARow.text{w:World}{a:Option Addr}{cap:Nat}{es:List ByteArray}(h:ARow tc w a cap es){i:Nat}{e:ByteArray}(hi:es[i]?=some e):∃b off,a=some ⟨b,off,none⟩∧b<w.heap.size∧w.cell? ⟨b,off+i,none⟩=some (.string e):=by
 obtain⟨b,off,h1,h2,h3⟩:=h.at (sz:=1) (fun _=>rfl) (by decide) hi;have:=h3 0 _ rfl;rw[Nat.mul_one,Nat.add_zero] at this;exact⟨b,off,h1,h2,this⟩
end Go.Proofs.YtodfmpjhcmapmaaGreatDoor
