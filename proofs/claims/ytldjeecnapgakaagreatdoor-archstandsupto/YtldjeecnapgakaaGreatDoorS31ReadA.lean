/- Rows of things that a call's arguments read as. -/
import Derived.Test.YtldjeecnapgakaaGreatDoorS28FVal
import Derived.Deep.Slices
import Derived.KernelRfl
import Derived.Test.YtldjeecnapgakaaGreatDoorRows
import Derived.ProofKit
import Derived.OpenShut
import Derived.Carry
import Derived.Lib.LaidTab
import Derived.Shelf.LaysM
import Derived.Deep.RegionLaw
import Derived.Deep.Upon
import Derived.Laws.OwnMore
namespace Go.Proofs.YtldjeecnapgakaaGreatDoor
open Go
set_option linter.unusedVariables false
section
variable {P:Program} {ops:Array Oper} {Q:Exit→Act→World→Prop} {md:Region.Mode} {S:World→Prop} {k:Nat}
end
theorem Qpl(ds:List Nat)(h:Small 10 ds):decVal (ds.reverse.map (fun d=>UInt8.ofNat (48+d)))=val 10 ds:=by
 induction ds with
 |nil=>rfl
 |cons d l ih=>
  have h1:=h d (List.mem_cons_self ..);have h2:=ih fun e he=>h e (List.mem_cons_of_mem _ he)
  have h3:(UInt8.ofNat (48+d)).toNat=48+d:=by
   rw[UInt8.toNat_ofNat'];omega
  rw[List.reverse_cons,List.map_append,List.map_cons,List.map_nil,Qc2,h2,h3,Qa6];omega
theorem IsDec.dig{l:List UInt8}{n:Nat}(h:IsDec l n):IsDig l∧decVal l=n:=by
 rcases h with ⟨rfl,rfl⟩|⟨h0,ds,hd,rfl⟩
 · exact⟨⟨by decide,fun c hc=>by simp at hc;subst hc;decide⟩,by decide⟩
 ·
  refine⟨⟨?_,?_⟩,by rw[Qpl ds hd.small];exact hd.eq⟩
  ·
   intro hn;have:ds= []:=by simpa using hn
   subst this;exact h0 (by rw[←hd.eq];rfl)
  ·
   intro c hc;obtain⟨d,hm,rfl⟩:=List.mem_map.1 hc;have h1:=hd.small d (by simpa using hm);rw[UInt8.toNat_ofNat'];omega
theorem Qpm{l:List UInt8}(h:AllDigits l):Lib.index l [47]= -1:=by
 induction l with
 |nil=>rfl
 |cons c l ih=>
  have h1:=h c (List.mem_cons_self ..);have h2:=ih fun d hd=>h d (List.mem_cons_of_mem _ hd)
  have h3:((47:UInt8) == c)=false:=by
   rw[beq_eq_false_iff_ne];rintro rfl;exact absurd h1.1 (by decide)
  unfold Lib.index;rw[h2];simp[List.isPrefixOf,h3]
theorem Qpn{l:List UInt8}(d:List UInt8)(h:AllDigits l):Lib.index (l++47 :: d) [47]=l.length:=by
 induction l with
 |nil=>simp[Lib.index,List.isPrefixOf]
 |cons c l ih=>
  have h1:=h c (List.mem_cons_self ..);have h2:=ih fun d hd=>h d (List.mem_cons_of_mem _ hd)
  have h3:((47:UInt8) == c)=false:=by
   rw[beq_eq_false_iff_ne];rintro rfl;exact absurd h1.1 (by decide)
  have h4:((l.length:Int) == -1)=false:=by
   rw[beq_eq_false_iff_ne];omega
  rw[List.cons_append];unfold Lib.index;rw[h2];simp[List.isPrefixOf,h3,h4]
theorem Qe1{l:List UInt8}(h:AllDigits l):Lib.cut l [47]=(l,[],false):=by
 unfold Lib.cut;rw[Qpm h];rfl
theorem Qe2{l:List UInt8}(d:List UInt8)(h:AllDigits l):Lib.cut (l++47 :: d) [47]=(l,d,true):=by
 unfold Lib.cut;rw[Qpn d h,if_pos (by omega)];simp
theorem Qh6{l:List UInt8}(t:List UInt8)(h:IsDig l):Lib.hasPrefix (l++t) [45]=false:=by
 obtain⟨h0,h⟩:=h;cases l with
 |nil=>exact absurd rfl h0
 |cons c l=>
  have h1:=h c (List.mem_cons_self ..);have h3:((45:UInt8) == c)=false:=by
   rw[beq_eq_false_iff_ne];rintro rfl;exact absurd h1.1 (by decide)
  simp[Lib.hasPrefix,List.isPrefixOf,h3]
theorem Qpo{l:List UInt8}(t:List UInt8)(h:IsDig l):Lib.trimPrefix (l++t) [45]=l++t:=by
 unfold Lib.trimPrefix;rw[Qh6 t h];rfl
theorem Qh7(t:List UInt8):Lib.hasPrefix (45 :: t) [45]=true:=by
 simp[Lib.hasPrefix,List.isPrefixOf]
theorem Qpp(t:List UInt8):Lib.trimPrefix (45 :: t) [45]=t:=by
 unfold Lib.trimPrefix;rw[Qh7 t];rfl
theorem Qh8(X:Int):sgn (decide (X<0)) X.natAbs=X:=by
 unfold sgn;by_cases h:X<0
 · simp[h];omega
 · simp[h];omega
theorem QText.back{l:List UInt8}{q:Rat}(h:QText l q):QOf l q:=by
 obtain⟨m,⟨k,hk,rfl⟩,h⟩:=h;obtain⟨hd,hv⟩:=hk.dig;have e1:∀t,Lib.hasPrefix ((if q.num<0 then 45 :: k else k)++t) [45]=decide (q.num<0):=by
  intro t;by_cases h0:q.num<0
  · simp only[h0,if_true,decide_true,List.cons_append];exact Qh7 _
  · simp only[h0,if_false,decide_false];exact Qh6 t hd
 have e2:∀t,Lib.trimPrefix ((if q.num<0 then 45 :: k else k)++t) [45]=k++t:=by
  intro t;by_cases h0:q.num<0
  · simp only[h0,if_true,List.cons_append];exact Qpp _
  · simp only[h0,if_false];exact Qpo t hd
 rcases h with ⟨h1,rfl⟩|⟨h1,d,hdd,rfl⟩
 ·
  have e3:=e1 [];have e4:=e2 [];rw[List.append_nil] at e3 e4;rw[List.append_nil] at e4;have:=Qdg (c1:=k) (c2:=[]) (bar:=false) e4 e3 (by rw[Qe1 hd.2]) (by rw[Qe1 hd.2]) (by rw[Qe1 hd.2]) hd (fun h=>by cases h);rw[hv,Qh8] at this;have e5:mkRat q.num (if false=true then decVal [] else 1)=q:=by
   have:=Rat.mkRat_self q;rw[h1] at this;exact this
  rw[e5] at this;exact this
 ·
  obtain⟨gd,gv⟩:=hdd.dig;have:=Qdg (c1:=k) (c2:=d) (bar:=true) (e2 (47 :: d)) (e1 (47 :: d)) (by rw[Qe2 d hd.2]) (by rw[Qe2 d hd.2]) (by rw[Qe2 d hd.2]) hd (fun _=>gd);rw[hv,Qh8,gv] at this;have e5:mkRat q.num (if true=true then q.den else 1)=q:=Rat.mkRat_self q;rw[e5] at this;exact this
theorem QText.len{s:ByteArray}{q:Rat}{K:Nat}(h:QText s.data.toList q)(hq:Fits q K):s.size≤2*K+4:=by
 obtain⟨m,⟨k,hk,rfl⟩,h⟩:=h;have h2:=hk.len hq.1;have h3:(if q.num<0 then 45 :: k else k).length≤k.length+1:=by split<;>simp
 have h4:s.data.toList.length=s.size:=by simp
 rcases h with ⟨_,h⟩|⟨_,d,hd,h⟩
 · rw[h] at h4;omega
 ·
  have h5:=hd.len hq.2;rw[h,List.length_append,List.length_cons] at h4;omega
end Go.Proofs.YtldjeecnapgakaaGreatDoor
namespace Go.Proofs.YtldjeecnapgakaaGreatDoor
open Go.RowKit
set_option linter.unusedVariables false
set_option linter.unusedSimpArgs false
theorem Qii:Tryz.prog.cellsOf 23=1:=by kernel_rfl
section
variable {H:Type} {enc:TypeId × Value→H} {P:Program} {w:World} {base:Nat} {spare:Nat→Bool} {held:Bool} {fuel:Nat} {cs:List Value} {x:DataW H × List MemPlace} {tF tS tQ:TypeId} {f0 f1 g0 g1:Field}
end
end Go.Proofs.YtldjeecnapgakaaGreatDoor
namespace Go.Proofs.YtldjeecnapgakaaGreatDoor
open Go.ChangeShapes Go.WideShapes Go.ChangeAt Go.RowKit
set_option linter.unusedVariables false
set_option linter.unusedSimpArgs false
theorem own:ownKnob Tryz.prog.godebug=none:=by kernel_rfl
theorem Qck:laidOutB Tryz.prog=true:=by kernel_rfl
theorem Qi1{H:Type}{d:DataW H}{l:List (DataW H)}(h:d∈ l):Rows.uptoBulk d≤Rows.uptoBulkAll l:=by
 induction l with
 |nil=>cases h
 |cons x r ih=>
  simp only[Rows.uptoBulkAll];rcases List.mem_cons.1 h with rfl|h
  · omega
  · have:=ih h;omega
theorem Qqs{H:Type}(l r:List (DataW H)):Rows.uptoBulkAll l≤Rows.uptoBulk (.slice l r):=by
 simp only[Rows.uptoBulk];omega
theorem Qi2{P:Program}{W:World}{x:String × DataW Unit}{l:List (String × DataW Unit)}(h:laidMet P (x :: l) W):laidMet P l W:=by
 obtain⟨ps,⟨g,t,cs,fuel,p,q,_,_,_,_,hl,rfl⟩,hn,hc⟩:=h;exact⟨q,hl,(List.nodup_append.1 hn).2.1,fun b off hm=>hc b off (List.mem_append.2 (.inr hm))⟩
theorem gTen:Tryz.prog.globalNamed "internal/strconv.uint64pow10" =some 6:=by kernel_rfl
theorem Qqt:(Tryz.prog.globals[6]?).map (·.type)=some 228:=by kernel_rfl
theorem Qqu:Tryz.prog.cellsOf 228=20:=by kernel_rfl
theorem Qqv:Tryz.prog.cellsOf 119=1:=by kernel_rfl
theorem Qqw:(Rows.laid_internal_strconv_uint64pow10:DataW Unit)=Lib.tabData .u64 Lib.pow10Tab:=by kernel_rfl
theorem Qqx{W:World}{rest:List (String × DataW Unit)}(h:laidMet Tryz.prog (("internal/strconv.uint64pow10",Rows.laid_internal_strconv_uint64pow10) :: rest) W):Tab W:=by
 rw[Qqw] at h;exact Lib.tabIs_of_head gTen Qqt Tryz.underlying228 Tryz.underlying119 Qqv Qqu h
theorem Qqy{W:World}(h:W.ShapedOpen Tryz.prog):∃m,W.cell? ⟨1,0,none⟩=some (.int .i64 m):=
 cell_of_shapedOpen_int (zero:=#[.int .i64 0]) (t:=3) h (of_decide_eq_true (by kernel_rfl)) (by kernel_rfl) rfl (by kernel_rfl) (by kernel_rfl) Tryz.underlying3
def flat1:DataW Unit→List Value
 | .lit (.int k z)=>[.int k z]
 | .lit (.string bs)=>[.string ⟨bs.toArray⟩]
 |_=>[]
def flat2:DataW Unit→List Value
 | .agg ps=>ps.flatMap flat1
 |d=>flat1 d
def flat3:DataW Unit→List Value
 | .agg ps=>ps.flatMap flat2
 |d=>flat1 d
def put(g:Nat)(d:DataW Unit)(w:World):World:={ w with heap:=w.heap.modify g fun
 | .cells _ t frozen=>.cells (flat3 d).toArray t frozen
 |o=>o }
end Go.Proofs.YtldjeecnapgakaaGreatDoor
namespace Go.Proofs.YtldjeecnapgakaaGreatDoor
open Go.RowKit
set_option linter.unusedVariables false
set_option linter.unusedSimpArgs false
structure CRow (w:World) (a:Option Addr) (xs:List Value):Prop where
 cell:∀j u,xs[j]?=some u→∃b off,a=some ⟨b,off,none⟩∧b<w.heap.size∧w.cell? ⟨b,off+j,none⟩=some u
theorem CRow.below{w w':World}{a:Option Addr}{xs:List Value}(h:CRow w a xs)(hb:Below w.heap.size w w'):CRow w' a xs:=by
 refine⟨fun j u hj=>?_⟩;obtain⟨b,off,h1,h2,h3⟩:=h.cell j u hj;exact⟨b,off,h1,by have:=hb.size;omega,(hb.cell (p:=⟨b,off+j,none⟩) h2).trans h3⟩
section
variable {P:Program} {t e:TypeId} {i:TypeInfo} {size:Nat}
end
theorem Qrv:(Tryz.prog.info? 23).map (fun i=>(i.zero,i.size,i.bytes))=some (some (.string ⟨#[]⟩),1,16):=by kernel_rfl
def textsV(ss:List ByteArray):List Value:=ss.map Value.string
theorem Qrw(n:Nat):madeCells (Value.cells (.string ⟨#[]⟩)) n=(textsV (List.replicate n ⟨#[]⟩)).toArray:=by
 have e:Value.cells (.string ⟨#[]⟩)=#[.string ⟨#[]⟩]:=by rfl
 rw[e];apply Array.ext';rw[toList_madeCells_one];simp[textsV]
theorem Qrx(n:Nat)(hn:n≤1048576)(w:World):(Instr.makeSlice 24 (.int .i64 n) (.int .i64 n)).run Tryz.prog w=.ok (.slice (some ⟨w.heap.size,0,.none⟩) n n) (w.alloc (.cells (textsV (List.replicate n ⟨#[]⟩)).toArray 23)):=by
 obtain⟨i,hi,h⟩:=Option.map_eq_some_iff.1 Qrv;simp only[Prod.mk.injEq] at h;obtain⟨hz,hs,hb⟩:=h;have:=run_make w 24 23 i _ Tryz.underlying24 hi hz .i64 .i64 n n (by omega) (by omega) (by rw[hb];omega) (by omega);rw[Int.toNat_natCast,hs,Nat.mul_one,Qrw] at this;exact this
theorem Qry(ss:List ByteArray)(k:Nat)(s:ByteArray):textsV (ss.set k s)=(textsV ss).set k (.string s):=by simp[textsV]
structure ARow {α:Type} (c:α→List Value) (w:World) (a:Option Addr) (cap:Nat) (es:List α):Prop where
 fit:es.length≤cap
 row:CRow w a (es.flatMap c)
section
variable {α:Type} {c:α→List Value} {sz:Nat}
theorem ARow.below{w w':World}{a:Option Addr}{cap:Nat}{es:List α}(h:ARow c w a cap es)(hb:Below w.heap.size w w'):ARow c w' a cap es:=⟨h.fit,h.row.below hb⟩
theorem Qgq(hc:∀e,(c e).length=sz)(es:List α):(es.flatMap c).length=es.length*sz:=by
 induction es with
 |nil=>simp
 |cons e l ih=>rw[List.flatMap_cons,List.length_append,ih,hc,List.length_cons,Nat.succ_mul];omega
theorem Qbt(hc:∀e,(c e).length=sz):∀(es:List α) (i:Nat) (e:α) (j:Nat) (u:Value),es[i]?=some e→(c e)[j]?=some u→(es.flatMap c)[i*sz+j]?=some u
 | [],i,e,j,u,h,_=>by simp at h
 |g :: l,0,e,j,u,h,hj=>by
  obtain rfl:g=e:=by simpa using h
  rw[List.flatMap_cons,Nat.zero_mul,Nat.zero_add,List.getElem?_append_left (List.getElem?_eq_some_iff.1 hj).1];exact hj
 |g :: l,i+1,e,j,u,h,hj=>by
  have:=Qbt hc l i e j u (by simpa using h) hj;rw[List.flatMap_cons,List.getElem?_append_right (by rw[hc,Nat.succ_mul];omega),hc,show (i+1)*sz+j - sz=i*sz+j by rw[Nat.succ_mul];omega];exact this
theorem ARow.at(hc:∀e,(c e).length=sz)(h0:0<sz){w:World}{a:Option Addr}{cap:Nat}{es:List α}(h:ARow c w a cap es){i:Nat}{e:α}(hi:es[i]?=some e):
 ∃b off,a=some ⟨b,off,none⟩∧b<w.heap.size∧∀j u,(c e)[j]?=some u→w.cell? ⟨b,off+i*sz+j,none⟩=some u:=by
 have h1:∃u,(c e)[0]?=some u:=⟨_,List.getElem?_eq_getElem (by rw[hc];exact h0)⟩;obtain⟨u,hu⟩:=h1;obtain⟨b,off,ha,hb,_⟩:=h.row.cell _ _ (Qbt hc es i e 0 u hi hu);refine⟨b,off,ha,hb,fun j v hv=>?_⟩;obtain⟨b',off',ha',_,hcell⟩:=h.row.cell _ _ (Qbt hc es i e j v hi hv);rw[ha] at ha';cases ha';rw[Nat.add_assoc];exact hcell
end
theorem Qqp{q:Rat}(h:¬q=0):sgn3 q.num=if q.num<0 then -1 else 1:=by
 have h1:q.num≠0:=fun hc=>h (Rat.num_eq_zero.1 hc)
 unfold sgn3;by_cases h2:q.num<0
 · rw[if_pos h2,if_pos h2]
 · rw[if_neg h2,if_neg h2,if_neg h1]
set_option maxHeartbeats 1000000 in
theorem Qfa{v:Value}{q:Rat}{w:World}(hx:FracV w v q):Calls Tryz.prog 35 #[v] w fun e w'=>e=.returned (.int .i64 (sgn3 q.num))∧Below w.heap.size w w':=by
 have HX:=Hi hx;obtain⟨neg,a,n,c,b,m,d,rfl,hx⟩:=hx;have HN:=Hi hx.neg;clear hx;go_enter Tryz.func35,Tryz.ntmps35;go_wp2_with fail;obtain⟨W,hW⟩:∃W,w.alloc (.cells #[.bool neg,.slice a n c,.slice b m d] 63)=W:=⟨_,rfl⟩;have HB0:Hid (Below w.heap.size w W):=Hi (by rw[←hW];exact(Below.refl _ _).alloc (Nat.le_refl _) _);have HSB:Hid (SB W w.heap.size 63 #[.bool neg,.slice a n c,.slice b m d]):=Hi (by rw[←hW];exact SB.new w _ _);rw[hW];clear hW;go_fit (Qgy (HX.out.below HB0.out));rintro e w1 ⟨rfl,hb1⟩;have hs:=HSB.out.below hb1 HSB.out.lt;have k0:w1.cell? ⟨w.heap.size,0,none⟩=some (.bool neg):=hs.cell 0;have HB1:=Hi (HB0.out.trans (hb1.mono HB0.out.size));clear hb1 hs;by_cases h:q=0
 ·
  have hd:decide (q=0)=true:=decide_eq_true h;rw[hd];go_wp2;go_ret;exact⟨by rw[h];rfl,HB1.out⟩
 ·
  have hd:decide (q=0)=false:=decide_eq_false h;rw[hd];have e3:=Qqp h;by_cases h2:q.num<0
  ·
   obtain rfl:neg=true:=by rw[HN.out];exact decide_eq_true h2
   rw[if_pos h2] at e3;have E3:=Hi e3;clear e3 HN;go_wp2;go_ret;exact⟨by rw[E3.out];rfl,HB1.out⟩
  ·
   obtain rfl:neg=false:=by rw[HN.out];exact decide_eq_false h2
   rw[if_neg h2] at e3;have E3:=Hi e3;clear e3 HN;go_wp2;go_ret;exact⟨by rw[E3.out];rfl,HB1.out⟩
end Go.Proofs.YtldjeecnapgakaaGreatDoor
namespace Go.Proofs.YtldjeecnapgakaaGreatDoor
open Go
set_option linter.unusedVariables false
section
variable {P:Program} {ops:Array Oper} {Q:Exit→Act→World→Prop} {md:Region.Mode} {S:World→Prop} {D:List Nat}
def NoneOf(D:List Nat)(listed:Array Bool):Prop:=∀d∈ D,listed.getD d true=false
theorem NoneOf.set{listed:Array Bool}{j:Nat}(h:NoneOf D listed)(hj:j ∉ D):NoneOf D (listed.setIfInBounds j true):=fun d hd=>by
 have hne:j≠d:=fun e=>hj (e ▸ hd)
 rw[_root_.Go.getD_set_ne true hne];exact h d hd
theorem NoneOf.back{listed:Array Bool}{j:Nat}(h:NoneOf D (listed.setIfInBounds j true)):j ∉ D∧NoneOf D listed:=by
 have hj:j ∉ D:=fun hd=>by
  have:=h j hd;simp at this
 refine⟨hj,fun d hd=>?_⟩;have hne:j≠d:=fun e=>hj (e ▸ hd)
 have:=h d hd;rw[_root_.Go.getD_set_ne true hne] at this;exact this
theorem Qpk{i j:Nat}{listed:Array Bool}{oj:Oper}(hr:i∈ Region.ready md ops listed)(hall:∀e∈ oj.after,Region.binds md e=true→listed.getD e.on false=true):∀e∈ oj.after,Region.binds md e=true→e.on≠i:=fun e he hb heq=>by
 have h1:=hall e he hb;have h0:=(mem_ready.1 hr).1;rw[heq] at h1;rcases Nat.lt_or_ge i listed.size with h'|h'
 · simp[h'] at h0 h1;rw[h0] at h1;cases h1
 · simp[Array.getElem?_eq_none h'] at h1
end
section
variable {P:Program} {ops:Array Oper} {Q:Exit→Act→World→Prop} {md:Region.Mode} {S T:World→Prop} {D:List Nat}
def AnyE(P:Program)(md:Region.Mode)(ops:Array Oper)(Q:Exit→Act→World→Prop)(S T:World→Prop)(D:List Nat):Nat→Array Bool→Act→World→Prop
 |0,listed,a,w=>Region.ready md ops listed= []∧Q .normal a w
 |fuel+1,listed,a,w=>(Region.ready md ops listed= []→Q .normal a w)∧∀i∈ Region.ready md ops listed,wpOp P ops Q i (fun a' w'=>((i ∉ D→NoneOf D listed→S w')∧T w')∧AnyE P md ops Q S T D fuel (listed.setIfInBounds i true) a' w') a w
theorem AnyE.any:∀(fuel:Nat) (listed:Array Bool) (a:Act) (w:World),AnyE P md ops Q S T D fuel listed a w→wpAny P md ops Q fuel listed a w
 |0,_,_,_,h=>h
 |fuel+1,_,_,_,h=>⟨h.1,fun i hi=>wpOp_mono (fun a' w' h'=>AnyE.any fuel _ a' w' h'.2) (h.2 i hi)⟩
theorem AnyE.firstT{i:Nat}{oi:Oper}{v:Value}(hi:ops[i]?=some oi)(hsel:∀(j:Nat) (o:Oper) cs b,ops[j]?=some o→o.op≠.select cs b)
 (hQ:∀c a w,Q (.panic c) (a.put oi.dst v) w→Q (.panic c) a w) (hiD:i ∉ D):
 ∀(fuel:Nat) (listed:Array Bool) (a:Act) (w:World),
  (∀j oj,ops[j]?=some oj→j≠i→listed.getD j true=false→(∀e∈ oj.after,Region.binds md e=true→e.on≠i)→oi.apart ops oj=true)→
  i∈ Region.ready md ops listed→YieldsIf P ops T oi v a→(NoneOf D listed→S w)→T w→
  AnyE P md ops Q S T D fuel (listed.setIfInBounds i true) (a.put oi.dst v) w→AnyE P md ops Q S T D (fuel+1) listed a w:=by
 intro fuel
 induction fuel with
 |zero=>
  intro listed a w _ hr hy hS hT H;refine⟨fun h=>(by rw[h] at hr;cases hr),fun j hj=>?_⟩;by_cases hji:j=i
  · subst hji;exact hy.wpOp hi hT ⟨⟨fun _=>hS,hT⟩,H⟩
  ·
   have:=ready_mono hj hji;rw[H.1] at this;cases this
 |succ fuel ih=>
  intro listed a w hfree hr hy hS hT H;refine⟨fun h=>(by rw[h] at hr;cases hr),fun j hj=>?_⟩;by_cases hji:j=i
  · subst hji;exact hy.wpOp hi hT ⟨⟨fun _=>hS,hT⟩,H⟩
  ·
   have h1:=H.2 j (ready_mono hj hji);obtain⟨hjun,oj,hoj,hall⟩:=mem_ready.1 hj;have hnot:=Qpk (j:=j) hr hall;have h2:=wpOp_putIf hoj (hfree j oj hoj hji hjun hnot) (fun cs b=>hsel i oi cs b hi) (fun cs b=>hsel j oj cs b hoj) hQ hy h1;have hfree':∀m om,ops[m]?=some om→m≠i→(listed.setIfInBounds j true).getD m true=false→
    (∀e∈ om.after,Region.binds md e=true→e.on≠i)→oi.apart ops om=true:=fun m om hm hmi hun hno=>by
    refine hfree m om hm hmi ?_ hno;by_cases hjm:j=m
    · subst hjm;exact hjun
    · rw[_root_.Go.getD_set_ne true hjm] at hun;exact hun
   refine wpOp_mono (fun a' w' h3=>⟨⟨?_,h3.2.1.2⟩,ih (listed.setIfInBounds j true) a' w' hfree' (ready_mono hr (Ne.symm hji)) h3.1 ?_ h3.2.1.2 ?_⟩) h2
   · intro hj' hN
     exact h3.2.1.1 hj' (hN.set hiD)
   · intro hN
     exact h3.2.1.1 hN.back.1 (hN.back.2.set hiD)
   · rw[Array.setIfInBounds_comm _ _ hji]
     exact h3.2.2
theorem AnyE.takeT{i:Nat}{oi:Oper}{v:Value}{fuel:Nat}{listed:Array Bool}{a:Act}{w:World}(hi:ops[i]?=some oi)
 (hs:Region.noSelect ops=true) (hf:Region.free md ops listed i=true) (hr:(Region.ready md ops listed).contains i=true) (hd:D.contains i=false)
 (hQ:∀c a w,Q (.panic c) (a.put oi.dst v) w→Q (.panic c) a w) (hy:YieldsIf P ops T oi v a) (hS:NoneOf D listed→S w) (hT:T w)
 (h:AnyE P md ops Q S T D fuel (listed.setIfInBounds i true) (a.put oi.dst v) w):AnyE P md ops Q S T D (fuel+1) listed a w:=
 AnyE.firstT hi (Region.noSelect_spec hs) hQ (fun hm=>by rw[List.contains_iff_mem.2 hm] at hd;cases hd) fuel listed a w (Region.free_spec hi hf) (by simpa using hr) hy hS hT h
theorem AnyE.one{i:Nat}{o:Oper}{fuel:Nat}{listed:Array Bool}{a:Act}{w:World}(hr:Region.ready md ops listed= [i])(ho:ops[i]?=some o)
 (h:∀K':Act→World→Prop,Shut (∀a w,((i ∉ D→NoneOf D listed→S w)∧T w)→AnyE P md ops Q S T D fuel (listed.setIfInBounds i true) a w→K' a w)→if Region.wanted o (yielded ops a.tmps)=true then Oper.wp P o a w K' Q else K' (a.put o.dst undef) w):AnyE P md ops Q S T D (fuel+1) listed a w:=by
 refine⟨(fun h0=>by rw[hr] at h0;cases h0),fun j hj=>?_⟩;rw[hr] at hj;obtain rfl:=List.mem_singleton.1 hj;exact wpOp_step ho (fun K' hK=>h K' (fun a w hS hW=>hK a w ⟨hS,hW⟩))
theorem AnyE.done{listed:Array Bool}{a:Act}{w:World}(hr:Region.ready md ops listed= [])(h:Q .normal a w):∀fuel,AnyE P md ops Q S T D fuel listed a w
 |0=>⟨hr,h⟩
 |_+1=>⟨fun _=>h,by rw[hr];simp⟩
theorem AnyE.begin{id:Nat}{a:Act}{w:World}(hm:P.follows .mixedOrders=true)
 (h:AnyE P .any ops Q S T D ops.size (Array.replicate ops.size false) a w.drew):(Code.region id ops true).wp P Q a w:=
 wp_region_any hm (AnyE.any _ _ _ _ h)
end
def Plan(is:List Nat)(p:Prop):Prop:=p
theorem Plan.of{p:Prop}(is:List Nat)(h:Plan is p):p:=h
theorem Plan.done{p:Prop}(h:p):Plan [] p:=h
section
variable {P:Program} {ops:Array Oper} {Q:Exit→Act→World→Prop} {md:Region.Mode} {S T:World→Prop} {D is:List Nat} {i:Nat} {oi:Oper} {v:Value} {fuel:Nat} {listed:Array Bool} {a:Act} {w:World}
theorem AnyE.beg{id:Nat}(hm:P.follows .mixedOrders=true)(hS:S w.drew)(hT:T w.drew)(h:AnyE P .any ops Q S T D ops.size (Array.replicate ops.size false) a w.drew):(Code.region id ops true).wp P Q a w:=AnyE.begin hm h
theorem AnyE.tp(hi:ops[i]?=some oi)(hs:Region.noSelect ops=true)(hf:Region.free md ops listed i=true)(hr:(Region.ready md ops listed).contains i=true)(hd:D.contains i=false)
 (hQ:∀c a w,Q (.panic c) (a.put oi.dst v) w→Q (.panic c) a w) (hS:NoneOf D listed→S w) (hT:T w) (hy:YieldsIf P ops T oi v a)
 (h:Plan is (AnyE P md ops Q S T D fuel (listed.setIfInBounds i true) (a.put oi.dst v) w)):Plan (i :: is) (AnyE P md ops Q S T D (fuel+1) listed a w):=
 AnyE.takeT hi hs hf hr hd hQ hy hS hT h
theorem AnyE.op{o:Oper}(hr:Region.ready md ops listed= [i])(ho:ops[i]?=some o)
 (h:∀K':Act→World→Prop,Shut (∀a w,((i ∉ D→NoneOf D listed→S w)∧T w)→Plan is (AnyE P md ops Q S T D fuel (listed.setIfInBounds i true) a w)→K' a w)→if Region.wanted o (yielded ops a.tmps)=true then Oper.wp P o a w K' Q else K' (a.put o.dst undef) w):Plan (i :: is) (AnyE P md ops Q S T D (fuel+1) listed a w):=
 AnyE.one hr ho h
variable {k:Nat}
end
end Go.Proofs.YtldjeecnapgakaaGreatDoor
namespace Go.Proofs.YtldjeecnapgakaaGreatDoor
open Go.RowKit
set_option linter.unusedVariables false
set_option linter.unusedSimpArgs false
def TLst(w:World)(a:Option Addr)(l:List ByteArray):Prop:=∀(i:Nat) (s:ByteArray),l[i]?=some s→∃b off,a=some ⟨b,off,none⟩∧b<w.heap.size∧w.cell? ⟨b,off+i,none⟩=some (.string s)
theorem SB.texts{w:World}{g:Nat}{t:TypeId}{l:List ByteArray}(h:SB w g t (textsV l).toArray):TLst w (some ⟨g,0,none⟩) l:=fun i s hi=>⟨g,0,rfl,h.lt,by
 rw[Nat.zero_add,h.cell]
 simp[textsV,hi]⟩
set_option maxRecDepth 100000 in
theorem Qmf(a b:Option Addr)(c d:Nat)(l:List ByteArray)(w:World)(hu:TLst w a l)(hv:TLst w b l)(hs:l.length≤1000000):
 Calls Tryz.prog 23 #[.slice a l.length c,.slice b l.length d] w fun e w'=>e=.returned (.bool true)∧Below w.heap.size w w':=by
 have HC:=Hi hu;have HD:=Hi hv;clear hu hv;go_enter Tryz.func23,Tryz.ntmps23;go_wp2_with fail;go_loopw [13] (fun iv wr=>∃i:Nat,i≤l.length∧iv=.int .i64 i∧Below w.heap.size w wr) (fun iv _=>l.length - (intOf iv).toNat)
 case atStart=>exact⟨0,by omega,rfl,Below.refl _ _⟩
 case round=>
  obtain⟨i,hi,rfl,hb⟩:=hrel;have HB:=Hi hb;by_cases hie:i<l.length
  ·
   obtain⟨f,hf⟩:∃f,l[i]?=some f:=⟨l[i],List.getElem?_eq_getElem hie⟩;obtain⟨b1,o1,rfl,h1,d1⟩:=HC.out i f hf;obtain⟨b2,o2,rfl,h2,d2⟩:=HD.out i f hf;have d1':wr.cell? ⟨b1,o1+i,none⟩=some (.string f):=(hb.cell (p:=⟨b1,o1+i,none⟩) h1).trans d1;have d2':wr.cell? ⟨b2,o2+i,none⟩=some (.string f):=(hb.cell (p:=⟨b2,o2+i,none⟩) h2).trans d2;have q3:((i:Int)<(l.length:Int)):=by omega
   clear hf d1 d2 hb h1 h2;go_wp2_with fail;go_region;go_wp2;go_roundw
   case rel=>exact⟨i+1,by omega,by go_num,HB.out.drew⟩
   case measure=>simp[intOf];omega
  ·
   obtain rfl:i=l.length:=by omega
   clear hb;go_wp2;go_ret;exact⟨rfl,HB.out⟩
def textD{H:Type}(s:ByteArray):DataW H:=.lit (.string s.data.toList)
section
variable {H:Type} {enc:TypeId × Value→H} {P:Program} {w:World} {base:Nat} {spare:Nat→Bool} {held:Bool} {fuel:Nat} {cs:List Value} {x:DataW H × List MemPlace} {tE tS tQ tI tI':TypeId} {f0 f1 f2 f3 f4 f5:Field}
theorem Qih{α:Type}{c:α→List Value}{dat:α→DataW H}{sz:Nat}{t:TypeId}(dflt:α)(hsz:0<sz)(hc:∀e,(c e).length=sz)(ut:P.underlying t=some (.slice tE))(cE:P.cellsOf tE=sz)
 (each:∀(fuel:Nat) (cs:List Value) (x:DataW H × List MemPlace),DataW.trod enc P w base spare held fuel tE cs=some x→∃e,cs=c e∧x.1=dat e)
 (h:DataW.trod enc P w base spare held fuel t cs=some x):
 ∃(a:Option Addr) (cap:Nat) (es:List α),cs= [.slice a es.length cap]∧ARow c w a cap es∧(∀l r,x.1=.slice l r→l=es.map dat)∧((es= []∧x.1=.nil)∨∃l r,x.1=.slice l r):=by
 rcases Deep.open_slice ut h with ⟨rfl,rfl⟩|⟨a,len,cap,m,n,D,Pl,rfl,hb,hlc,hcm,hm,rfl,hD⟩
 · exact⟨none,0,[],rfl,⟨by simp,⟨fun j u hj=>by simp at hj⟩⟩,fun l r e=>by simp at e,.inl ⟨rfl,rfl⟩⟩
 have hlm:len≤m:=by rw[hm];split<;>omega
 have eachI:∀i,∃f:α,i<len→w.cells? base (a.add (i*sz)) sz=some (c f)∧D i=dat f:=by
  intro i;by_cases hi:i<len
  ·
   obtain⟨cs',h1,h2⟩:=hD i (by omega);obtain⟨f,rfl,hd⟩:=each _ _ _ h2;rw[cE] at h1;exact⟨f,fun _=>⟨h1,hd⟩⟩
  · exact⟨dflt,fun h=>absurd h hi⟩
 obtain⟨F,hF⟩:=Classical.axiomOfChoice eachI;refine⟨some a,cap,(List.range len).map F,by simp,⟨by simpa using hlc,⟨?_⟩⟩,?_,.inr ⟨_,_,rfl⟩⟩
 ·
  intro j u hj;have hjl:=(List.getElem?_eq_some_iff.1 hj).1;rw[Qgq hc] at hjl;simp only[List.length_map,List.length_range] at hjl;have hil:j / sz<len:=(Nat.div_lt_iff_lt_mul hsz).2 hjl;have hkl:j % sz<sz:=Nat.mod_lt _ hsz;obtain⟨u',hu'⟩:∃u',(c (F (j / sz)))[j % sz]?=some u':=⟨_,List.getElem?_eq_getElem (by rw[hc];exact hkl)⟩;have h1:((List.range len).map F)[j / sz]?=some (F (j / sz)):=by simp[hil]
  have h2:=Qbt hc _ _ _ _ _ h1 hu';rw[Nat.div_add_mod' j sz,hj] at h2;obtain rfl:=Option.some.inj h2;obtain⟨hcl,_⟩:=hF _ hil;obtain⟨_,_,hcell⟩:=World.cells?_some hcl;obtain⟨b,off,sp⟩:=a;have c0:=hcell (j % sz) (by omega);have z:=(World.cells?_some (hF 0 (Nat.lt_of_le_of_lt (Nat.zero_le _) hil)).1).2.2 0 hsz;have hsp:sp=none:=by
   cases sp with
   |none=>rfl
   |some v=>
    exfalso
    obtain⟨z0,hz0⟩:∃z0,(c (F 0))[0]?=some z0:=⟨_,List.getElem?_eq_getElem (by rw[hc];exact hsz)⟩;rw[hz0] at z;simp only[Nat.zero_mul,Addr.add,if_true,World.cell?] at z
    split at z<;>simp at z
  subst hsp;have ea:∀j k,(Addr.add ⟨b,off,none⟩ j).add k=⟨b,off+j+k,none⟩:=by
   intro j k;unfold Addr.add;by_cases hj:j=0<;>by_cases hk:k=0<;>simp[hj,hk]
  rw[ea,hu',Nat.add_assoc,Nat.div_add_mod'] at c0;exact⟨b,off,rfl,World.block_lt_of_cell? _ _ c0,c0⟩
 ·
  intro l r e;have e1:(List.range len).map D=l:=by simpa using (DataW.slice.inj e).1
  rw[←e1,List.map_map];refine List.map_congr_left fun i hi=>?_
  exact(hF i (by simpa using hi)).2
end
end Go.Proofs.YtldjeecnapgakaaGreatDoor
