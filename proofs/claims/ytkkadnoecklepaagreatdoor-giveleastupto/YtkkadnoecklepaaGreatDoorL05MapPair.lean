import Derived.Tactics
import Derived.Test.YtkkadnoecklepaaGreatDoorL04FVal
import Derived.Deep.Slices
import Derived.KernelRfl
import Derived.Test.YtkkadnoecklepaaGreatDoorRows
import Derived.ProofKit
import Derived.OpenShut
import Derived.Carry
import Derived.Lib.LaidTab
import Derived.Shelf.LaysM
import Derived.Deep.RegionLaw
import Derived.Deep.Upon
import Derived.Laws.OwnMore
import Derived.WideKeyRuns
import Derived.MapKept
namespace Go.Proofs.YtkkadnoecklepaaGreatDoor
open Go Go.RowKit
set_option linter.unusedSimpArgs false
set_option linter.unusedVariables false
set_option maxHeartbeats 8000000
set_option maxRecDepth 1000000
abbrev Fact:=Value→World→Prop
def NoF:Fact:=fun _ _=>False
def Is(c:Value):Fact:=fun v _=>v=c
def Stays(φ:Fact):Prop:=∀v w w',Below w.heap.size w w'→φ v w→φ v w'
theorem Qad{c:Value}{w:World}{p:Value→Prop}:(∀v,Is c v w→p v)↔p c:=⟨fun h=>h c rfl,fun h v e=>e ▸ h⟩
theorem Is.stays(c:Value):Stays (Is c):=fun _ _ _ _ h=>h
def dstOf(ops:Array Oper)(j:Nat):Option Tmp:=(ops[j]?).bind (·.dst)
def DstsOK(ops:Array Oper)(m:Nat)(ds:Nat→Option Tmp):Bool:=(List.range m).all fun j=>dstOf ops j == ds j
def depsOf(ops:Array Oper)(i:Nat):List Nat:=match ops[i]? with
 |some o=>(o.after.toList.filter (Region.binds .any)).map (·.on)
 |none=>[]
theorem Qlv{ops:Array Oper}{i j:Nat}{o:Oper}(d:ops[i]?=some o):j∈ depsOf ops i↔∃e∈ o.after,Region.binds .any e=true∧e.on=j:=by
 unfold depsOf;rw[d];simp only[List.mem_map,List.mem_filter,Array.mem_toList_iff];constructor
 · rintro⟨e,⟨a,b⟩,c⟩;exact⟨e,a,b,c⟩
 · rintro⟨e,a,b,c⟩;exact⟨e,⟨a,b⟩,c⟩
def RegOK(ops:Array Oper)(n:Nat):Bool:=
 Region.noSelect ops && (List.range ops.size).all fun i=>match ops[i]? with
  |none=>false
  |some o=>(depsOf ops i).all (fun j=>decide (j<i)) && (match o.dst with|some d=>decide (d<n)|none=>true) &&
   (List.range ops.size).all fun j=>j == i || match dstOf ops j with
     |none=>true
     |some d=>!(o.dst == some d)
def JsOK(ops:Array Oper)(i:Nat)(js:List Nat):Bool:=match ops[i]? with
 |none=>false
 |some o=>js.all (fun j=>(depsOf ops i).contains j) && (List.range ops.size).all fun j=>j == i || js.contains j || (depsOf ops j).contains i || match dstOf ops j with
  |none=>true
  |some d=>!(o.looksAt ops).contains d
theorem JsOK.spec{ops:Array Oper}{i:Nat}{c:List Nat}{o:Oper}(l:ops[i]?=some o)(h:JsOK ops i c=true):(∀j∈ c,j∈ depsOf ops i)∧∀j d,i≠j→dstOf ops j=some d→d∈ o.looksAt ops→j∈ c∨i∈ depsOf ops j:=by
 unfold JsOK at h;rw[l] at h;simp only[Bool.and_eq_true,List.all_eq_true,List.mem_range,List.contains_eq_mem,decide_eq_true_eq] at h;refine⟨h.1,fun j d e b m=>?_⟩;have f:j<ops.size:=by
  unfold dstOf at b;rcases Nat.lt_or_ge j ops.size with g|g
  · exact g
  · rw[Array.getElem?_eq_none g] at b;cases b
 have k:=h.2 j f;rw[b] at k;simp only[Bool.or_eq_true,beq_iff_eq,Ne.symm e,false_or,Bool.not_eq_true',decide_eq_false_iff_not,decide_eq_true_eq] at k;rcases k with (a|a)|a
 · exact .inl a
 · exact .inr a
 · exact absurd m a
structure RegFine (ops:Array Oper) (n:Nat):Prop where
 sel:∀(j:Nat) (o:Oper) cs b,ops[j]?=some o→o.op≠.select cs b
 low:∀i j,j∈ depsOf ops i→j<i
 fits:∀i d,dstOf ops i=some d→d<n
 one:∀i j d,dstOf ops i=some d→dstOf ops j=some d→i=j
theorem Qu4{ops:Array Oper}{j d:Nat}(h:dstOf ops j=some d):j<ops.size:=by
 unfold dstOf at h;rcases Nat.lt_or_ge j ops.size with a|a
 · exact a
 · rw[Array.getElem?_eq_none a] at h;cases h
theorem RegFine.of{ops:Array Oper}{n:Nat}(h:RegOK ops n=true):RegFine ops n:=by
 unfold RegOK at h;simp only[Bool.and_eq_true,List.all_eq_true,List.mem_range] at h;obtain⟨r,h⟩:=h;have f:∀i o,ops[i]?=some o→(∀j∈ depsOf ops i,j<i)∧(∀d,o.dst=some d→d<n)∧∀j d,j≠i→dstOf ops j=some d→o.dst≠some d:=by
  intro i o b;have k:i<ops.size:=(Array.getElem?_eq_some_iff.1 b).1;have l:=h i k;rw[b] at l;simp only[Bool.and_eq_true,List.all_eq_true,decide_eq_true_eq,List.mem_range] at l;obtain⟨⟨s,p⟩,t⟩:=l;refine⟨s,?_,?_⟩
  · intro d c;rw[c] at p;simpa using p
  ·
   intro j d e c;have q:=t j (Qu4 c);rw[c] at q
   simpa only[Bool.or_eq_true,beq_iff_eq,e,false_or,Bool.not_eq_true',beq_eq_false_iff_ne] using q
 have a:∀i d,dstOf ops i=some d→∃o,ops[i]?=some o∧o.dst=some d:=by
  intro i d c;unfold dstOf at c;cases b:ops[i]? with
  |none=>rw[b] at c;cases c
  |some o=>rw[b] at c;exact⟨o,rfl,c⟩
 refine⟨Region.noSelect_spec r,?_,?_,?_⟩
 ·
  intro i j e;cases b:ops[i]? with
  |none=>unfold depsOf at e;rw[b] at e;cases e
  |some o=>exact(f i o b).1 j e
 ·
  intro i d c;obtain⟨o,b,m⟩:=a i d c;exact(f i o b).2.1 d m
 ·
  intro i j d k e;obtain⟨o,b,m⟩:=a i d k;by_cases g:j=i
  · exact g.symm
  · exact absurd m ((f i o b).2.2 j d g e)
def putL(ops:Array Oper)(xs:Nat→Value):List Nat→Act→Act
 | [],a=>a
 |j :: js,a=>putL ops xs js (a.put (dstOf ops j) (xs j))
theorem Qg1{ops:Array Oper}{xs:Nat→Value}:∀(L M:List Nat) (a:Act),putL ops xs (L++M) a=putL ops xs M (putL ops xs L a)
 | [],_,_=>rfl
 |j :: L,M,a=>Qg1 L M _
theorem Qg2{ops:Array Oper}{xs b:Nat→Value}:∀(L:List Nat) (a:Act),(∀j∈ L,xs j=b j)→putL ops xs L a=putL ops b L a
 | [],_,_=>rfl
 |j :: L,a,h=>by
  unfold putL;rw[h j (List.mem_cons_self)];exact Qg2 L _ (fun k hk=>h k (List.mem_cons_of_mem _ hk))
theorem Qlw(a:Act)(d:Option Tmp)(v:Value):(a.put d v).defers=a.defers:=by cases d<;>rfl
theorem Qlx(a:Act)(d:Option Tmp)(v:Value):(a.put d v).tmps.size=a.tmps.size:=by cases d<;>simp[Act.put]
theorem Qg3{ops:Array Oper}{xs:Nat→Value}:∀(L:List Nat) (a:Act),(putL ops xs L a).defers=a.defers
 | [],_=>rfl
 |j :: L,a=>by unfold putL;rw[Qg3 L,Qlw]
theorem Qg4{ops:Array Oper}{xs:Nat→Value}:∀(L:List Nat) (a:Act),(putL ops xs L a).tmps.size=a.tmps.size
 | [],_=>rfl
 |j :: L,a=>by unfold putL;rw[Qg4 L,Qlx]
theorem Qu5(a:Act){d:Option Tmp}{t:Nat}(v:Value)(h:d≠some t):(a.put d v).tmps[t]?=a.tmps[t]?:=by
 cases d with
 |none=>rfl
 |some e=>simp only[Act.put];exact Array.getElem?_setIfInBounds_ne (fun b=>h (by rw[b]))
theorem Qly(a:Act){t:Nat}(v:Value)(h:t<a.tmps.size):(a.put (some t) v).tmps[t]?=some v:=by
 simp[Act.put,Array.getElem?_setIfInBounds_self_of_lt h]
theorem Qbp{ops:Array Oper}{xs:Nat→Value}{t:Nat}:∀(L:List Nat) (a:Act),(∀j∈ L,dstOf ops j≠some t)→(putL ops xs L a).tmps[t]?=a.tmps[t]?
 | [],_,_=>rfl
 |j :: L,a,h=>by
  unfold putL;rw[Qbp L _ (fun k hk=>h k (List.mem_cons_of_mem _ hk)),Qu5 _ _ (h j List.mem_cons_self)]
theorem Qb4{ops:Array Oper}{n:Nat}(F:RegFine ops n){xs:Nat→Value}{t j:Nat}(b:dstOf ops j=some t):∀(L:List Nat) (a:Act),a.tmps.size=n→j∈ L→(putL ops xs L a).tmps[t]?=some (xs j)
 | [],_,_,h=>by cases h
 |k :: L,a,hn,h=>by
  unfold putL;by_cases c:j∈ L
  · exact Qb4 F b L _ (by rw[Qlx];exact hn) c
  ·
   rcases List.mem_cons.1 h with rfl|d
   · rw[Qbp L _ (fun m e f=>c (by rw[F.one _ _ _ b f];exact e)),b]
     exact Qly _ _ (by rw[hn];exact F.fits _ _ b)
   · exact absurd d c
theorem Qg5{ops:Array Oper}{n:Nat}(F:RegFine ops n){xs:Nat→Value}{L M:List Nat}{a:Act}(g:a.tmps.size=n)(h:∀j,j∈ L↔j∈ M):putL ops xs L a=putL ops xs M a:=by
 have e:(putL ops xs L a).tmps=(putL ops xs M a).tmps:=by
  apply Array.ext_getElem?;intro t;by_cases f:∃j∈ L,dstOf ops j=some t
  · obtain⟨j,b,c⟩:=f
    rw[Qb4 F c L a g b,Qb4 F c M a g ((h j).1 b)]
  · rw[Qbp L a (fun j b c=>f ⟨j,b,c⟩),Qbp M a (fun j b c=>f ⟨j,(h j).2 b,c⟩)]
 have d:(putL ops xs L a).defers=(putL ops xs M a).defers:=by rw[Qg3,Qg3]
 revert e d;generalize putL ops xs L a=p;generalize putL ops xs M a=q;intro e d;cases p;cases q;simp only at e d;rw[e,d]
section
variable {P:Program} {ops:Array Oper} {Q:Exit→Act→World→Prop}
def left(d:Option Tmp)(a:Act):Value:=match d with
 |some t=>a.tmps.getD t undef
 |none=>undef
@[go_sem] theorem Qx8 (t:Tmp) (a:Act):left (some t) a=a.tmps.getD t undef:=rfl
@[go_sem] theorem Qx9 (a:Act):left none a=undef:=rfl
def Nope:Exit→Act→World→Prop:=fun _ _ _=>False
theorem Qg6{i:Nat}{o:Oper}{a b:Act}{w:World}{K:Act→World→Prop}{N:Value→World→Prop}(t:ops[i]?=some o)
 (y:∀d,o.dst=some d→d<b.tmps.size) (z:execOp a.eval o=execOp b.eval o) (A:Region.wanted o (yielded ops a.tmps)=Region.wanted o (yielded ops b.tmps))
 (h:if Region.wanted o (yielded ops b.tmps)=true then Oper.wp P o b w (fun s w'=>s.defers=b.defers∧N (left o.dst s) w') Nope else N undef w)
 (p:∀v w',N v w'∨(o.dst=none∧N undef w')→K (a.put o.dst v) w'):wpOp P ops Q i K a w:=by
 have B:∀v,o.dst=none∧left o.dst (b.put o.dst v)=undef∨left o.dst (b.put o.dst v)=v:=by
  intro v;cases hdd:o.dst with
  |none=>exact .inl ⟨rfl,rfl⟩
  |some d=>
   refine .inr ?_;have:=Qly b v (y d hdd);simp only[left,Array.getD_eq_getD_getElem?,this,Option.getD_some]
 have j:∀v w',N (left o.dst (b.put o.dst v)) w'→K (a.put o.dst v) w':=by
  intro v w' m;rcases B v with ⟨C,q⟩|q
  · rw[q] at m;exact p v w' (.inr ⟨C,m⟩)
  · rw[q] at m;exact p v w' (.inl m)
 unfold wpOp;simp only[t];rw[A];by_cases l:Region.wanted o (yielded ops b.tmps)=true
 ·
  rw[if_pos l] at h ⊢;refine .inl ?_;unfold Oper.wp at h ⊢;rw[z];generalize (execOp b.eval o).run P w=r at*;cases r with
  |ok n w'=>
   cases n<;>simp only[Oper.upon] at h ⊢
   case value u=>exact j u w' h.2
   case skip=>exact j undef w' h.2
   case defer d=>
    have:=h.1;rw[Qlw] at this;have:=congrArg List.length this;simp at this
   case enter f args=>
    refine Calls.mono h fun e k g=>?_
    cases e with
    |returned u=>exact j u k g.2
    |panicked c=>exact g.elim
    |outgrown=>obtain⟨_,_,D⟩:=g;exact D.elim
   case row row args=>exact Rows.mono h fun u k g=>j u k g.2
  |halt x w'=>
   cases x<;>simp only[Oper.upon] at h ⊢
   case panic u=>exact h.elim
 · rw[if_neg l] at h ⊢
   exact p undef w (.inl h)
def Given(ds:Nat→Option Tmp)(Φ:List Fact)(w:World)(N:Act→Prop):List Nat→Act→Prop
 | [],a=>N a
 |j :: js,a=>∀v,Φ.getD j NoF v w→Given ds Φ w N js (a.put (ds j) v)
theorem Given.use{c:Nat→Option Tmp}{Φ:List Fact}{w:World}{N:Act→Prop}{xs:Nat→Value}:∀(b:List Nat) (a:Act),(∀j∈ b,c j=dstOf ops j)→Given c Φ w N b a→(∀j∈ b,Φ.getD j NoF (xs j) w)→N (putL ops xs b a)
 | [],_,_,h,_=>h
 |j :: b,a,hd,h,hx=>by
  have d:=h (xs j) (hx j List.mem_cons_self);rw[hd j List.mem_cons_self] at d;exact Given.use b _ (fun k hk=>hd k (List.mem_cons_of_mem _ hk)) d (fun k hk=>hx k (List.mem_cons_of_mem _ hk))
theorem Given.more{c:Nat→Option Tmp}{Φ Ψ:List Fact}{w:World}{N:Act→Prop}:∀(b:List Nat) (a:Act),(∀j∈ b,Φ.getD j NoF=Ψ.getD j NoF)→Given c Φ w N b a→Given c Ψ w N b a
 | [],_,_,h=>h
 |j :: b,a,he,h=>fun v d=>Given.more b _ (fun k hk=>he k (List.mem_cons_of_mem _ hk)) (h v (by rw[he j List.mem_cons_self];exact d))
end
structure RelOK (R:World→World→Prop):Prop where
 refl:∀w,R w w
 trans:∀{u v w},R u v→R v w→R u w
def StaysX(R:World→World→Prop)(φ:Fact):Prop:=∀v w w',R w w'→φ v w→φ v w'
theorem Is.staysX(R:World→World→Prop)(c:Value):StaysX R (Is c):=fun _ _ _ _ h=>h
def StepOX(R:World→World→Prop)(P:Program)(ops:Array Oper)(a0:Act)(w0:World)(ds:Nat→Option Tmp)(Φ:List Fact)(o:Oper)(js:List Nat)(φ:Fact):Prop:=
 ∀w,R w0 w→Given ds Φ w (fun b=>∀K:Value→World→Prop,Shut (∀v w',R w w'→φ v w'→K v w')→if Region.wanted o (yielded ops b.tmps)=true then Oper.wp P o b w (fun a' w'=>a'.defers=b.defers∧K (left o.dst a') w') Nope else K undef w) js a0
def StepsOX(R:World→World→Prop)(P:Program)(ops:Array Oper)(a0:Act)(w0:World)(ds:Nat→Option Tmp)(Φ:List Fact):Prop:=
 ∀i φ,Φ[i]?=some φ→StaysX R φ∧∃o js,ops[i]?=some o∧JsOK ops i js=true∧StepOX R P ops a0 w0 ds Φ o js φ
def RegX(R:World→World→Prop)(P:Program)(ops:Array Oper)(Q:Exit→Act→World→Prop)(m n:Nat)(a0:Act)(w0:World)(ds:Nat→Option Tmp)(Φ:List Fact):Prop:=
 (∀j,j<m→ds j=dstOf ops j)→RegFine ops n→a0.tmps.size=n→StepsOX R P ops a0 w0 ds Φ→wpAny P .any ops Q ops.size (Array.replicate ops.size false) a0 w0
structure AtX (R:World→World→Prop) (P:Program) (ops:Array Oper) (a0:Act) (w0:World) (Φ:List Fact) (L:List Nat) (listed:Array Bool) (xs:Nat→Value) (a:Act) (w:World):Prop where
 nodup:L.Nodup
 lt:∀j∈ L,j<ops.size
 size:listed.size=ops.size
 marks:∀j,j<ops.size→listed[j]?=some (decide (j∈ L))
 closed:∀i∈ L,∀j∈ depsOf ops i,j∈ L
 act:a=putL ops xs L a0
 facts:∀j∈ L,Φ.getD j NoF (xs j) w
 base:R w0 w
theorem Qu6:∀(L:List Nat) (n:Nat),L.Nodup→(∀j∈ L,j<n)→L.length≤n:=by
 intro L n a hl;have:=a.length_le_of_subset (l₂:=List.range n) (fun j b=>List.mem_range.2 (hl j b))
 simpa using this
theorem Qlz(L:List Nat)(n:Nat)(b:L.Nodup)(hl:∀j∈ L,j<n)(d:n≤L.length):∀j,j<n→j∈ L:=by
 intro j c;by_cases a:j∈ L
 · exact a
 ·
  have:=Qu6 (j :: L) n (List.nodup_cons.2 ⟨a,b⟩) (fun k hk=>by
   rcases List.mem_cons.1 hk with rfl|h
   · exact c
   · exact hl k h)
  simp at this;omega
section
variable {P:Program} {ops:Array Oper} {Q:Exit→Act→World→Prop} {R:World→World→Prop}
theorem RegX.begin{id n:Nat}{b:Act}{w:World}(m:Nat)(d:Nat→Option Tmp)(e:P.follows .mixedOrders=true)(a:DstsOK ops m d=true)(c:RegOK ops n=true)(f:b.tmps.size=n)
 (h:RegX R P ops Q m n b w.drew d []):(Code.region id ops true).wp P Q b w:=
 wp_region_any e (h (fun j g=>by
  unfold DstsOK at a;simp only[List.all_eq_true,List.mem_range,beq_iff_eq] at a
  exact(a j g).symm) (RegFine.of c) f (fun i φ k=>by cases k))
theorem RegX.step{m n:Nat}{c:Act}{w0:World}{d:Nat→Option Tmp}{Φ:List Fact}{i:Nat}{o:Oper}{φ:Fact}(e:List Nat)(x:Φ.length=i)(s:ops[i]?=some o)(b:JsOK ops i e=true)
 (y:StaysX R φ) (h:StepOX R P ops c w0 d Φ o e φ) (z:RegX R P ops Q m n c w0 d (Φ++ [φ])):RegX R P ops Q m n c w0 d Φ:=fun f F A g=>by
 refine z f F A (fun k ψ hk=>?_);have B:k<Φ.length+1:=by
  have:=(List.getElem?_eq_some_iff.1 hk).1
  simpa using this
 have a:∀k,k≤Φ.length→∀j∈ depsOf ops k,Φ.getD j NoF=(Φ++ [φ]).getD j NoF:=fun k hk j b=>by
  have:=F.low k j b;rw[List.getD_eq_getElem?_getD,List.getD_eq_getElem?_getD,List.getElem?_append_left (by omega)]
 rcases Nat.lt_or_ge k Φ.length with t|t
 ·
  rw[List.getElem?_append_left t] at hk;obtain⟨C,D,l,u,v,E⟩:=g k ψ hk;exact⟨C,D,l,u,v,fun w p=>Given.more _ _ (fun j b=>a k (by omega) j ((JsOK.spec u v).1 j b)) (E w p)⟩
 ·
  have q:k=Φ.length:=by omega
  subst q;rw[List.getElem?_append_right (Nat.le_refl _)] at hk;simp only[Nat.sub_self,List.getElem?_cons_zero,Option.some.injEq] at hk;subst hk;subst x;exact⟨y,o,e,s,b,fun w p=>Given.more _ _ (fun j r=>a _ (Nat.le_refl _) j ((JsOK.spec s b).1 j r)) (h w p)⟩
theorem RegX.is(p:RelOK R){m n:Nat}{g:Act}{w0:World}{f:Nat→Option Tmp}{Φ:List Fact}{i:Nat}{o:Oper}{c:Value}(a:List Nat)(q:Φ.length=i)(r:ops[i]?=some o)(s:JsOK ops i a=true)
 (h:∀w,R w0 w→Given f Φ w (fun b=>∀K:Value→World→Prop,Shut (K c w)→if Region.wanted o (yielded ops b.tmps)=true then Oper.wp P o b w (fun d w'=>d.defers=b.defers∧K (left o.dst d) w') Nope else K undef w) a g)
 (t:RegX R P ops Q m n g w0 f (Φ++ [Is c])):RegX R P ops Q m n g w0 f Φ:=
 RegX.step a q r s (Is.staysX R c) (fun w u=>by
  have k:=h w u;revert k;generalize g=e;intro k;have l:∀(a:List Nat) (e:Act),Given f Φ w (fun b=>∀K:Value→World→Prop,Shut (K c w)→if Region.wanted o (yielded ops b.tmps)=true then Oper.wp P o b w (fun d w'=>d.defers=b.defers∧K (left o.dst d) w') Nope else K undef w) a e→Given f Φ w (fun b=>∀K:Value→World→Prop,Shut (∀v w',R w w'→Is c v w'→K v w')→if Region.wanted o (yielded ops b.tmps)=true then Oper.wp P o b w (fun d w'=>d.defers=b.defers∧K (left o.dst d) w') Nope else K undef w) a e:=by
   intro a
   induction a with
   |nil=>intro e h K x;exact h K (x c w (p.refl _) rfl)
   |cons j a y=>intro e h v z;exact y _ (h v z)
  exact l a e k) t
theorem AtX.ready{k:Act}{w0:World}{Φ:List Fact}{L:List Nat}{b:Array Bool}{xs:Nat→Value}{a:Act}{w:World}(H:AtX R P ops k w0 Φ L b xs a w){i:Nat}(l:i∈ Region.ready .any ops b):
 i<ops.size∧i ∉ L∧(∀j∈ depsOf ops i,j∈ L)∧∃o,ops[i]?=some o:=by
 obtain⟨h,o,f,m⟩:=mem_ready.1 l;have c:i<ops.size:=(Array.getElem?_eq_some_iff.1 f).1;have n:=H.marks i c;rw[Array.getD_eq_getD_getElem?,n] at h;refine⟨c,by simpa using h,fun j p=>?_,o,f⟩;obtain⟨e,q,r,rfl⟩:=(Qlv f).1 p;have d:=m e q r;rcases Nat.lt_or_ge e.on ops.size with g|g
 · rw[Array.getD_eq_getD_getElem?,H.marks _ g] at d
   simpa using d
 · rw[Array.getD_eq_getD_getElem?,Array.getElem?_eq_none (by rw[H.size];exact g)] at d
   cases d
theorem AtX.next(s:RelOK R){n:Nat}(F:RegFine ops n){g:Act}{w0:World}{Φ:List Fact}{L:List Nat}{b:Array Bool}{xs:Nat→Value}{a:Act}{w w':World}(C:g.tmps.size=n)(H:AtX R P ops g w0 Φ L b xs a w){i:Nat}(D:i<ops.size)(p:i ∉ L)(t:∀j∈ depsOf ops i,j∈ L)
 (l:∀j,StaysX R (Φ.getD j NoF)) (q:R w w') {v:Value} (z:Φ.getD i NoF v w') {d:Option Tmp} (m:dstOf ops i=d) {u:Value} (A:u=v∨d=none):
 AtX R P ops g w0 Φ (L++ [i]) (b.setIfInBounds i true) (fun j=>if j=i then v else xs j) (a.put d u) w':=by
 refine⟨?_,?_,?_,?_,?_,?_,?_,?_⟩
 · exact List.nodup_append.2 ⟨H.nodup,by simp,fun x B y r=>by simp at r;subst r;exact fun e=>p (e ▸ B)⟩
 ·
  intro j c;rcases List.mem_append.1 c with h|h
  · exact H.lt j h
  · simp at h;omega
 · simp[H.size]
 ·
  intro j c;by_cases f:j=i
  ·
   subst f;rw[Array.getElem?_setIfInBounds_self_of_lt (by rw[H.size];exact c)];simp
  · rw[Array.getElem?_setIfInBounds_ne (fun h=>f h.symm),H.marks j c]
    simp[f]
 ·
  intro k hk j c;rcases List.mem_append.1 hk with h|h
  · exact List.mem_append_left _ (H.closed k h j c)
  ·
   simp at h;subst h;exact List.mem_append_left _ (t j c)
 ·
  rw[Qg1,H.act];have e:putL ops (fun j=>if j=i then v else xs j) L g=putL ops xs L g:=Qg2 L g (fun j c=>if_neg (fun f:j=i=>p (f ▸ c)));rw[e]
  show _=(putL ops xs L g).put (dstOf ops i) (if i=i then v else xs i)
  rw[if_pos rfl,m];rcases A with rfl|rfl<;>rfl
 ·
  intro j c;by_cases f:j=i
  · subst f
    simpa using z
  ·
   have o:j∈ L:=by
    rcases List.mem_append.1 c with h|h
    · exact h
    · simp at h;exact absurd h f
   simp only[if_neg f];exact l j _ _ _ q (H.facts j o)
 · exact s.trans H.base q
theorem AtX.same{n:Nat}(F:RegFine ops n){d:Act}{w0:World}{Φ:List Fact}{L:List Nat}{f:Array Bool}{xs:Nat→Value}{a:Act}{w:World}(s:d.tmps.size=n)(H:AtX R P ops d w0 Φ L f xs a w){i:Nat}{o:Oper}(u:ops[i]?=some o)(v:i ∉ L)(z:∀j∈ depsOf ops i,j∈ L){l:List Nat}(k:JsOK ops i l=true):
 execOp a.eval o=execOp (putL ops xs l d).eval o∧Region.wanted o (yielded ops a.tmps)=Region.wanted o (yielded ops (putL ops xs l d).tmps):=by
 obtain⟨A,B⟩:=JsOK.spec u k;have m:∀t,t∈ o.looksAt ops→a.tmps[t]?=(putL ops xs l d).tmps[t]?:=by
  intro t p;rw[H.act];by_cases q:∃j∈ L,dstOf ops j=some t
  ·
   obtain⟨j,k,c⟩:=q;have r:i≠j:=fun e=>v (e ▸ k)
   rcases B j t r c p with h|h
   · rw[Qb4 F c L d s k,Qb4 F c _ d s h]
   · exact absurd (H.closed j k i h) v
  · rw[Qbp L d (fun j k c=>q ⟨j,k,c⟩),Qbp _ d (fun j k c=>q ⟨j,z j (A j k),c⟩)]
 constructor
 ·
  refine execOp_congr o (fun C b=>F.sel i o C b u) (fun x D=>?_);cases x with
  |tmp t=>
   have:=m t (List.mem_append_left _ (List.mem_filterMap.2 ⟨.tmp t,by simpa using D,rfl⟩));simp only[Act.eval,Array.getD_eq_getD_getElem?,this]
  |_=>rfl
 ·
  unfold Region.wanted;cases hg:o.guard with
  |none=>rfl
  |some gw=>
   obtain⟨g,y⟩:=gw;have E:yielded ops a.tmps g=yielded ops (putL ops xs l d).tmps g:=by
    unfold yielded;cases p:(ops[g]?).bind (·.dst) with
    |none=>rfl
    |some t=>
     have:=m t (by simp[Oper.looksAt,hg,p]);simp only[Option.bind_some,this]
   simp only[E]
theorem AtX.come(D:RelOK R){n:Nat}(F:RegFine ops n){l:Act}{w0:World}{Φ:List Fact}{L:List Nat}{c:Array Bool}{xs:Nat→Value}{a:Act}{w:World}(u:l.tmps.size=n){E:Nat→Option Tmp}{m:Nat}(y:∀j,j<m→E j=dstOf ops j)(V:Φ.length≤m)(p:StepsOX R P ops l w0 E Φ)(H:AtX R P ops l w0 Φ L c xs a w){i:Nat}(J:i∈ Region.ready .any ops c)(hl:i<Φ.length)
 {K:Act→World→Prop} (G:∀z I w',AtX R P ops l w0 Φ (L++ [i]) (c.setIfInBounds i true) z I w'→K I w'):wpOp P ops Q i K a w:=by
 obtain⟨q,A,x,o,k⟩:=H.ready J;have hφ:Φ[i]?=some (Φ.getD i NoF):=by rw[List.getD_eq_getElem?_getD,List.getElem?_eq_getElem hl];rfl
 obtain⟨_,W,M,r,f,O⟩:=p i _ hφ;rw[k] at r;cases r;have e:∀j,StaysX R (Φ.getD j NoF):=by
  intro j;rcases Nat.lt_or_ge j Φ.length with h|h
  · exact(p j _ (by rw[List.getD_eq_getElem?_getD,List.getElem?_eq_getElem h];rfl)).1
  · rw[List.getD_eq_getElem?_getD,List.getElem?_eq_none h]
    exact fun _ _ _ _ h=>h
 obtain⟨S,T⟩:=H.same F u k A x f;have U:=Given.use (xs:=xs) _ _ (fun j B=>y j (by have:=F.low i j ((JsOK.spec k f).1 j B);omega)) (O w H.base) (fun j B=>H.facts j (x j ((JsOK.spec k f).1 j B)));have g:dstOf ops i=o.dst:=by unfold dstOf;rw[k];rfl
 refine Qg6 (b:=putL ops xs M l) (N:=fun v w'=>R w w'∧Φ.getD i NoF v w') k (fun d C=>?_) S T (U (fun v w'=>R w w'∧Φ.getD i NoF v w') (fun v w' s t=>⟨s,t⟩)) ?_
 · rw[Qg4,u]
   exact F.fits i d (g.trans C)
 ·
  rintro v w' (⟨s,t⟩|⟨hnone,s,t⟩)
  · exact G _ _ _ (H.next D F u q A x e s t g (.inl rfl))
  · exact G _ _ _ (H.next D F u q A x e s t g (.inr hnone))
theorem AtX.none_ready{n:Nat}(F:RegFine ops n){g:Act}{w0:World}{Φ:List Fact}{L:List Nat}{b:Array Bool}{xs:Nat→Value}{a:Act}{w:World}(H:AtX R P ops g w0 Φ L b xs a w)(h:Region.ready .any ops b= []):∀j,j<ops.size→j∈ L:=by
 intro j
 induction j using Nat.strongRecOn with
 |_ j ih=>
  intro c;by_cases f:j∈ L
  · exact f
  ·
   have:j∈ Region.ready .any ops b:=mem_ready.2 ⟨by rw[Array.getD_eq_getD_getElem?,H.marks j c];simp[f],ops[j],Array.getElem?_eq_getElem c,fun e i k=>by
    have l:=(Qlv (Array.getElem?_eq_getElem c)).2 ⟨e,i,k,rfl⟩;have d:=F.low j _ l;rw[Array.getD_eq_getD_getElem?,H.marks _ (by omega)]
    simpa using ih _ d (by omega)⟩
   rw[h] at this;cases this
theorem Ql0(s:RelOK R){n:Nat}(F:RegFine ops n){g:Act}{w0:World}{Φ:List Fact}(t:g.tmps.size=n){p:Nat→Option Tmp}{m:Nat}(k:∀j,j<m→p j=dstOf ops j)(u:Φ.length≤m)(l:StepsOX R P ops g w0 p Φ)
 (d:∀L b xs a w,AtX R P ops g w0 Φ L b xs a w→(∀j,j<ops.size→j∈ L)→Q .normal a w)
 (f:∀i L b xs a w c,AtX R P ops g w0 Φ L b xs a w→i∈ Region.ready .any ops b→Φ.length≤i→L.length+(c+1)=ops.size→wpOp P ops Q i (wpAny P .any ops Q c (b.setIfInBounds i true)) a w):
 ∀(c:Nat) (L:List Nat) (b:Array Bool) (xs:Nat→Value) (a:Act) (w:World),AtX R P ops g w0 Φ L b xs a w→L.length+c=ops.size→wpAny P .any ops Q c b a w:=by
 intro c
 induction c with
 |zero=>
  intro L b xs a w H q;have e:=Qlz L ops.size H.nodup H.lt (by omega);refine⟨?_,d _ _ _ _ _ H e⟩;cases hr:Region.ready .any ops b with
  |nil=>rfl
  |cons i B=>
   obtain⟨v,x,_⟩:=H.ready (i:=i) (by rw[hr];exact List.mem_cons_self);exact absurd (e i v) x
 |succ c y=>
  intro L b xs a w H q;refine⟨fun h=>d _ _ _ _ _ H (H.none_ready F h),fun i r=>?_⟩;rcases Nat.lt_or_ge i Φ.length with h|h
  · exact H.come s F t k u l r h (fun o z w' A=>y _ _ o z w' A (by simp;omega))
  · exact f i L b xs a w c H r h q
theorem AtX.begin(b:RelOK R){a:Act}{w0:World}{Φ:List Fact}{xs:Nat→Value}:AtX R P ops a w0 Φ [] (Array.replicate ops.size false) xs a w0:=
 ⟨by simp,by simp,by simp,fun j c=>by simp[c],by simp,rfl,by simp,b.refl _⟩
end
def Rb:World→World→Prop:=fun w w'=>Below w.heap.size w w'
theorem Rb.ok:RelOK Rb:=⟨fun _=>Below.refl _ _,fun {u v w} (h:Below u.heap.size u v) (k:Below v.heap.size v w)=>(show Below u.heap.size u w from h.trans (k.mono h.size))⟩
def StepOK(P:Program)(ops:Array Oper)(a0:Act)(w0:World)(ds:Nat→Option Tmp)(Φ:List Fact)(o:Oper)(js:List Nat)(φ:Fact):Prop:=
 ∀w,Below w0.heap.size w0 w→Given ds Φ w (fun b=>∀K:Value→World→Prop,Shut (∀v w',Below w.heap.size w w'→φ v w'→K v w')→if Region.wanted o (yielded ops b.tmps)=true then Oper.wp P o b w (fun a' w'=>a'.defers=b.defers∧K (left o.dst a') w') Nope else K undef w) js a0
def StepsOK(P:Program)(ops:Array Oper)(a0:Act)(w0:World)(ds:Nat→Option Tmp)(Φ:List Fact):Prop:=
 ∀i φ,Φ[i]?=some φ→Stays φ∧∃o js,ops[i]?=some o∧JsOK ops i js=true∧StepOK P ops a0 w0 ds Φ o js φ
def RegG(P:Program)(ops:Array Oper)(Q:Exit→Act→World→Prop)(m n:Nat)(a0:Act)(w0:World)(ds:Nat→Option Tmp)(Φ:List Fact):Prop:=
 (∀j,j<m→ds j=dstOf ops j)→RegFine ops n→a0.tmps.size=n→StepsOK P ops a0 w0 ds Φ→wpAny P .any ops Q ops.size (Array.replicate ops.size false) a0 w0
section
variable {P:Program} {ops:Array Oper} {Q:Exit→Act→World→Prop}
theorem RegG.begin{id n:Nat}{a:Act}{w:World}(m:Nat)(b:Nat→Option Tmp)(e:P.follows .mixedOrders=true)(c:DstsOK ops m b=true)(d:RegOK ops n=true)(f:a.tmps.size=n)
 (h:RegG P ops Q m n a w.drew b []):(Code.region id ops true).wp P Q a w:=
 RegX.begin (R:=Rb) m b e c d f h
theorem RegG.step{m n:Nat}{a:Act}{w0:World}{b:Nat→Option Tmp}{Φ:List Fact}{i:Nat}{o:Oper}{φ:Fact}(c:List Nat)(d:Φ.length=i)(e:ops[i]?=some o)(f:JsOK ops i c=true)
 (g:Stays φ) (h:StepOK P ops a w0 b Φ o c φ) (j:RegG P ops Q m n a w0 b (Φ++ [φ])):RegG P ops Q m n a w0 b Φ:=
 RegX.step (R:=Rb) c d e f g h j
theorem RegG.is{m n:Nat}{a:Act}{w0:World}{d:Nat→Option Tmp}{Φ:List Fact}{i:Nat}{o:Oper}{c:Value}(e:List Nat)(g:Φ.length=i)(j:ops[i]?=some o)(k:JsOK ops i e=true)
 (h:∀w,Below w0.heap.size w0 w→Given d Φ w (fun b=>∀K:Value→World→Prop,Shut (K c w)→if Region.wanted o (yielded ops b.tmps)=true then Oper.wp P o b w (fun f w'=>f.defers=b.defers∧K (left o.dst f) w') Nope else K undef w) e a)
 (l:RegG P ops Q m n a w0 d (Φ++ [Is c])):RegG P ops Q m n a w0 d Φ:=
 RegX.is Rb.ok e g j k h l
abbrev At(P:Program)(ops:Array Oper)(a0:Act)(w0:World)(Φ:List Fact)(L:List Nat)(listed:Array Bool)(xs:Nat→Value)(a:Act)(w:World):Prop:=AtX Rb P ops a0 w0 Φ L listed xs a w
theorem At.next{n:Nat}(F:RegFine ops n){c:Act}{w0:World}{Φ:List Fact}{L:List Nat}{b:Array Bool}{xs:Nat→Value}{a:Act}{w w':World}(g:c.tmps.size=n)(H:At P ops c w0 Φ L b xs a w){i:Nat}(h:i<ops.size)(k:i ∉ L)(l:∀j∈ depsOf ops i,j∈ L)
 (e:∀j,Stays (Φ.getD j NoF)) (m:Below w.heap.size w w') {v:Value} (o:Φ.getD i NoF v w') {d:Option Tmp} (f:dstOf ops i=d) {u:Value} (p:u=v∨d=none):
 At P ops c w0 Φ (L++ [i]) (b.setIfInBounds i true) (fun j=>if j=i then v else xs j) (a.put d u) w':=
 AtX.next Rb.ok F g H h k l e m o f p
theorem Ql1{n:Nat}(F:RegFine ops n){e:Act}{w0:World}{Φ:List Fact}(l:e.tmps.size=n){k:Nat→Option Tmp}{m:Nat}(g:∀j,j<m→k j=dstOf ops j)(o:Φ.length≤m)(h:StepsOK P ops e w0 k Φ)
 (f:∀L b xs a w,At P ops e w0 Φ L b xs a w→(∀j,j<ops.size→j∈ L)→Q .normal a w)
 (d:∀i L b xs a w c,At P ops e w0 Φ L b xs a w→i∈ Region.ready .any ops b→Φ.length≤i→L.length+(c+1)=ops.size→wpOp P ops Q i (wpAny P .any ops Q c (b.setIfInBounds i true)) a w):
 ∀(c:Nat) (L:List Nat) (b:Array Bool) (xs:Nat→Value) (a:Act) (w:World),At P ops e w0 Φ L b xs a w→L.length+c=ops.size→wpAny P .any ops Q c b a w:=
 Ql0 Rb.ok F l g o h f d
theorem At.begin{a:Act}{w0:World}{Φ:List Fact}{xs:Nat→Value}:At P ops a w0 Φ [] (Array.replicate ops.size false) xs a w0:=
 AtX.begin Rb.ok
def FinG(ds:Nat→Option Tmp)(N:Act→Prop)(w:World):List Fact→Nat→Act→Prop
 | [],_,a=>N a
 |φ :: Φ,k,a=>∀v,φ v w→FinG ds N w Φ (k+1) (a.put (ds k) v)
theorem FinG.use{b:Nat→Option Tmp}{N:Act→Prop}{w:World}{xs:Nat→Value}:∀(Φ:List Fact) (k:Nat) (a:Act),(∀j,j<Φ.length→b (k+j)=dstOf ops (k+j))→FinG b N w Φ k a→(∀j,j<Φ.length→Φ.getD j NoF (xs (k+j)) w)→N (putL ops xs ((List.range Φ.length).map (k+ ·)) a)
 | [],_,_,_,h,_=>h
 |φ :: Φ,k,a,hd,h,hx=>by
  have c:=hd 0 (by simp);simp only[Nat.add_zero] at c;have d:=h (xs k) (by have:=hx 0 (by simp);simpa using this);have f:=FinG.use Φ (k+1) _ (fun j g=>by have:=hd (j+1) (by simp;omega);rw[show k+1+j=k+(j+1) by omega];exact this) d (fun j g=>by
   have:=hx (j+1) (by simp;omega);rw[List.getD_cons_succ] at this;rw[show k+1+j=k+(j+1) by omega]
   exact this)
  rw[List.length_cons,List.range_succ_eq_map,List.map_cons,List.map_map];unfold putL;rw[Nat.add_zero,←c];have e:(fun x=>k+x) ∘ Nat.succ=fun x=>k+1+x:=by funext x;simp only[Function.comp];omega
  rw[e];exact f
theorem RegG.fin{n:Nat}{d:Act}{w0:World}{m:Nat→Option Tmp}{Φ:List Fact}(hl:Φ.length=ops.size)(h:∀w,Below w0.heap.size w0 w→FinG m (fun a=>Q .normal a w) w Φ 0 d):RegG P ops Q ops.size n d w0 m Φ:=fun f F o l=>by
 refine Ql1 F o f (by omega) l (fun L b xs a w H c=>?_) (fun i L b xs a w p H q r _=>?_) ops.size [] _ (fun _=>undef) d w0 At.begin (by simp)
 ·
  have s:=FinG.use (ops:=ops) (xs:=xs) Φ 0 d (fun j g=>by rw[Nat.zero_add];exact f j (by omega)) (h w H.base) (fun j g=>by rw[Nat.zero_add];exact H.facts j (c j (by omega)));have e:putL ops xs L d=putL ops xs ((List.range Φ.length).map (0+ ·)) d:=by
   refine Qg5 F o (fun j=>?_);constructor
   · intro g;exact List.mem_map.2 ⟨j,List.mem_range.2 (by rw[hl];exact H.lt j g),by omega⟩
   ·
    intro g;obtain⟨k,hk,rfl⟩:=List.mem_map.1 g;exact c _ (by have:=List.mem_range.1 hk;omega)
  rw[H.act,e];exact s
 · have:=(H.ready q).1
   omega
def Waited(ops:Array Oper):Bool:=(List.range (ops.size - 1)).all fun j=>(List.range ops.size).any fun i=>(depsOf ops i).contains j
theorem At.last{n:Nat}(F:RegFine ops n){g:Act}{w0:World}{Φ:List Fact}{L:List Nat}{b:Array Bool}{xs:Nat→Value}{a:Act}{w:World}(H:At P ops g w0 Φ L b xs a w)(c:Waited ops=true){i:Nat}(h:i∈ Region.ready .any ops b)(hl:i+1=ops.size):∀j,j<i→j∈ L:=by
 obtain⟨_,_,l,_⟩:=H.ready h;have d:∀k j,k+j+1=i→j∈ L:=by
  intro k
  induction k using Nat.strongRecOn with
  |_ k ih=>
   intro j o;unfold Waited at c;simp only[List.all_eq_true,List.any_eq_true,List.mem_range,List.contains_eq_mem,decide_eq_true_eq] at c;obtain⟨m,q,e⟩:=c j (by omega);have p:=F.low m j e;by_cases f:m=i
   · subst f;exact l j e
   · exact H.closed m (ih (i - m - 1) (by omega) m (by omega)) j e
 intro j o;exact d (i - j - 1) j (by omega)
theorem RegG.last{n:Nat}{m:Act}{w0:World}{x:Nat→Option Tmp}{Φ:List Fact}{o:Oper}{i:Nat}(S:Φ.length=i)(hl:i+1=ops.size)(C:ops[i]?=some o)(D:Waited ops=true)
 (h:∀w,Below w0.heap.size w0 w→FinG x (fun a=>∀K:Act→World→Prop,Shut (∀t w',Q .normal t w'→K t w')→if Region.wanted o (yielded ops a.tmps)=true then Oper.wp P o a w K Q else K (a.put o.dst undef) w) w Φ 0 m):RegG P ops Q i n m w0 x Φ:=fun p F y u=>by
 refine Ql1 F y p (by omega) u (fun L b xs a w H c=>?_) (fun g L b xs a w q H r E T=>?_) ops.size [] _ (fun _=>undef) m w0 At.begin (by simp)
 ·
  have:=H.facts i (c i (by omega));rw[List.getD_eq_getElem?_getD,List.getElem?_eq_none (by omega)] at this;exact this.elim
 ·
  obtain⟨G,v,I,_⟩:=H.ready r;obtain rfl:g=i:=by omega
  have c:=H.last F D r hl;have z:g≤L.length:=by
   have:=(List.nodup_range (n:=g)).length_le_of_subset (l₂:=L) (fun j f=>c j (List.mem_range.1 f))
   simpa using this
  have A:=FinG.use (ops:=ops) (xs:=xs) Φ 0 m (fun j f=>by rw[Nat.zero_add];exact p j (by omega)) (h w H.base) (fun j f=>by rw[Nat.zero_add];exact H.facts j (c j (by omega)));have e:putL ops xs L m=putL ops xs ((List.range Φ.length).map (0+ ·)) m:=by
   refine Qg5 F y (fun j=>?_);constructor
   · intro f;exact List.mem_map.2 ⟨j,List.mem_range.2 (by have:=H.lt j f;have:j≠g:=fun e=>v (e ▸ f);omega),by omega⟩
   ·
    intro f;obtain⟨k,hk,rfl⟩:=List.mem_map.1 f;exact c _ (by have:=List.mem_range.1 hk;omega)
  rw[←e,←H.act] at A;have J:q=0:=by omega
  subst J;have d:Region.ready .any ops (b.setIfInBounds g true)= []:=by
   cases hr:Region.ready .any ops (b.setIfInBounds g true) with
   |nil=>rfl
   |cons j U=>
    obtain⟨s,V,M,_⟩:=mem_ready.1 (show j∈ Region.ready .any ops (b.setIfInBounds g true) by rw[hr];exact List.mem_cons_self);have f:j<ops.size:=(Array.getElem?_eq_some_iff.1 M).1;by_cases B:j=g
    ·
     subst B;rw[Array.getD_eq_getD_getElem?,Array.getElem?_setIfInBounds_self_of_lt (by rw[H.size];exact f)] at s;cases s
    ·
     rw[Array.getD_eq_getD_getElem?,Array.getElem?_setIfInBounds_ne (fun h=>B h.symm),H.marks j f] at s;simp only[Option.getD_some,decide_eq_false_iff_not] at s;exact absurd (c j (by omega)) s
  exact wpOp_step C (fun K' N=>A K' (fun t w' O=>N t w' ⟨d,O⟩))
end
section
variable {P:Program} {ops:Array Oper} {Q:Exit→Act→World→Prop}
theorem RegG.bg{id n:Nat}{a:Act}{w:World}(m:Nat)(b:Nat→Option Tmp)(h:RegG P ops Q m n a w.drew b [])
 (e:P.follows .mixedOrders=true:=by kernel_rfl) (c:DstsOK ops m b=true:=by kernel_rfl) (d:RegOK ops n=true:=by kernel_rfl) (f:a.tmps.size=n:=by rfl):(Code.region id ops true).wp P Q a w:=RegG.begin m b e c d f h
theorem RegG.pu{m n:Nat}{a:Act}{w0:World}{d:Nat→Option Tmp}{Φ:List Fact}{i:Nat}{o:Oper}{c:Value}{N:World→Prop}(f:List Nat)(h:∀w,Below w0.heap.size w0 w→N w)(j:RegG P ops Q m n a w0 d (Φ++ [Is c]))
 (k:Φ.length=i:=by simp only[List.nil_append,List.cons_append,List.length_append,List.length_cons,List.length_nil,Nat.reduceAdd];exact rfl)
 (l:ops[i]?=some o:=by simp only[List.getElem?_toArray,List.getElem?_cons_zero,List.getElem?_cons_succ];exact rfl)
 (p:JsOK ops i f=true:=by kernel_rfl)
 (e:∀w,Given d Φ w (fun b=>∀K:Value→World→Prop,Shut (K c w)→if Region.wanted o (yielded ops b.tmps)=true then Oper.wp P o b w (fun g w'=>g.defers=b.defers∧K (left o.dst g) w') Nope else K undef w) f a=N w:=by intro w;simp only[Given,List.nil_append,List.cons_append,List.getD_cons_zero,List.getD_cons_succ,Qad,Act.put,List.setIfInBounds_toArray,List.set_cons_zero,List.set_cons_succ,Nat.reduceAdd,Nat.reduceBEq,cond_true,cond_false];exact rfl):RegG P ops Q m n a w0 d Φ:=
 RegG.is f k l p (fun w q=>by rw[e w];exact h w q) j
theorem RegG.p0{m n:Nat}{a:Act}{w0:World}{d:Nat→Option Tmp}{Φ:List Fact}{i:Nat}{o:Oper}{c:Value}{N:World→Prop}(f:List Nat)(k:RegG P ops Q m n a w0 d (Φ++ [Is c]))
 (l:Φ.length=i:=by simp only[List.nil_append,List.cons_append,List.length_append,List.length_cons,List.length_nil,Nat.reduceAdd];exact rfl)
 (p:ops[i]?=some o:=by simp only[List.getElem?_toArray,List.getElem?_cons_zero,List.getElem?_cons_succ];exact rfl)
 (q:JsOK ops i f=true:=by kernel_rfl)
 (e:∀w,Given d Φ w (fun b=>∀K:Value→World→Prop,Shut (K c w)→if Region.wanted o (yielded ops b.tmps)=true then Oper.wp P o b w (fun g w'=>g.defers=b.defers∧K (left o.dst g) w') Nope else K undef w) f a=N w:=by intro w;simp only[Given,List.nil_append,List.cons_append,List.getD_cons_zero,List.getD_cons_succ,Qad,Act.put,List.setIfInBounds_toArray,List.set_cons_zero,List.set_cons_succ,Nat.reduceAdd,Nat.reduceBEq,cond_true,cond_false];exact rfl)
 (h:∀w,Below w0.heap.size w0 w→N w:=by intro w j K r;go_simp;exact r):RegG P ops Q m n a w0 d Φ:=
 RegG.is f l p q (fun w j=>by rw[e w];exact h w j) k
theorem RegG.ca{m n:Nat}{a:Act}{w0:World}{c:Nat→Option Tmp}{Φ:List Fact}{i:Nat}{o:Oper}{φ:Fact}{N:World→Prop}(d:List Nat)(g:Stays φ)(h:∀w,Below w0.heap.size w0 w→N w)(j:RegG P ops Q m n a w0 c (Φ++ [φ]))
 (k:Φ.length=i:=by simp only[List.nil_append,List.cons_append,List.length_append,List.length_cons,List.length_nil,Nat.reduceAdd];exact rfl)
 (l:ops[i]?=some o:=by simp only[List.getElem?_toArray,List.getElem?_cons_zero,List.getElem?_cons_succ];exact rfl)
 (p:JsOK ops i d=true:=by kernel_rfl)
 (e:∀w,Given c Φ w (fun b=>∀K:Value→World→Prop,Shut (∀v w',Below w.heap.size w w'→φ v w'→K v w')→if Region.wanted o (yielded ops b.tmps)=true then Oper.wp P o b w (fun f w'=>f.defers=b.defers∧K (left o.dst f) w') Nope else K undef w) d a=N w:=by intro w;simp only[Given,List.nil_append,List.cons_append,List.getD_cons_zero,List.getD_cons_succ,Qad,Act.put,List.setIfInBounds_toArray,List.set_cons_zero,List.set_cons_succ,Nat.reduceAdd,Nat.reduceBEq,cond_true,cond_false];exact rfl):RegG P ops Q m n a w0 c Φ:=
 RegG.step d k l p g (fun w q=>by rw[e w];exact h w q) j
theorem RegG.fi{n:Nat}{b:Act}{w0:World}{c:Nat→Option Tmp}{Φ:List Fact}{N:World→Prop}(h:∀w,Below w0.heap.size w0 w→N w)
 (hl:Φ.length=ops.size:=by simp only[List.nil_append,List.cons_append,List.length_append,List.length_cons,List.length_nil,List.size_toArray,Nat.reduceAdd])
 (e:∀w,FinG c (fun a=>Q .normal a w) w Φ 0 b=N w:=by intro w;simp only[FinG,List.nil_append,List.cons_append,Qad,Act.put,List.setIfInBounds_toArray,List.set_cons_zero,List.set_cons_succ,Nat.reduceAdd,Nat.reduceBEq,cond_true,cond_false];exact rfl):RegG P ops Q ops.size n b w0 c Φ:=
 RegG.fin hl (fun w d=>by rw[e w];exact h w d)
end
section
variable {P:Program} {ops:Array Oper} {Q:Exit→Act→World→Prop}
def WaitedTo(ops:Array Oper)(i:Nat):Bool:=(List.range i).all fun j=>(List.range (i+1)).any fun k=>(depsOf ops k).contains j
theorem WaitedTo.down{L:List Nat}{i:Nat}(b:WaitedTo ops i=true){n:Nat}(F:RegFine ops n)(e:∀j∈ depsOf ops i,j∈ L)(f:∀k∈ L,∀j∈ depsOf ops k,j∈ L):∀j,j<i→j∈ L:=by
 have c:∀k j,k+j+1=i→j∈ L:=by
  intro k
  induction k using Nat.strongRecOn with
  |_ k ih=>
   intro j g;unfold WaitedTo at b;simp only[List.all_eq_true,List.any_eq_true,List.mem_range,List.contains_eq_mem,decide_eq_true_eq] at b;obtain⟨m,l,a⟩:=b j (by omega);have h:=F.low m j a;by_cases d:m=i
   · subst d;exact e j a
   · exact f m (ih (i - m - 1) (by omega) m (by omega)) j a
 intro j g;exact c (i - j - 1) j (by omega)
end
open Go
open Go.Proofs.Tryz
section
variable {P:Program} {ops:Array Oper} {Q:Exit->Act->World->Prop} {md:Region.Mode} {S:World->Prop} {k:Nat}
def waits(md:Region.Mode)(ops:Array Oper)(k i:Nat):Bool:=match ops[k]? with
 |some o=>o.after.any (fun e=>Region.binds md e && (e.on == i))
 |none=>false
theorem Qk6{i:Nat}(h:waits md ops k i=true){o:Oper}(b:ops[k]?=some o):¬∀e∈ o.after,Region.binds md e=true->e.on≠i:=by
 unfold waits at h;rw[b] at h;simp only[Array.any_eq_true] at h;obtain⟨j,c,a⟩:=h;simp only[Bool.and_eq_true,beq_iff_eq] at a;intro d;exact d _ (Array.getElem_mem c) a.1 a.2
end
open Go.RowKit
theorem Qbs(s t:Vs)(w:Vz):Calls prog 40 #[.string s,.string t] w fun e w'=>e=.returned (.agg #[.string s,.string t])/\Below w.heap.size w w':=by
 have a:=Hi ((Below.refl w.heap.size w).alloc lZ (.cells #[.string s,.string t] 34));go_enter func40,ntmps40;go_wp2;refine bodyPost_ret (results_cell_row rfl _ _ w.heap.size 34 #[.string s,.string t] (0,0) _ rfl (SB.new w _ _) underlying34 rfl Tryz.spotInfo) rfl ?_;exact⟨rfl,a.o⟩
theorem Qt3(a:Vy)(h:Small 10 a):decVal (a.reverse.map (fun d=>UInt8.ofNat (48+d)))=val 10 a:=by
 induction a with
 |nil=>rfl
 |cons d l b=>
  have i:=h d (List.mem_cons_self ..);have c:=b fun e f=>h e (List.mem_cons_of_mem _ f)
  have g:(UInt8.ofNat (48+d)).toNat=48+d:=by
   rw[UInt8.toNat_ofNat'];omega
  rw[List.reverse_cons,List.map_append,List.map_cons,List.map_nil,Qdv,c,g,Qbh];omega
theorem IsDec.dig{l:Vu}{n:Nat}(h:IsDec l n):IsDig l/\decVal l=n:=by
 rcases h with ⟨rfl,rfl⟩|⟨f,e,a,rfl⟩
 . exact⟨⟨by decide,fun c b=>by simp at b;subst b;decide⟩,by decide⟩
 .
  refine⟨⟨?_,?_⟩,by rw[Qt3 e a.small];exact a.eq⟩
  .
   intro g;have:e= []:=by simpa using g
   subst this;exact f (by rw[<-a.eq];rfl)
  .
   intro c b;obtain⟨d,i,rfl⟩:=List.mem_map.1 b;have j:=a.small d (by simpa using i);rw[UInt8.toNat_ofNat'];omega
theorem Qt4{l:Vu}(h:AllDigits l):Lib.index l [47]= -1:=by
 induction l with
 |nil=>rfl
 |cons c l a=>
  have b:=h c (List.mem_cons_self ..);have e:=a fun d f=>h d (List.mem_cons_of_mem _ f)
  have g:((47:UInt8) == c)=false:=by
   rw[beq_eq_false_iff_ne];rintro rfl;exact absurd b.1 (by decide)
  unfold Lib.index;rw[e];simp[List.isPrefixOf,g]
theorem Qt5{l:Vu}(d:Vu)(h:AllDigits l):Lib.index (l++47 :: d) [47]=l.length:=by
 induction l with
 |nil=>simp[Lib.index,List.isPrefixOf]
 |cons c l a=>
  have b:=h c (List.mem_cons_self ..);have e:=a fun d f=>h d (List.mem_cons_of_mem _ f)
  have g:((47:UInt8) == c)=false:=by
   rw[beq_eq_false_iff_ne];rintro rfl;exact absurd b.1 (by decide)
  have i:((l.length:Int) == -1)=false:=by
   rw[beq_eq_false_iff_ne];omega
  rw[List.cons_append];unfold Lib.index;rw[e];simp[List.isPrefixOf,g,i]
theorem Qgu{l:Vu}(h:AllDigits l):Lib.cut l [47]=(l,[],false):=by
 unfold Lib.cut;rw[Qt4 h];rfl
theorem Qgv{l:Vu}(d:Vu)(h:AllDigits l):Lib.cut (l++47 :: d) [47]=(l,d,true):=by
 unfold Lib.cut;rw[Qt5 d h,if_pos (by omega)];simp
theorem Qk7{l:Vu}(t:Vu)(h:IsDig l):Lib.hasPrefix (l++t) [45]=false:=by
 obtain⟨a,h⟩:=h;cases l with
 |nil=>exact absurd rfl a
 |cons c l=>
  have b:=h c (List.mem_cons_self ..);have d:((45:UInt8) == c)=false:=by
   rw[beq_eq_false_iff_ne];rintro rfl;exact absurd b.1 (by decide)
  simp[Lib.hasPrefix,List.isPrefixOf,d]
theorem Qt6{l:Vu}(t:Vu)(h:IsDig l):Lib.trimPrefix (l++t) [45]=l++t:=by
 unfold Lib.trimPrefix;rw[Qk7 t h];rfl
theorem Qk8(t:Vu):Lib.hasPrefix (45 :: t) [45]=true:=by
 simp[Lib.hasPrefix,List.isPrefixOf]
theorem Qt7(t:Vu):Lib.trimPrefix (45 :: t) [45]=t:=by
 unfold Lib.trimPrefix;rw[Qk8 t];rfl
theorem Qk9(X:Int):sgn (decide (X<0)) X.natAbs=X:=by
 unfold sgn;by_cases h:X<0
 . simp[h];omega
 . simp[h];omega
theorem QText.back{l:Vu}{q:Rat}(h:QText l q):QOf l q:=by
 obtain⟨m,⟨k,hk,rfl⟩,h⟩:=h;obtain⟨a,g⟩:=hk.dig;have i:∀t,Lib.hasPrefix ((if q.num<0 then 45 :: k else k)++t) [45]=decide (q.num<0):=by
  intro t;by_cases b:q.num<0
  . simp only[b,if_true,decide_true,List.cons_append];exact Qk8 _
  . simp only[b,if_false,decide_false];exact Qk7 t a
 have j:∀t,Lib.trimPrefix ((if q.num<0 then 45 :: k else k)++t) [45]=k++t:=by
  intro t;by_cases b:q.num<0
  . simp only[b,if_true,List.cons_append];exact Qt7 _
  . simp only[b,if_false];exact Qt6 t a
 rcases h with ⟨n,rfl⟩|⟨n,d,c,rfl⟩
 .
  have o:=i [];have e:=j [];rw[List.append_nil] at o e;rw[List.append_nil] at e;have:=Qen (c1:=k) (c2:=[]) (bar:=false) e o (by rw[Qgu a.2]) (by rw[Qgu a.2]) (by rw[Qgu a.2]) a (fun h=>by cases h);rw[g,Qk9] at this;have f:mkRat q.num (if false=true then decVal [] else 1)=q:=by
   have:=Rat.mkRat_self q;rw[n] at this;exact this
  rw[f] at this;exact this
 .
  obtain⟨p,r⟩:=c.dig;have:=Qen (c1:=k) (c2:=d) (bar:=true) (j (47 :: d)) (i (47 :: d)) (by rw[Qgv d a.2]) (by rw[Qgv d a.2]) (by rw[Qgv d a.2]) a (fun _=>p);rw[g,Qk9,r] at this;have f:mkRat q.num (if true=true then q.den else 1)=q:=Rat.mkRat_self q;rw[f] at this;exact this
theorem Qdh:prog.cellsOf 32=1:=by kernel_rfl
theorem Qgy:prog.cellsOf 34=2:=by kernel_rfl
section
variable {H:Type} {enc:TypeId × Value->H} {P:Program} {w:Vz} {base:Nat} {spare:Nat->Bool} {held:Bool} {fuel:Nat} {cs:Vv} {x:DataW H × List MemPlace} {tF tS tQ:Vr} {f0 f1 g0 g1:Field}
theorem Qlk(g:P.underlying tS=some (.struct #[f0,f1]))(e:P.underlying tQ=some .string)(i:P.cellsOf tS=2)(f:P.cellsOf tQ=1)(t0:f0.type=tQ)(t1:f1.type=tQ)(j:f0.offset=0)(k:f1.offset=1)
 (h:DataW.trod enc P w base spare held fuel tS cs=some x):
 ∃s t:Vs,cs= [.string s,.string t]/\x.1=.agg [.lit (.string s.data.toList),.lit (.string t.data.toList)]/\x.2= []:=by
 obtain⟨xs,n,rfl,rfl,hl,a,b⟩:=DataW.trod_struct g h;rw[i] at hl;clear h;have c:=b 0 f0 rfl;have d:=b 1 f1 rfl;rw[t0,j,f] at c;rw[t1,k,f] at d;clear b
 match cs,hl,xs,a with
 | [v0,v1],_,[y0,y1],_=>
   simp only[List.drop_zero,List.drop_succ_cons,List.take_succ_cons,List.take_zero,List.getElem?_cons_zero,List.getElem?_cons_succ] at c d;obtain⟨s,l,rfl,_⟩:=DataW.trod_string e c;obtain⟨t,m,rfl,_⟩:=DataW.trod_string e d;obtain rfl:v0=_:=by simpa using l
   obtain rfl:v1=_:=by simpa using m
   exact⟨s,t,rfl,rfl,rfl⟩
end
open Go.ChangeShapes Go.WideShapes Go.ChangeAt Go.RowKit
theorem own:ownKnob prog.godebug=none:=by kernel_rfl
theorem Qg7:laidOutB prog=true:=by kernel_rfl
theorem Qg8{H:Type}{d:DataW H}{l:List (DataW H)}(h:d∈ l):Rows.uptoBulk d<=Rows.uptoBulkAll l:=by
 induction l with
 |nil=>cases h
 |cons x r a=>
  simp only[Rows.uptoBulkAll];rcases List.mem_cons.1 h with rfl|h
  . omega
  . have:=a h;omega
theorem Qvk{H:Type}(l r:List (DataW H)):Rows.uptoBulkAll l<=Rows.uptoBulk (.slice l r):=by
 simp only[Rows.uptoBulk];omega
theorem Ql2{P:Program}{W:Vz}{x:String × DataW Unit}{l:List (String × DataW Unit)}(h:laidMet P (x :: l) W):laidMet P l W:=by
 obtain⟨i,⟨g,t,j,c,p,q,_,_,_,_,hl,rfl⟩,d,e⟩:=h;exact⟨q,hl,(List.nodup_append.1 d).2.1,fun b a f=>e b a (List.mem_append.2 (.inr f))⟩
theorem gTen:prog.globalNamed "internal/strconv.uint64pow10" =some 9:=by kernel_rfl
theorem Qvl:(prog.globals[9]?).map (·.type)=some 295:=by kernel_rfl
theorem Qvm:prog.cellsOf 295=20:=by kernel_rfl
theorem Qvn:prog.cellsOf 190=1:=by kernel_rfl
theorem Qvo:(Rows.laid_internal_strconv_uint64pow10:DataW Unit)=Lib.tabData .u64 Lib.pow10Tab:=by kernel_rfl
theorem Qvp{W:Vz}{rest:List (String × DataW Unit)}(h:laidMet prog (("internal/strconv.uint64pow10",Rows.laid_internal_strconv_uint64pow10) :: rest) W):Tab W:=by
 rw[Qvo] at h;exact Lib.tabIs_of_head gTen Qvl underlying295 underlying190 Qvn Qvm h
theorem Qvq{W:Vz}(h:W.ShapedOpen prog):∃m,W.cell? ⟨4,0,none⟩=some (.int .i64 m):=
 cell_of_shapedOpen_int (zero:=#[.int .i64 0]) (t:=3) h (of_decide_eq_true (by kernel_rfl)) (by kernel_rfl) rfl (by kernel_rfl) (by kernel_rfl) underlying3
def flat1:DataW Unit->List Value
 | .lit (.int k z)=>[.int k z]
 | .lit (.string bs)=>[.string ⟨bs.toArray⟩]
 |_=>[]
def flat2:DataW Unit->List Value
 | .agg ps=>ps.flatMap flat1
 |d=>flat1 d
def flat3:DataW Unit->List Value
 | .agg ps=>ps.flatMap flat2
 |d=>flat1 d
def put(g:Nat)(d:DataW Unit)(w:Vz):World:={ w with heap:=w.heap.modify g fun
 | .cells _ t frozen=>.cells (flat3 d).toArray t frozen
 |o=>o }
structure CRow (w:Vz) (a:Vx) (xs:Vv):Prop where
 cell:∀j u,xs[j]?=some u->∃b off,a=some ⟨b,off,none⟩/\b<w.heap.size/\w.cell? ⟨b,off+j,none⟩=some u
theorem CRow.below{w w':Vz}{a:Vx}{xs:Vv}(h:CRow w a xs)(d:Bl w w'):CRow w' a xs:=by
 refine⟨fun j u f=>?_⟩;obtain⟨b,c,g,k,l⟩:=h.cell j u f;exact⟨b,c,g,by have:=d.size;omega,ce d k l⟩
section
variable {P:Program} {t e:Vr} {i:TypeInfo} {size:Nat}
theorem Qb0{ops:Array Oper}{o:Oper}{a:Act}{w:Vz}{K:Act->World->Prop}{Q:Exit->Act->World->Prop}{E:Prop}
 (d:o.guard=none) (s x:Operand) (c:o.op=Op.call { callee:=Callee.builtin Builtin.append,args:=#[s,x],argTypes:=#[t,t] })
 {vs vx v:Value} {w':Vz} (f:a.eval s=vs) (g:a.eval x=vx) (b:(Builtin.append_ #[t,t] o.type #[vs,vx]).run P w=.ok v w') (h:K (a.put o.dst v) w'):
 if Region.wanted o (yielded ops a.tmps)=true then Oper.wp P o a w K Q else E:=by
 have j:Region.wanted o (yielded ops a.tmps)=true:=by simp[Region.wanted,d]
 rw[if_pos j];unfold Oper.wp;simp[execOp,c,resolve,invoke,builtin,f,g,b,Result.andThen];exact h
end
def appR(P:Program)(t ty:Vr)(vs vx:Value)(w:Vz):Result Value:=(Builtin.append_ #[t,t] ty #[vs,vx]).run P w
@[go_sem ↓] theorem Qx7 (ρ:Operand->Value) (dst:Option Tmp) (x y:Operand) (t ty:Vr) (pos:String) (after:Array Go.Edge) (guard:Option (Nat × Bool)) (w:Vz):
   (execOp ρ { dst,op:=.call { callee:=.builtin .append,args:=#[x,y],argTypes:=#[t,t] },type:=ty,pos,after,guard }).run prog w=(appR prog t ty (ρ x) (ρ y) w).andThen (fun v w'=>.ok (.value v) w'):=by
  have e:(#[x,y]:Array Operand).map ρ=#[ρ x,ρ y]:=by simp
  rw[BigFrame.execOp_builtin,BigFrame.builtin_append,e,Sem.run_bind]
  unfold appR
  simp only[Sem.run_pure]
theorem Qm1:(prog.info? 32).map (fun i=>(i.zero,i.size,i.bytes))=some (some (.string ⟨#[]⟩),1,16):=by kernel_rfl
def textsV(ss:Vt):List Value:=ss.map Value.string
theorem Qx3(n:Nat):madeCells (Value.cells (.string ⟨#[]⟩)) n=(textsV (List.replicate n ⟨#[]⟩)).toArray:=by
 have e:Value.cells (.string ⟨#[]⟩)=#[.string ⟨#[]⟩]:=by rfl
 rw[e];apply Array.ext';rw[toList_madeCells_one];simp[textsV]
theorem Qx4(n:Nat)(e:n<=1048576)(w:Vz):(Instr.makeSlice 28 (.int .i64 n) (.int .i64 n)).run prog w=.ok (.slice (some ⟨w.heap.size,0,.none⟩) n n) (w.alloc (.cells (textsV (List.replicate n ⟨#[]⟩)).toArray 32)):=by
 obtain⟨i,a,h⟩:=Option.map_eq_some_iff.1 Qm1;simp only[Prod.mk.injEq] at h;obtain⟨b,c,d⟩:=h;have:=run_make w 28 32 i _ underlying28 a b .i64 .i64 n n (by omega) (by omega) (by rw[d];omega) (by omega);rw[Int.toNat_natCast,c,Nat.mul_one,Qx3] at this;exact this
theorem Qx5(a:Vt)(k:Nat)(s:Vs):textsV (a.set k s)=(textsV a).set k (.string s):=by simp[textsV]
structure S2 where
 x:ByteArray
 y:ByteArray
structure B6 where
 a:Int
 b:Int
 c:ByteArray
 e:ByteArray
 l:ByteArray
 m:ByteArray
structure H3 where
 j:Int
 w:Int
 q:ByteArray
structure L3 where
 j:Int
 x:ByteArray
 y:ByteArray
def S2.cells(s:S2):List Value:=[.string s.x,.string s.y]
def B6.cells(s:B6):List Value:=[.int .i64 s.a,.int .i64 s.b,.string s.c,.string s.e,.string s.l,.string s.m]
def H3.cells(s:H3):List Value:=[.int .i64 s.j,.int .i64 s.w,.string s.q]
def L3.cells(s:L3):List Value:=[.int .i64 s.j,.string s.x,.string s.y]
theorem B6.one(s:B6):∀u∈ s.cells,u.oneCell'=true:=by simp[B6.cells,Value.oneCell']
theorem H3.one(s:H3):∀u∈ s.cells,u.oneCell'=true:=by simp[H3.cells,Value.oneCell']
structure ARow {α:Type} (c:α->List Value) (w:Vz) (a:Vx) (cap:Nat) (es:List α):Prop where
 fit:es.length<=cap
 row:CRow w a (es.flatMap c)
section
variable {α:Type} {c:α->List Value} {sz:Nat}
theorem ARow.below{w w':Vz}{a:Vx}{b:Nat}{d:List α}(h:ARow c w a b d)(e:Bl w w'):ARow c w' a b d:=⟨h.fit,h.row.below e⟩
theorem Qay(b:∀e,(c e).length=sz)(a:List α):(a.flatMap c).length=a.length*sz:=by
 induction a with
 |nil=>simp
 |cons e l d=>rw[List.flatMap_cons,List.length_append,d,b,List.length_cons,Nat.succ_mul];omega
theorem Qib(a:∀e,∀u∈ c e,u.oneCell'=true)(b:List α):∀u∈ b.flatMap c,u.oneCell'=true:=by
 intro u d;obtain⟨e,_,h⟩:=List.mem_flatMap.1 d;exact a e u h
theorem Qa8(a:∀e,(c e).length=sz):∀(b:List α) (i:Nat) (e:α) (j:Nat) (u:Value),b[i]?=some e->(c e)[j]?=some u->(b.flatMap c)[i*sz+j]?=some u
 | [],i,e,j,u,h,_=>by simp at h
 |g :: l,0,e,j,u,h,hj=>by
  obtain rfl:g=e:=by simpa using h
  rw[List.flatMap_cons,Nat.zero_mul,Nat.zero_add,List.getElem?_append_left (gZ hj).1];exact hj
 |g :: l,i+1,e,j,u,h,hj=>by
  have:=Qa8 a l i e j u (by simpa using h) hj;rw[List.flatMap_cons,List.getElem?_append_right (by rw[a,Nat.succ_mul];omega),a,show (i+1)*sz+j - sz=i*sz+j by rw[Nat.succ_mul];omega];exact this
theorem ARow.at(l:∀e,(c e).length=sz)(q:0<sz){w:Vz}{a:Vx}{m:Nat}{k:List α}(h:ARow c w a m k){i:Nat}{e:α}(n:k[i]?=some e):
 ∃b d,a=some ⟨b,d,none⟩/\b<w.heap.size/\∀j u,(c e)[j]?=some u->w.cell? ⟨b,d+i*sz+j,none⟩=some u:=by
 have r:∃u,(c e)[0]?=some u:=⟨_,gE (by rw[l];exact q)⟩;obtain⟨u,s⟩:=r;obtain⟨b,d,o,t,_⟩:=h.row.cell _ _ (Qa8 l k i e 0 u n s);refine⟨b,d,o,t,fun j v x=>?_⟩;obtain⟨y,p,g,_,f⟩:=h.row.cell _ _ (Qa8 l k i e j v n x);rw[o] at g;cases g;rw[Nat.add_assoc];exact f
end
theorem ARow.spot{w:Vz}{a:Vx}{f:Nat}{g:List S2}(h:ARow S2.cells w a f g){i:Nat}{e:S2}(k:g[i]?=some e):
 ∃b d,a=some ⟨b,d,none⟩/\b<w.heap.size/\w.cell? ⟨b,d+i*2,none⟩=some (.string e.x)/\w.cell? ⟨b,d+i*2+1,none⟩=some (.string e.y):=by
 obtain⟨b,d,l,m,j⟩:=h.at (sz:=2) (fun _=>rfl) (by decide) k;exact⟨b,d,l,m,j 0 _ rfl,j 1 _ rfl⟩
theorem ARow.bar{w:Vz}{a:Vx}{g:Nat}{j:List B6}(h:ARow B6.cells w a g j){i:Nat}{e:B6}(k:j[i]?=some e):
 ∃b d,a=some ⟨b,d,none⟩/\b<w.heap.size/\w.cell? ⟨b,d+i*6,none⟩=some (.int .i64 e.a)/\w.cell? ⟨b,d+i*6+1,none⟩=some (.int .i64 e.b)/\w.cell? ⟨b,d+i*6+2,none⟩=some (.string e.c)/\w.cell? ⟨b,d+i*6+3,none⟩=some (.string e.e)/\w.cell? ⟨b,d+i*6+4,none⟩=some (.string e.l)/\w.cell? ⟨b,d+i*6+5,none⟩=some (.string e.m):=by
 obtain⟨b,d,n,o,f⟩:=h.at (sz:=6) (fun _=>rfl) (by decide) k;exact⟨b,d,n,o,f 0 _ rfl,f 1 _ rfl,f 2 _ rfl,f 3 _ rfl,f 4 _ rfl,f 5 _ rfl⟩
theorem ARow.hold{w:Vz}{a:Vx}{f:Nat}{k:List H3}(h:ARow H3.cells w a f k){i:Nat}{e:H3}(l:k[i]?=some e):
 ∃b d,a=some ⟨b,d,none⟩/\b<w.heap.size/\w.cell? ⟨b,d+i*3,none⟩=some (.int .i64 e.j)/\w.cell? ⟨b,d+i*3+1,none⟩=some (.int .i64 e.w)/\w.cell? ⟨b,d+i*3+2,none⟩=some (.string e.q):=by
 obtain⟨b,d,m,n,g⟩:=h.at (sz:=3) (fun _=>rfl) (by decide) l;exact⟨b,d,m,n,g 0 _ rfl,g 1 _ rfl,g 2 _ rfl⟩
theorem ARow.load{w:Vz}{a:Vx}{f:Nat}{k:List L3}(h:ARow L3.cells w a f k){i:Nat}{e:L3}(l:k[i]?=some e):
 ∃b d,a=some ⟨b,d,none⟩/\b<w.heap.size/\w.cell? ⟨b,d+i*3,none⟩=some (.int .i64 e.j)/\w.cell? ⟨b,d+i*3+1,none⟩=some (.string e.x)/\w.cell? ⟨b,d+i*3+2,none⟩=some (.string e.y):=by
 obtain⟨b,d,m,n,g⟩:=h.at (sz:=3) (fun _=>rfl) (by decide) l;exact⟨b,d,m,n,g 0 _ rfl,g 1 _ rfl,g 2 _ rfl⟩
structure Stay (P:World->Prop):Prop where
 step:∀u v:Vz,Below u.heap.size u v->P u->P v
structure PBag (w0 w:Vz) (L:List (World->Prop)):Prop where
 base:Bl w0 w
 ps:∀P,P∈ L->P w/\Stay P
theorem PBag.start(w:Vz):PBag w w []:=⟨Below.refl _ _,fun P h=>by cases h⟩
theorem PBag.below{w0 w w':Vz}{L:List (World->Prop)}(h:PBag w0 w L)(b:Bl w w'):PBag w0 w' L:=
 ⟨h.base.trans (b.mono h.base.size),fun P a=>⟨(h.ps P a).2.step w w' b (h.ps P a).1,(h.ps P a).2⟩⟩
theorem PBag.put{w0 w:Vz}{L:List (World->Prop)}{P:World->Prop}(h:PBag w0 w L)(b:P w)(c:Stay P):PBag w0 w (P :: L):=
 ⟨h.base,fun Q a=>by
   rcases List.mem_cons.1 a with rfl|a
   . exact⟨b,c⟩
   . exact h.ps Q a⟩
theorem PBag.get{w0 w:Vz}{L:List (World->Prop)}(h:PBag w0 w L)(P:World->Prop)(a:P∈ L):P w:=(h.ps P a).1
theorem SB.stay(b:Nat)(t:Vr)(C:Vw):Stay (fun w=>SB w b t C):=⟨fun _ _ a h=>h.below a h.lt⟩
theorem ARow.far{α:Type}{c:α->List Value}{w:Vz}{g a b i:Nat}{f:List α}{v:Value}(h:ARow c w (some ⟨g,0,none⟩) a f)(d:b≠g):ARow c (w.setCell ⟨b,i,none⟩ v) (some ⟨g,0,none⟩) a f:=by
 refine⟨h.fit,⟨fun j u k=>?_⟩⟩;obtain⟨p,l,m,n,o⟩:=h.row.cell j u k;cases m;exact⟨g,0,rfl,by simpa using n,by rw[World.cell?_of_block (w:=w) (Below.heap_setCell w ⟨b,i,none⟩ v g (fun e=>d e.symm))];exact o⟩
theorem Tryz.frameInfo:(prog.info? 26).map (·.size)=some 3:=by kernel_rfl
structure FrRow (w:Vz) (a1 a2 a3:Vx) (c1 c2 c3:Nat) (js:List S2) (bs:List B6) (hs:List H3):Prop where
 j:ARow S2.cells w a1 c1 js
 b:ARow B6.cells w a2 c2 bs
 h:ARow H3.cells w a3 c3 hs
theorem FrRow.below{w w':Vz}{c d e:Vx}{c1 c2 c3:Nat}{f:List S2}{g:List B6}{i:List H3}(h:FrRow w c d e c1 c2 c3 f g i)(a:Bl w w'):FrRow w' c d e c1 c2 c3 f g i:=⟨h.j.below a,h.b.below a,h.h.below a⟩
theorem Qu8{q:Rat}(h:¬q=0):sgn3 q.num=if q.num<0 then -1 else 1:=by
 have b:q.num≠0:=fun c=>h (Rat.num_eq_zero.1 c)
 unfold sgn3;by_cases a:q.num<0
 . rw[if_pos a,if_pos a]
 . rw[if_neg a,if_neg a,if_neg b]
theorem Qu9{v:Value}{q:Rat}{w:Vz}(k:FracV w v q):Calls prog 165 #[v] w fun e w'=>e=.returned (.int .i64 (sgn3 q.num))/\Below w.heap.size w w':=by
 have u:=Hi k;obtain⟨neg,a,n,c,b,m,d,rfl,k⟩:=k;have p:=Hi k.neg;clear k;go_enter func165,ntmps165;go_wp2_with fail;obtain⟨W,hW⟩:=nm (w.alloc (.cells #[.bool neg,.slice a n c,.slice b m d] 107));have f:=Ua hW;have l:=Uc hW;rw[hW];clear hW;go_fit (Qbz (u.o.below f.o));rintro e x ⟨rfl,g⟩;obtain⟨y,-⟩:=zc (l.o.below g l.o.lt);have i:=Hi (f.o.trans (g.mono f.o.size));clear g;by_cases h:q=0
 .
  have s:=decide_eq_true h;rw[s];go_wp2;go_ret;exact⟨by rw[h];rfl,i.o⟩
 .
  have s:=decide_eq_false h;rw[s];have j:=Qu8 h;by_cases r:q.num<0
  .
   obtain rfl:neg=true:=by rw[p.o];exact decide_eq_true r
   rw[if_pos r] at j;have t:=Hi j;clear j p;go_wp2;go_ret;exact⟨by rw[t.o];rfl,i.o⟩
  .
   obtain rfl:neg=false:=by rw[p.o];exact decide_eq_false r
   rw[if_neg r] at j;have t:=Hi j;clear j p;go_wp2;go_ret;exact⟨by rw[t.o];rfl,i.o⟩
theorem FBag.sign{w0 w:Vz}{L:List FE}{x1 x2 x3:Value}{j:Nat}{p:Rat}(h:FBag w0 w L)(a:⟨x1,x2,x3,p,j⟩∈ L):
 Calls prog 165 #[.agg #[x1,x2,x3]] w (fun e w'=>e=.returned (.int .i64 (sgn3 p.num))/\FBag w0 w' L):=by
 obtain⟨a,c,d⟩:=h.get a;refine(Qu9 a).mono ?_;rintro e w' ⟨rfl,b⟩;exact⟨rfl,h.below b⟩
theorem FBag.equalT{w0 w:Vz}{L:List FE}{x1 x2 x3 y1 y2 y3:Value}{j k:Nat}{p q:Rat}(h:FBag w0 w L)(a:⟨x1,x2,x3,p,j⟩∈ L)(b:⟨y1,y2,y3,q,k⟩∈ L)(c:p=q):
 Calls prog 210 #[.agg #[x1,x2,x3],.agg #[y1,y2,y3]] w (fun e w'=>e=.returned (.bool true)/\FBag w0 w' L):=by
 have:=h.equal a b;rw[decide_eq_true c] at this;exact this
theorem FBag.equalF{w0 w:Vz}{L:List FE}{x1 x2 x3 y1 y2 y3:Value}{j k:Nat}{p q:Rat}(h:FBag w0 w L)(a:⟨x1,x2,x3,p,j⟩∈ L)(b:⟨y1,y2,y3,q,k⟩∈ L)(c:¬p=q):
 Calls prog 210 #[.agg #[x1,x2,x3],.agg #[y1,y2,y3]] w (fun e w'=>e=.returned (.bool false)/\FBag w0 w' L):=by
 have:=h.equal a b;rw[decide_eq_false c] at this;exact this
def IsJ(n:Nat)(k:Int):Prop:=0<=k/\k<n
theorem Qbb(a:Vx)(n c:Nat)(k:Int)(w:Vz)(h:IsJ n k):Calls prog 106 #[.slice a n c,.int .i64 k] w fun e w'=>e=.returned (.bool true)/\w'=w:=by
 obtain⟨b,d⟩:=h;go_enter func106,ntmps106;go_wp2;go_ret;exact⟨by simp[b,d],rfl⟩
theorem Qev(a:Vx)(n c:Nat)(k:Int)(w:Vz)(h:¬IsJ n k):Calls prog 106 #[.slice a n c,.int .i64 k] w fun e w'=>e=.returned (.bool false)/\w'=w:=by
 by_cases d:0<=k
 .
  have b:¬(k<(n:Int)):=fun b=>h ⟨d,b⟩
  go_enter func106,ntmps106;go_wp2;go_ret;exact⟨by simp<;>omega,rfl⟩
 .
  have b:=decide_eq_false d;go_enter func106,ntmps106;go_wp2;go_ret;exact⟨by simp<;>omega,rfl⟩
theorem Qva(p q t0 t1:Vs)(I J K L:Rat)(w:Vz)(x:Glob w)(M:p.size<=1048576)(N:q.size<=1048576)(O:t0.size<=1048576)(P:t1.size<=1048576)
 (y:QOf p.data.toList I) (z:QOf q.data.toList J) (A:QOf t0.data.toList K) (B:QOf t1.data.toList L):
 Calls prog 164 #[.agg #[.string p,.string q],.agg #[.string t0,.string t1]] w fun e w'=>e=.returned (.bool (decide (I=K/\J=L)))/\Below w.heap.size w w':=by
 by_cases t:I=K
 .
  have s:=Hi t;by_cases C:J=L
  .
   have u:=Hi C;rw[decide_eq_true ⟨t,C⟩];clear t C;obtain⟨D,E,F,G,H⟩:=Id x y z A B;clear x y z A B;go_enter func164,ntmps164;go_wp2_with fail;obtain⟨W,hW⟩:=nm ((w.alloc (.cells #[.string p,.string q] 34)).alloc (.cells #[.string t0,.string t1] 34));have j:=Ub hW;have f:=Ud hW;have g:=Ue hW;rw[hW];have d:=Hi (FBag.start (D.o.below j.o));clear hW;have b:=f.o.below d.o.base f.o.lt;have c:=g.o.below d.o.base g.o.lt;obtain⟨k,k1,-⟩:=zc b
   obtain⟨k2,l,-⟩:=zc c;clear b c
   first
    |(
     go_region_held3 (fun v=>v.cell? ⟨w.heap.size,0,none⟩=some (.string p)/\v.cell? ⟨w.heap.size,1,none⟩=some (.string q)/\v.cell? ⟨w.heap.size+1,0,none⟩=some (.string t0)/\v.cell? ⟨w.heap.size+1,1,none⟩=some (.string t1)) ((first|(simp [*];done)|go_keep)) (first
      |
       (go_at_call_of 63 (Value.string p)
        apply cM;apply FBag.of (w0:=W) (n:=1048576);(focus(first|exact d.o|exact d.o.drew));assumption;decide;rintro e m ⟨r,i,x1,x2,x3,rfl,a⟩;obtain rfl:=E.o.inj i;clear d;have d:=Hi a;clear i a;have b:=f.o.below d.o.base f.o.lt;have c:=g.o.below d.o.base g.o.lt;obtain⟨k,k1,-⟩:=zc b;obtain⟨k2,l,-⟩:=zc c;clear b c
        skip)
      |
       (go_at_call_of 63 (Value.string q)
        apply cM;apply FBag.of (w0:=W) (n:=1048576);(focus(first|exact d.o|exact d.o.drew));assumption;decide;rintro e m ⟨r,i,x1,x2,x3,rfl,a⟩;obtain rfl:=F.o.inj i;clear d;have d:=Hi a;clear i a;have b:=f.o.below d.o.base f.o.lt;have c:=g.o.below d.o.base g.o.lt;obtain⟨k,k1,-⟩:=zc b;obtain⟨k2,l,-⟩:=zc c;clear b c
        skip)
      |
       (go_at_call_of 63 (Value.string t0)
        apply cM;apply FBag.of (w0:=W) (n:=1048576);(focus(first|exact d.o|exact d.o.drew));assumption;decide;rintro e m ⟨r,i,x1,x2,x3,rfl,a⟩;obtain rfl:=G.o.inj i;clear d;have d:=Hi a;clear i a;have b:=f.o.below d.o.base f.o.lt;have c:=g.o.below d.o.base g.o.lt;obtain⟨k,k1,-⟩:=zc b;obtain⟨k2,l,-⟩:=zc c;clear b c
        skip)
      |
       (go_at_call_of 63 (Value.string t1)
        apply cM;apply FBag.of (w0:=W) (n:=1048576);(focus(first|exact d.o|exact d.o.drew));assumption;decide;rintro e m ⟨r,i,x1,x2,x3,rfl,a⟩;obtain rfl:=H.o.inj i;clear d;have d:=Hi a;clear i a;have b:=f.o.below d.o.base f.o.lt;have c:=g.o.below d.o.base g.o.lt;obtain⟨k,k1,-⟩:=zc b;obtain⟨k2,l,-⟩:=zc c;clear b c
        skip)
      |
       (go_at_call 210
        apply cM;apply FBag.equalT (w0:=W);(focus(first|exact d.o|exact d.o.drew));(repeat(first|exact mH|apply mT));exact s.o;rintro e m ⟨rfl,a⟩;clear d;have d:=Hi a;clear a;have b:=f.o.below d.o.base f.o.lt;have c:=g.o.below d.o.base g.o.lt;obtain⟨k,k1,-⟩:=zc b;obtain⟨k2,l,-⟩:=zc c;clear b c
        skip)
      |
       (go_at_call 210
        apply cM;apply FBag.equalT (w0:=W);(focus(first|exact d.o|exact d.o.drew));(repeat(first|exact mH|apply mT));exact u.o;rintro e m ⟨rfl,a⟩;clear d;have d:=Hi a;clear a;have b:=f.o.below d.o.base f.o.lt;have c:=g.o.below d.o.base g.o.lt;obtain⟨k,k1,-⟩:=zc b;obtain⟨k2,l,-⟩:=zc c;clear b c
        skip)
      ))
    |fail
   all_goals
    go_wp2;go_ret;exact⟨rfl,j.o.trans (d.o.base.mono j.o.size)⟩
  .
   have u:=Hi C;rw[decide_eq_false (fun h=>C h.2)];clear t C;obtain⟨D,E,F,G,H⟩:=Id x y z A B;clear x y z A B;go_enter func164,ntmps164;go_wp2_with fail;obtain⟨W,hW⟩:=nm ((w.alloc (.cells #[.string p,.string q] 34)).alloc (.cells #[.string t0,.string t1] 34));have j:=Ub hW;have f:=Ud hW;have g:=Ue hW;rw[hW];have d:=Hi (FBag.start (D.o.below j.o));clear hW;have b:=f.o.below d.o.base f.o.lt;have c:=g.o.below d.o.base g.o.lt;obtain⟨k,-⟩:=zc b
   obtain⟨-,k1,-⟩:=zc b;obtain⟨k2,l,-⟩:=zc c;clear b c
   first
    |(
     go_region_held3 (fun v=>v.cell? ⟨w.heap.size,0,none⟩=some (.string p)/\v.cell? ⟨w.heap.size,1,none⟩=some (.string q)/\v.cell? ⟨w.heap.size+1,0,none⟩=some (.string t0)/\v.cell? ⟨w.heap.size+1,1,none⟩=some (.string t1)) ((first|(simp [*];done)|go_keep)) (first
      |
       (go_at_call_of 63 (Value.string p)
        apply cM;apply FBag.of (w0:=W) (n:=1048576);(focus(first|exact d.o|exact d.o.drew));assumption;decide;rintro e m ⟨r,i,x1,x2,x3,rfl,a⟩;obtain rfl:=E.o.inj i;clear d;have d:=Hi a;clear i a;have b:=f.o.below d.o.base f.o.lt;have c:=g.o.below d.o.base g.o.lt;obtain⟨k,k1,-⟩:=zc b;obtain⟨k2,l,-⟩:=zc c;clear b c
        skip)
      |
       (go_at_call_of 63 (Value.string q)
        apply cM;apply FBag.of (w0:=W) (n:=1048576);(focus(first|exact d.o|exact d.o.drew));assumption;decide;rintro e m ⟨r,i,x1,x2,x3,rfl,a⟩;obtain rfl:=F.o.inj i;clear d;have d:=Hi a;clear i a;have b:=f.o.below d.o.base f.o.lt;have c:=g.o.below d.o.base g.o.lt;obtain⟨k,k1,-⟩:=zc b;obtain⟨k2,l,-⟩:=zc c;clear b c
        skip)
      |
       (go_at_call_of 63 (Value.string t0)
        apply cM;apply FBag.of (w0:=W) (n:=1048576);(focus(first|exact d.o|exact d.o.drew));assumption;decide;rintro e m ⟨r,i,x1,x2,x3,rfl,a⟩;obtain rfl:=G.o.inj i;clear d;have d:=Hi a;clear i a;have b:=f.o.below d.o.base f.o.lt;have c:=g.o.below d.o.base g.o.lt;obtain⟨k,k1,-⟩:=zc b;obtain⟨k2,l,-⟩:=zc c;clear b c
        skip)
      |
       (go_at_call_of 63 (Value.string t1)
        apply cM;apply FBag.of (w0:=W) (n:=1048576);(focus(first|exact d.o|exact d.o.drew));assumption;decide;rintro e m ⟨r,i,x1,x2,x3,rfl,a⟩;obtain rfl:=H.o.inj i;clear d;have d:=Hi a;clear i a;have b:=f.o.below d.o.base f.o.lt;have c:=g.o.below d.o.base g.o.lt;obtain⟨k,k1,-⟩:=zc b;obtain⟨k2,l,-⟩:=zc c;clear b c
        skip)
      |
       (go_at_call 210
        apply cM;apply FBag.equalT (w0:=W);(focus(first|exact d.o|exact d.o.drew));(repeat(first|exact mH|apply mT));exact s.o;rintro e m ⟨rfl,a⟩;clear d;have d:=Hi a;clear a;have b:=f.o.below d.o.base f.o.lt;have c:=g.o.below d.o.base g.o.lt;obtain⟨k,k1,-⟩:=zc b;obtain⟨k2,l,-⟩:=zc c;clear b c
        skip)
      |
       (go_at_call 210
        apply cM;apply FBag.equalF (w0:=W);(focus(first|exact d.o|exact d.o.drew));(repeat(first|exact mH|apply mT));exact u.o;rintro e m ⟨rfl,a⟩;clear d;have d:=Hi a;clear a;have b:=f.o.below d.o.base f.o.lt;have c:=g.o.below d.o.base g.o.lt;obtain⟨k,k1,-⟩:=zc b;obtain⟨k2,l,-⟩:=zc c;clear b c
        skip)
      ))
    |fail
   all_goals
    go_wp2;go_ret;exact⟨rfl,j.o.trans (d.o.base.mono j.o.size)⟩
 .
  have s:=Hi t;rw[decide_eq_false (fun h=>t h.1)];clear t;obtain⟨D,E,F,G,H⟩:=Id x y z A B;clear x y z A B;go_enter func164,ntmps164;go_wp2_with fail;obtain⟨W,hW⟩:=nm ((w.alloc (.cells #[.string p,.string q] 34)).alloc (.cells #[.string t0,.string t1] 34));have j:=Ub hW;have f:=Ud hW;have g:=Ue hW;rw[hW];have d:=Hi (FBag.start (D.o.below j.o));clear hW;have b:=f.o.below d.o.base f.o.lt;have c:=g.o.below d.o.base g.o.lt;obtain⟨k,-⟩:=zc b
  obtain⟨-,k1,-⟩:=zc b;obtain⟨k2,l,-⟩:=zc c;clear b c
  first
   |(
    go_region_with (first
     |
      (go_at_call_of 63 (Value.string p)
       apply cM;apply FBag.of (w0:=W) (n:=1048576);(focus(first|exact d.o|exact d.o.drew));assumption;decide;rintro e m ⟨r,i,x1,x2,x3,rfl,a⟩;obtain rfl:=E.o.inj i;clear d;have d:=Hi a;clear i a;have b:=f.o.below d.o.base f.o.lt;have c:=g.o.below d.o.base g.o.lt;obtain⟨k,k1,-⟩:=zc b;obtain⟨k2,l,-⟩:=zc c;clear b c
       skip)
     |
      (go_at_call_of 63 (Value.string q)
       apply cM;apply FBag.of (w0:=W) (n:=1048576);(focus(first|exact d.o|exact d.o.drew));assumption;decide;rintro e m ⟨r,i,x1,x2,x3,rfl,a⟩;obtain rfl:=F.o.inj i;clear d;have d:=Hi a;clear i a;have b:=f.o.below d.o.base f.o.lt;have c:=g.o.below d.o.base g.o.lt;obtain⟨k,k1,-⟩:=zc b;obtain⟨k2,l,-⟩:=zc c;clear b c
       skip)
     |
      (go_at_call_of 63 (Value.string t0)
       apply cM;apply FBag.of (w0:=W) (n:=1048576);(focus(first|exact d.o|exact d.o.drew));assumption;decide;rintro e m ⟨r,i,x1,x2,x3,rfl,a⟩;obtain rfl:=G.o.inj i;clear d;have d:=Hi a;clear i a;have b:=f.o.below d.o.base f.o.lt;have c:=g.o.below d.o.base g.o.lt;obtain⟨k,k1,-⟩:=zc b;obtain⟨k2,l,-⟩:=zc c;clear b c
       skip)
     |
      (go_at_call_of 63 (Value.string t1)
       apply cM;apply FBag.of (w0:=W) (n:=1048576);(focus(first|exact d.o|exact d.o.drew));assumption;decide;rintro e m ⟨r,i,x1,x2,x3,rfl,a⟩;obtain rfl:=H.o.inj i;clear d;have d:=Hi a;clear i a;have b:=f.o.below d.o.base f.o.lt;have c:=g.o.below d.o.base g.o.lt;obtain⟨k,k1,-⟩:=zc b;obtain⟨k2,l,-⟩:=zc c;clear b c
       skip)
     |
      (go_at_call 210
       apply cM;apply FBag.equalF (w0:=W);(focus(first|exact d.o|exact d.o.drew));(repeat(first|exact mH|apply mT));exact s.o;rintro e m ⟨rfl,a⟩;clear d;have d:=Hi a;clear a;have b:=f.o.below d.o.base f.o.lt;have c:=g.o.below d.o.base g.o.lt;obtain⟨k,k1,-⟩:=zc b;obtain⟨k2,l,-⟩:=zc c;clear b c
       skip)
     ))
   |fail
  all_goals
   go_wp2;go_ret;exact⟨rfl,j.o.trans (d.o.base.mono j.o.size)⟩
def BarVal(p q:S2)(b:B6)(c:Int):Prop:=
 ∃px py qx qy vc vl vm,QOf p.x.data.toList px/\QOf p.y.data.toList py/\QOf q.x.data.toList qx/\QOf q.y.data.toList qy/\QOf b.c.data.toList vc/\QOf b.l.data.toList vl/\QOf b.m.data.toList vm/\
  c=if px=qx/\py=qy then 5 else if sgn3 vc.num<=0∨0<sgn3 vl.num∨sgn3 vm.num<0 then 5 else 0
def BarCode(js:List S2)(b:B6)(c:Int):Prop:=
 (¬(IsJ js.length b.a/\IsJ js.length b.b)/\c=4)∨
 (IsJ js.length b.a/\IsJ js.length b.b/\∃p q,js[b.a.toNat]?=some p/\js[b.b.toNat]?=some q/\BarVal p q b c)
theorem BarVal.inj{p q:S2}{b:B6}{c d:Int}(h:BarVal p q b c)(k:BarVal p q b d):c=d:=by
 obtain⟨A,B,C,D,E,F,G,a,e,f,g,i,j,l,rfl⟩:=h;obtain⟨m,n,o,r,s,t,u,k1,k2,v,w,x,y,z,rfl⟩:=k;obtain rfl:=a.inj k1;obtain rfl:=e.inj k2;obtain rfl:=f.inj v;obtain rfl:=g.inj w;obtain rfl:=i.inj x;obtain rfl:=j.inj y;obtain rfl:=l.inj z;rfl
theorem BarCode.inj{g:List S2}{b:B6}{c d:Int}(h:BarCode g b c)(k:BarCode g b d):c=d:=by
 rcases h with ⟨f,rfl⟩|⟨f,i,p,q,j,l,m⟩
 .
  rcases k with ⟨_,rfl⟩|⟨k1,k2,_⟩
  . rfl
  . exact absurd ⟨k1,k2⟩ f
 .
  rcases k with ⟨k1,_⟩|⟨_,_,o,r,a,e,n⟩
  . exact absurd ⟨f,i⟩ k1
  .
   rw[j] at a;rw[l] at e;cases a;cases e;exact m.inj n
structure FrSized (js:List S2) (bs:List B6) (hs:List H3):Prop where
 j:∀p,p∈ js->p.x.size<=1048576/\p.y.size<=1048576
 b:∀b,b∈ bs->b.c.size<=1048576/\b.e.size<=1048576/\b.l.size<=1048576/\b.m.size<=1048576
 h:∀x,x∈ hs->x.q.size<=1048576
theorem Qvb(a:Vx)(n b:Nat)(c f:Int)(j l m p:Vs)(w:Vz)(q:¬(IsJ n c/\IsJ n f)):
 Calls prog 104 #[.slice a n b,.agg #[.int .i64 c,.int .i64 f,.string j,.string l,.string m,.string p]] w fun e w'=>e=.returned (.int .i64 4)/\Below w.heap.size w w':=by
 rcases(show IsJ n c/\¬IsJ n f∨¬IsJ n c from Classical.byCases (fun h:IsJ n c=>.inl ⟨h,fun k=>q ⟨h,k⟩⟩) .inr) with ⟨h1,h2⟩|h1
 all_goals
  have r:=Hi h1
  try have s:=Hi h2
  try clear h2
  clear h1 q;go_enter func104,ntmps104;obtain⟨W,hW⟩:=nm (w.alloc (.cells #[.int .i64 c,.int .i64 f,.string j,.string l,.string m,.string p] 84));have i:=Ua hW;have g:=Uc hW;have t:O (Bl W W):=Hi bR;have d:=g.o.below t.o g.o.lt;obtain⟨u,k1,k2,v,x,-⟩:=zc d
  obtain⟨-,-,-,-,-,y,-⟩:=zc d;clear d;rw[<-hW] at u k1 k2 v x y;have z:=Hi hW;clear hW;go_wp2_with fail
  first
   |(
    go_fit (Qbb a n b c _ r.o);rintro e A ⟨rfl,rfl⟩;go_wp2_with fail
    go_fit (Qev a n b f _ s.o))
   |go_fit (Qev a n b c _ r.o)
  rintro e B ⟨rfl,rfl⟩;go_wp2;go_ret;exact⟨rfl,by rw[z.o];exact i.o⟩
theorem Qvc(a:Vx)(k l m:Nat)(s:List S2)(p q:S2)(I be J K:Vs)(t u z A U V X:Rat)(w:Vz)(hg:Glob w)(hj:ARow S2.cells w a k s)(Y:s[l]?=some p)(i:s[m]?=some q)
 (z1:p.x.size<=1048576/\p.y.size<=1048576) (z2:q.x.size<=1048576/\q.y.size<=1048576) (z3:I.size<=1048576/\J.size<=1048576/\K.size<=1048576)
 (q1:QOf p.x.data.toList t) (q2:QOf p.y.data.toList u) (q3:QOf q.x.data.toList z) (q4:QOf q.y.data.toList A) (q5:QOf I.data.toList U) (q6:QOf J.data.toList V) (q7:QOf K.data.toList X):
 Calls prog 104 #[.slice a s.length k,.agg #[.int .i64 l,.int .i64 m,.string I,.string be,.string J,.string K]] w fun e w'=>e=.returned (.int .i64 (if t=z/\u=A then 5 else if sgn3 U.num<=0∨0<sgn3 V.num∨sgn3 X.num<0 then 5 else 0))/\Below w.heap.size w w':=by
 have Z:=Hi z3;clear z3;obtain⟨L,B⟩:=nm (sgn3 U.num);obtain⟨Q,C⟩:=nm (sgn3 V.num);obtain⟨sm,D⟩:=nm (sgn3 X.num);rw[B,C,D];obtain⟨SC,SL,SM⟩:=Ib B C D;clear B C D;have gg:∀v:Int,(if t=z/\u=A then 5 else if L<=0∨0<Q∨sm<0 then 5 else 0)=v->decide (t=z/\u=A)=true/\v=5∨decide (t=z/\u=A)=false/\(L<=0/\v=5∨¬L<=0/\0<Q/\v=5∨¬L<=0/\¬0<Q/\sm<0/\v=5∨¬L<=0/\¬0<Q/\¬sm<0/\v=0):=by
  intro v R;by_cases r:t=z/\u=A
  . rw[if_pos r] at R
    exact .inl ⟨decide_eq_true r,R.symm⟩
  .
   rw[if_neg r] at R;refine .inr ⟨decide_eq_false r,?_⟩
   split at R<;>omega
 rcases gg _ rfl with ⟨hd,e⟩|⟨hd,⟨c1,e⟩|⟨c1,c2,e⟩|⟨c1,c2,c3,e⟩|⟨c1,c2,c3,e⟩⟩
 all_goals
  rw[e];have HD:=Hi hd;clear hd e gg;obtain⟨HG,HJ,HP,HQ,Z1,Z2,Q1,Q2,Q3⟩:=Ih hg hj Y i z1 z2 q1 q2 q3;obtain⟨Q4,Q5,Q6,Q7⟩:=Ic q4 q5 q6 q7;have i1:((0:Int)<=(l:Int)):=by omega
  have i2:((0:Int)<=(m:Int)):=by omega
  have i3:((l:Int)<(s.length:Int)):=by have:=(gZ Y).1;omega
  have i4:((m:Int)<(s.length:Int)):=by have:=(gZ i).1;omega
  clear hg hj Y i z1 z2 q1 q2 q3 q4 q5 q6 q7;go_enter func104,ntmps104;obtain⟨W,hW⟩:=nm (w.alloc (.cells #[.int .i64 (l:Int),.int .i64 (m:Int),.string I,.string be,.string J,.string K] 84));have g:=Ua hW;have d:=Uc hW;have HR:O (Bl W W):=Hi bR;have b:=d.o.below HR.o d.o.lt;obtain⟨E,k1,k2,F,-⟩:=zc b
  obtain⟨-,-,-,-,G,H,-⟩:=zc b;clear b;obtain⟨S,T,ha,l1,d0,d1⟩:=(HJ.o.below g.o).spot HP.o;obtain⟨b2,o2,aa,l2,d2,d3⟩:=(HJ.o.below g.o).spot HQ.o;subst ha;cases aa;rw[<-hW] at E k1 k2 F G H d0 d1 d2 d3;have HW:=Hi hW;clear hW;go_wp2_with fail;go_fit (Qbb _ s.length k l _ ⟨i1,i3⟩);rintro e w1 ⟨rfl,rfl⟩;go_wp2_with fail;go_fit (Qbb _ s.length k m _ ⟨i2,i4⟩);rintro e w2 ⟨rfl,rfl⟩;go_wp2_with fail;rw[HW.o];rw[HW.o] at E k1 k2 F G H d0 d1 d2 d3
  go_region_held3 (fun v=>v.cell? ⟨w.heap.size,0,none⟩=some (.int .i64 l)/\v.cell? ⟨w.heap.size,1,none⟩=some (.int .i64 m)/\v.cell? ⟨S,T+l*2,none⟩=some (.string p.x)/\v.cell? ⟨S,T+l*2+1,none⟩=some (.string p.y)/\v.cell? ⟨S,T+m*2,none⟩=some (.string q.x)/\v.cell? ⟨S,T+m*2+1,none⟩=some (.string q.y)) ((first|(simp [*];done)|go_keep)) (first
   |(
    go_at_call 164;apply cM;apply Qva p.x p.y q.x q.y t u z A;(first|exact HG.o.below g.o|exact HG.o.below g.o.drew);exact Z1.o.1;exact Z1.o.2;exact Z2.o.1;exact Z2.o.2;exact Q1.o;exact Q2.o;exact Q3.o;exact Q4.o;rintro e M ⟨rfl,N⟩;rw[HD.o];have h:O (Bl W M):=Hi ((bR.drew).trans N);have P:=Hi ((HJ.o.below g.o).below h.o);obtain⟨b3,o3,ab,l3,d0,d1⟩:=P.o.spot HP.o;obtain⟨b4,o4,ad,l4,d2,d3⟩:=P.o.spot HQ.o;cases ab;cases ad;have b:=d.o.below h.o d.o.lt;obtain⟨E,k1,k2,F,-⟩:=zc b
    obtain⟨-,-,-,-,G,H,-⟩:=zc b;clear b
    clear N)
   )
  have f:=Hi (FBag.start ((HG.o.below g.o).below h.o));go_wp2_with (first
   |
    (go_at_call_of 63 (Value.string I)
     apply cM;apply FBag.of (w0:=M) (n:=1048576);(focus(first|exact f.o|exact f.o.drew));exact Z.o.1;decide;rintro e wm ⟨qq,i,x1,x2,x3,rfl,c⟩;obtain rfl:=Q5.o.inj i;clear f;have f:=Hi c;clear i c;have j:=Hi (h.o.trans (f.o.base.mono h.o.size));have b:=d.o.below j.o d.o.lt;obtain⟨E,k1,k2,F,G,H,-⟩:=zc b;clear b
     clear j)
   |
    (go_at_call_of 63 (Value.string J)
     apply cM;apply FBag.of (w0:=M) (n:=1048576);(focus(first|exact f.o|exact f.o.drew));exact Z.o.2.1;decide;rintro e wm ⟨qq,i,x1,x2,x3,rfl,c⟩;obtain rfl:=Q6.o.inj i;clear f;have f:=Hi c;clear i c;have j:=Hi (h.o.trans (f.o.base.mono h.o.size));have b:=d.o.below j.o d.o.lt;obtain⟨E,k1,k2,F,G,H,-⟩:=zc b;clear b
     clear j)
   |
    (go_at_call_of 63 (Value.string K)
     apply cM;apply FBag.of (w0:=M) (n:=1048576);(focus(first|exact f.o|exact f.o.drew));exact Z.o.2.2;decide;rintro e wm ⟨qq,i,x1,x2,x3,rfl,c⟩;obtain rfl:=Q7.o.inj i;clear f;have f:=Hi c;clear i c;have j:=Hi (h.o.trans (f.o.base.mono h.o.size));have b:=d.o.below j.o d.o.lt;obtain⟨E,k1,k2,F,G,H,-⟩:=zc b;clear b
     clear j)
   |
    (go_at_call 165
     apply cM;apply FBag.sign (w0:=M);(focus(first|exact f.o|exact f.o.drew));(repeat(first|exact mH|apply mT));rintro e wm ⟨rfl,c⟩;(first|rw[SC.o]|rw[SL.o]|rw[SM.o]);clear f;have f:=Hi c;clear c;have j:=Hi (h.o.trans (f.o.base.mono h.o.size));have b:=d.o.below j.o d.o.lt;obtain⟨E,k1,k2,F,G,H,-⟩:=zc b;clear b
     clear j)
   |fail)
  go_ret;exact⟨rfl,g.o.trans ((h.o.trans (f.o.base.mono h.o.size)).mono g.o.size)⟩
open Go.RowKit Go.MapKept
abbrev pairV(p:Int × Int):Value:=.agg #[.int .i64 p.1,.int .i64 p.2]
theorem Qj9:(prog.info? 3).map (fun i=>(i.zero,i.size,i.bytes))=some (some (.int .i64 0),1,8):=by kernel_rfl
theorem Qka:prog.plainKey 3=true:=by kernel_rfl
theorem cellsInt:prog.cellsOf 3=1:=by kernel_rfl
theorem Qr6(b:Bool)(n:Nat)(p:Int × Int)(w:Vz):(Instr.checkKey b (n+2) 206 (pairV p)).run prog w=.ok () w:=by
 obtain⟨i,d,h⟩:=Option.map_eq_some_iff.1 Qj9;simp only[Prod.mk.injEq] at h;obtain⟨g,e,l⟩:=h;have c:∀(v:Int) (w:Vz),(Instr.checkKey b (n+1) 3 (.int .i64 v)).run prog w=.ok () w:=fun v w=>Go.MapKept.run_checkKey (k:=.int .i64 v) underlying3 (by simp[IsKey]) b n
 have a:∀(j:Nat) (v:Value) (w:Vz),#[Value.int .i64 p.1,.int .i64 p.2][j]?=some v->(part 3 #[.int .i64 p.1,.int .i64 p.2] j).run prog w=.ok v w:=fun j v w f=>run_part_plain w Qka f
 simp only[Instr.checkKey,Sem.run_bind,run_underlying underlying206,Result.andThen_ok];simp only[Std.Legacy.Range.forIn_eq_forIn_range',Std.Legacy.Range.size];simp[List.range',run_sizeOf _ d,e,c,cellsInt,a 0 _ _ rfl,a 1 _ _ rfl]
theorem Qgf(b:Bool)(p:Int × Int)(w:Vz):(Instr.checkKey b 10000 206 (pairV p)).run prog w=.ok () w:=Qr6 b 9998 p w
theorem Qr7(n:Nat)(p q:Int × Int)(w:Vz):(Op.equalIn (n+2) 206 (pairV p) (pairV q)).run prog w=.ok (decide (p=q)) w:=by
 obtain⟨i,e,h⟩:=Option.map_eq_some_iff.1 Qj9;rw[run_equalIn_array w (n+1) _ _ underlying206 e];have a:∀(r:Int × Int) (j:Nat) (v:Value) (w:Vz),#[Value.int .i64 r.1,.int .i64 r.2][j]?=some v->(part 3 #[.int .i64 r.1,.int .i64 r.2] j).run prog w=.ok v w:=fun r j v w f=>run_part_plain w Qka f
 have b:∀(x y:Int) (w:Vz),(Op.equalIn (n+1) 3 (.int .i64 x) (.int .i64 y)).run prog w=.ok (x == y) w:=by
  intro x y w;simp[Op.equalIn,run_underlying underlying3]
 simp[List.range,List.range.loop,Op.eqItems,cellsInt,a p 0 _ _ rfl,a p 1 _ _ rfl,a q 0 _ _ rfl,a q 1 _ _ rfl,b];obtain⟨g,k⟩:=p;obtain⟨l,m⟩:=q;by_cases c:g=l
 .
  by_cases d:k=m
  . simp[c,d]
  . simp[c,d]
 . simp[c]
theorem Qkb(p q:Int × Int)(w:Vz):(Op.equal 206 (pairV p) (pairV q)).run prog w=.ok (decide (p=q)) w:=Qr7 9998 p q w
def PairSet(es:Array MapEntry)(ps:List (Int × Int)):Prop:=es.toList.map (fun e=>(e.key,e.val))=ps.map fun p=>(pairV p,Value.agg #[])
theorem Qgg(p:Int × Int)(w:Vz):∀(c:List MapEntry) (b:List (Int × Int)) (k:Nat),c.map (fun e=>(e.key,e.val))=b.map (fun p=>(pairV p,Value.agg #[]))->
 ∃r:Option (Nat × Value),(Instr.findAsking 206 (pairV p) c k).run prog w=.ok r w/\(p∈ b->∃j,r=some (j,.agg #[]))/\(p ∉ b->r=none)
 | [],b,k,h=>by
   have:b= []:=by simpa using h.symm
   subst this;exact⟨none,by simp[Instr.findAsking],by simp,fun _=>rfl⟩
 |e :: c,[],k,h=>by simp at h
 |e :: c,q :: b,k,h=>by
  simp only[List.map_cons,List.cons.injEq,Prod.mk.injEq] at h;obtain⟨⟨hk,g⟩,i⟩:=h;by_cases a:p=q
  . exact⟨some (k,.agg #[]),by simp[Instr.findAsking,hk,g,Qkb,a],fun _=>⟨k,rfl⟩,fun d=>absurd (by simp[a]) d⟩
  .
   obtain⟨r,l,m,n⟩:=Qgg p w c b (k+1) i;refine⟨r,?_,fun f=>m ?_,fun d=>n ?_⟩
   . simp only[Instr.findAsking,hk,Sem.run_bind,Qkb,Result.andThen_ok,a,decide_false]
     simpa using l
   .
    rcases List.mem_cons.1 f with h|h
    . exact absurd h a
    . exact h
   . intro f
     exact d (List.mem_cons_of_mem _ f)
theorem Qr8:∀w,(zeroValue 207).run prog w=.ok (.agg #[]) w:=Tryz.zeroValue207
theorem Qr9(r a:Nat)(b:Array MapEntry)(c:List (Int × Int))(p:Int × Int)(w:Vz)(e:w.heap[r]?=some (.map b a))(g:PairSet b c):
 (Instr.lookup 205 (.map (some r)) (pairV p) true).run prog w=.ok (.tuple #[.agg #[],.bool (decide (p∈ c))]) w:=by
 obtain⟨x,h,i,k⟩:=Qgg p w b.toList c 0 g;have f:(Instr.findKey 206 (pairV p) b.toList).run prog w=.ok x w:=by
  rw[run_findKey_eq w (by rw[underlying206])];exact h
 by_cases d:p∈ c
 . obtain⟨j,rfl⟩:=i d
   simp[Instr.lookup,run_underlying underlying205,Go.MapKept.run_getObj_map e,Qgf,f,d]
 . obtain rfl:=k d
   simp[Instr.lookup,run_underlying underlying205,Go.MapKept.run_getObj_map e,Qgf,f,d,Qr8]
theorem Qsa(r a:Nat)(b:Array MapEntry)(c:List (Int × Int))(p:Int × Int)(w:Vz)(d:w.heap[r]?=some (.map b a))(e:PairSet b c)(f:p ∉ c):
 (Instr.mapUpdate 205 (.map (some r)) (pairV p) (.agg #[])).run prog w=.ok () { w with heap:=w.heap.setIfInBounds r (.map (b.push { key:=pairV p,val:=.agg #[],born:=a }) (a+1)) }:=by
 obtain⟨x,g,j,h⟩:=Qgg p w b.toList c 0 e;have i:(Instr.findKey 206 (pairV p) b.toList).run prog w=.ok x w:=by
  rw[run_findKey_eq w (by rw[underlying206])];exact g
 obtain rfl:=h f;simp[Instr.mapUpdate,run_underlying underlying205,Go.MapKept.run_getObj_map d,Qgf,i,Go.MapKept.run_setObj_map _ d,Result.andThen]
end Go.Proofs.YtkkadnoecklepaaGreatDoor
