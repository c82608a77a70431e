/- A region that draws its order: each operation is shown once, by facts on what those that it waits for have left. -/
import Derived.Below
import Derived.Tactics
import Derived.Deep.RegionHeld3
namespace Go.Proofs.YtfpcipgoedifaaaGreatDoor
open Go Go.RowKit
set_option linter.unusedVariables false
abbrev Fact:=Value→World→Prop
def NoF:Fact:=fun _ _=>False
def Is(c:Value):Fact:=fun v _=>v=c
def Stays(φ:Fact):Prop:=∀v w w',Below w.heap.size w w'→φ v w→φ v w'
theorem Qaf{c:Value}{w:World}{p:Value→Prop}:(∀v,Is c v w→p v)↔p c:=⟨fun h=>h c rfl,fun h v e=>e ▸ h⟩
theorem Is.stays(c:Value):Stays (Is c):=fun _ _ _ _ h=>h
def dstOf(ops:Array Oper)(j:Nat):Option Tmp:=(ops[j]?).bind (·.dst)
def DstsOK(ops:Array Oper)(m:Nat)(ds:Nat→Option Tmp):Bool:=(List.range m).all fun j=>dstOf ops j == ds j
def depsOf(ops:Array Oper)(i:Nat):List Nat:=match ops[i]? with
 |some o=>(o.after.toList.filter (Region.binds .any)).map (·.on)
 |none=>[]
theorem Qec{ops:Array Oper}{i j:Nat}{o:Oper}(ho:ops[i]?=some o):j∈ depsOf ops i↔∃e∈ o.after,Region.binds .any e=true∧e.on=j:=by
 unfold depsOf;rw[ho];simp only[List.mem_map,List.mem_filter,Array.mem_toList_iff];constructor
 · rintro⟨e,⟨h1,h2⟩,h3⟩;exact⟨e,h1,h2,h3⟩
 · rintro⟨e,h1,h2,h3⟩;exact⟨e,⟨h1,h2⟩,h3⟩
def RegOK(ops:Array Oper)(n:Nat):Bool:=
 Region.noSelect ops && (List.range ops.size).all fun i=>match ops[i]? with
  |none=>false
  |some o=>(depsOf ops i).all (fun j=>decide (j<i)) && (match o.dst with|some d=>decide (d<n)|none=>true) &&
   (List.range ops.size).all fun j=>j == i || match dstOf ops j with
     |none=>true
     |some d=>!(o.dst == some d)
def JsOK(ops:Array Oper)(i:Nat)(js:List Nat):Bool:=match ops[i]? with
 |none=>false
 |some o=>js.all (fun j=>(depsOf ops i).contains j) && (List.range ops.size).all fun j=>j == i || js.contains j || (depsOf ops j).contains i || match dstOf ops j with
  |none=>true
  |some d=>!(o.looksAt ops).contains d
theorem JsOK.spec{ops:Array Oper}{i:Nat}{js:List Nat}{o:Oper}(ho:ops[i]?=some o)(h:JsOK ops i js=true):(∀j∈ js,j∈ depsOf ops i)∧∀j d,i≠j→dstOf ops j=some d→d∈ o.looksAt ops→j∈ js∨i∈ depsOf ops j:=by
 unfold JsOK at h;rw[ho] at h;simp only[Bool.and_eq_true,List.all_eq_true,List.mem_range,List.contains_eq_mem,decide_eq_true_eq] at h;refine⟨h.1,fun j d hij hd hm=>?_⟩;have hlt:j<ops.size:=by
  unfold dstOf at hd;rcases Nat.lt_or_ge j ops.size with h1|h1
  · exact h1
  · rw[Array.getElem?_eq_none h1] at hd;cases hd
 have h4:=h.2 j hlt;rw[hd] at h4;simp only[Bool.or_eq_true,beq_iff_eq,Ne.symm hij,false_or,Bool.not_eq_true',decide_eq_false_iff_not,decide_eq_true_eq] at h4;rcases h4 with (h5|h5)|h5
 · exact .inl h5
 · exact .inr h5
 · exact absurd hm h5
structure RegFine (ops:Array Oper) (n:Nat):Prop where
 sel:∀(j:Nat) (o:Oper) cs b,ops[j]?=some o→o.op≠.select cs b
 low:∀i j,j∈ depsOf ops i→j<i
 fits:∀i d,dstOf ops i=some d→d<n
 one:∀i j d,dstOf ops i=some d→dstOf ops j=some d→i=j
theorem Qsu{ops:Array Oper}{j d:Nat}(h:dstOf ops j=some d):j<ops.size:=by
 unfold dstOf at h;rcases Nat.lt_or_ge j ops.size with h1|h1
 · exact h1
 · rw[Array.getElem?_eq_none h1] at h;cases h
theorem RegFine.of{ops:Array Oper}{n:Nat}(h:RegOK ops n=true):RegFine ops n:=by
 unfold RegOK at h;simp only[Bool.and_eq_true,List.all_eq_true,List.mem_range] at h;obtain⟨hs,h⟩:=h;have key:∀i o,ops[i]?=some o→(∀j∈ depsOf ops i,j<i)∧(∀d,o.dst=some d→d<n)∧∀j d,j≠i→dstOf ops j=some d→o.dst≠some d:=by
  intro i o ho;have hi:i<ops.size:=(Array.getElem?_eq_some_iff.1 ho).1;have h1:=h i hi;rw[ho] at h1;simp only[Bool.and_eq_true,List.all_eq_true,decide_eq_true_eq,List.mem_range] at h1;obtain⟨⟨a1,a2⟩,a4⟩:=h1;refine⟨a1,?_,?_⟩
  · intro d hd;rw[hd] at a2;simpa using a2
  ·
   intro j d hj hd;have h4:=a4 j (Qsu hd);rw[hd] at h4
   simpa only[Bool.or_eq_true,beq_iff_eq,hj,false_or,Bool.not_eq_true',beq_eq_false_iff_ne] using h4
 have some_of:∀i d,dstOf ops i=some d→∃o,ops[i]?=some o∧o.dst=some d:=by
  intro i d hd;unfold dstOf at hd;cases ho:ops[i]? with
  |none=>rw[ho] at hd;cases hd
  |some o=>rw[ho] at hd;exact⟨o,rfl,hd⟩
 refine⟨Region.noSelect_spec hs,?_,?_,?_⟩
 ·
  intro i j hj;cases ho:ops[i]? with
  |none=>unfold depsOf at hj;rw[ho] at hj;cases hj
  |some o=>exact(key i o ho).1 j hj
 ·
  intro i d hd;obtain⟨o,ho,he⟩:=some_of i d hd;exact(key i o ho).2.1 d he
 ·
  intro i j d hi hj;obtain⟨o,ho,he⟩:=some_of i d hi;by_cases hij:j=i
  · exact hij.symm
  · exact absurd he ((key i o ho).2.2 j d hij hj)
def putL(ops:Array Oper)(xs:Nat→Value):List Nat→Act→Act
 | [],a=>a
 |j :: js,a=>putL ops xs js (a.put (dstOf ops j) (xs j))
theorem Qkg{ops:Array Oper}{xs:Nat→Value}:∀(L M:List Nat) (a:Act),putL ops xs (L++M) a=putL ops xs M (putL ops xs L a)
 | [],_,_=>rfl
 |j :: L,M,a=>Qkg L M _
theorem Qkh{ops:Array Oper}{xs ys:Nat→Value}:∀(L:List Nat) (a:Act),(∀j∈ L,xs j=ys j)→putL ops xs L a=putL ops ys L a
 | [],_,_=>rfl
 |j :: L,a,h=>by
  unfold putL;rw[h j (List.mem_cons_self)];exact Qkh L _ (fun k hk=>h k (List.mem_cons_of_mem _ hk))
theorem Qki(a:Act)(d:Option Tmp)(v:Value):(a.put d v).defers=a.defers:=by cases d<;>rfl
theorem Qkj(a:Act)(d:Option Tmp)(v:Value):(a.put d v).tmps.size=a.tmps.size:=by cases d<;>simp[Act.put]
theorem Qf1{ops:Array Oper}{xs:Nat→Value}:∀(L:List Nat) (a:Act),(putL ops xs L a).defers=a.defers
 | [],_=>rfl
 |j :: L,a=>by unfold putL;rw[Qf1 L,Qki]
theorem Qkk{ops:Array Oper}{xs:Nat→Value}:∀(L:List Nat) (a:Act),(putL ops xs L a).tmps.size=a.tmps.size
 | [],_=>rfl
 |j :: L,a=>by unfold putL;rw[Qkk L,Qkj]
theorem Qsv(a:Act){d:Option Tmp}{t:Nat}(v:Value)(h:d≠some t):(a.put d v).tmps[t]?=a.tmps[t]?:=by
 cases d with
 |none=>rfl
 |some e=>simp only[Act.put];exact Array.getElem?_setIfInBounds_ne (fun he=>h (by rw[he]))
theorem Qkl(a:Act){t:Nat}(v:Value)(h:t<a.tmps.size):(a.put (some t) v).tmps[t]?=some v:=by
 simp[Act.put,Array.getElem?_setIfInBounds_self_of_lt h]
theorem Qcb{ops:Array Oper}{xs:Nat→Value}{t:Nat}:∀(L:List Nat) (a:Act),(∀j∈ L,dstOf ops j≠some t)→(putL ops xs L a).tmps[t]?=a.tmps[t]?
 | [],_,_=>rfl
 |j :: L,a,h=>by
  unfold putL;rw[Qcb L _ (fun k hk=>h k (List.mem_cons_of_mem _ hk)),Qsv _ _ (h j List.mem_cons_self)]
theorem Qcw{ops:Array Oper}{n:Nat}(F:RegFine ops n){xs:Nat→Value}{t j:Nat}(hd:dstOf ops j=some t):∀(L:List Nat) (a:Act),a.tmps.size=n→j∈ L→(putL ops xs L a).tmps[t]?=some (xs j)
 | [],_,_,h=>by cases h
 |k :: L,a,hn,h=>by
  unfold putL;by_cases hj:j∈ L
  · exact Qcw F hd L _ (by rw[Qkj];exact hn) hj
  ·
   rcases List.mem_cons.1 h with rfl|h'
   · rw[Qcb L _ (fun m hm hc=>hj (by rw[F.one _ _ _ hd hc];exact hm)),hd]
     exact Qkl _ _ (by rw[hn];exact F.fits _ _ hd)
   · exact absurd h' hj
theorem Qf2{ops:Array Oper}{n:Nat}(F:RegFine ops n){xs:Nat→Value}{L M:List Nat}{a:Act}(hn:a.tmps.size=n)(h:∀j,j∈ L↔j∈ M):putL ops xs L a=putL ops xs M a:=by
 have e:(putL ops xs L a).tmps=(putL ops xs M a).tmps:=by
  apply Array.ext_getElem?;intro t;by_cases hc:∃j∈ L,dstOf ops j=some t
  · obtain⟨j,hj,hd⟩:=hc
    rw[Qcw F hd L a hn hj,Qcw F hd M a hn ((h j).1 hj)]
  · rw[Qcb L a (fun j hj hd=>hc ⟨j,hj,hd⟩),Qcb M a (fun j hj hd=>hc ⟨j,(h j).2 hj,hd⟩)]
 have e2:(putL ops xs L a).defers=(putL ops xs M a).defers:=by rw[Qf1,Qf1]
 revert e e2;generalize putL ops xs L a=p;generalize putL ops xs M a=q;intro e e2;cases p;cases q;simp only at e e2;rw[e,e2]
section
variable {P:Program} {ops:Array Oper} {Q:Exit→Act→World→Prop}
def left(d:Option Tmp)(a:Act):Value:=match d with
 |some t=>a.tmps.getD t undef
 |none=>undef
@[go_sem] theorem Qvw (t:Tmp) (a:Act):left (some t) a=a.tmps.getD t undef:=rfl
@[go_sem] theorem Qvx (a:Act):left none a=undef:=rfl
def Nope:Exit→Act→World→Prop:=fun _ _ _=>False
theorem Qsw{i:Nat}{o:Oper}{a b:Act}{w:World}{K:Act→World→Prop}{N:Value→World→Prop}(ho:ops[i]?=some o)
 (hd:∀d,o.dst=some d→d<b.tmps.size) (he:execOp a.eval o=execOp b.eval o) (hw:Region.wanted o (yielded ops a.tmps)=Region.wanted o (yielded ops b.tmps))
 (h:if Region.wanted o (yielded ops b.tmps)=true then Oper.wp P o b w (fun a' w'=>a'.defers=b.defers∧N (left o.dst a') w') Nope else N undef w)
 (hK:∀v w',N v w'∨(o.dst=none∧N undef w')→K (a.put o.dst v) w'):wpOp P ops Q i K a w:=by
 have lf:∀v,o.dst=none∧left o.dst (b.put o.dst v)=undef∨left o.dst (b.put o.dst v)=v:=by
  intro v;cases hdd:o.dst with
  |none=>exact .inl ⟨rfl,rfl⟩
  |some d=>
   refine .inr ?_;have:=Qkl b v (hd d hdd);simp only[left,Array.getD_eq_getD_getElem?,this,Option.getD_some]
 have use:∀v w',N (left o.dst (b.put o.dst v)) w'→K (a.put o.dst v) w':=by
  intro v w' hN;rcases lf v with ⟨h1,h2⟩|h2
  · rw[h2] at hN;exact hK v w' (.inr ⟨h1,hN⟩)
  · rw[h2] at hN;exact hK v w' (.inl hN)
 unfold wpOp;simp only[ho];rw[hw];by_cases hwt:Region.wanted o (yielded ops b.tmps)=true
 ·
  rw[if_pos hwt] at h ⊢;refine .inl ?_;unfold Oper.wp at h ⊢;rw[he];generalize (execOp b.eval o).run P w=r at*;cases r with
  |ok n w'=>
   cases n<;>simp only[Oper.upon] at h ⊢
   case value u=>exact use u w' h.2
   case skip=>exact use undef w' h.2
   case defer d=>
    have:=h.1;rw[Qki] at this;have:=congrArg List.length this;simp at this
   case enter f args=>
    refine Calls.mono h fun e w'' he'=>?_
    cases e with
    |returned u=>exact use u w'' he'.2
    |panicked c=>exact he'.elim
    |outgrown=>obtain⟨_,_,h'⟩:=he';exact h'.elim
   case row row args=>exact Rows.mono h fun u w'' he'=>use u w'' he'.2
  |halt x w'=>
   cases x<;>simp only[Oper.upon] at h ⊢
   case panic u=>exact h.elim
 · rw[if_neg hwt] at h ⊢
   exact hK undef w (.inl h)
def Given(ds:Nat→Option Tmp)(Φ:List Fact)(w:World)(N:Act→Prop):List Nat→Act→Prop
 | [],a=>N a
 |j :: js,a=>∀v,Φ.getD j NoF v w→Given ds Φ w N js (a.put (ds j) v)
theorem Given.use{ds:Nat→Option Tmp}{Φ:List Fact}{w:World}{N:Act→Prop}{xs:Nat→Value}:∀(js:List Nat) (a:Act),(∀j∈ js,ds j=dstOf ops j)→Given ds Φ w N js a→(∀j∈ js,Φ.getD j NoF (xs j) w)→N (putL ops xs js a)
 | [],_,_,h,_=>h
 |j :: js,a,hd,h,hx=>by
  have h1:=h (xs j) (hx j List.mem_cons_self);rw[hd j List.mem_cons_self] at h1;exact Given.use js _ (fun k hk=>hd k (List.mem_cons_of_mem _ hk)) h1 (fun k hk=>hx k (List.mem_cons_of_mem _ hk))
theorem Given.more{ds:Nat→Option Tmp}{Φ Ψ:List Fact}{w:World}{N:Act→Prop}:∀(js:List Nat) (a:Act),(∀j∈ js,Φ.getD j NoF=Ψ.getD j NoF)→Given ds Φ w N js a→Given ds Ψ w N js a
 | [],_,_,h=>h
 |j :: js,a,he,h=>fun v hv=>Given.more js _ (fun k hk=>he k (List.mem_cons_of_mem _ hk)) (h v (by rw[he j List.mem_cons_self];exact hv))
end
structure RelOK (R:World→World→Prop):Prop where
 refl:∀w,R w w
 trans:∀{u v w},R u v→R v w→R u w
def StaysX(R:World→World→Prop)(φ:Fact):Prop:=∀v w w',R w w'→φ v w→φ v w'
theorem Is.staysX(R:World→World→Prop)(c:Value):StaysX R (Is c):=fun _ _ _ _ h=>h
def StepOX(R:World→World→Prop)(P:Program)(ops:Array Oper)(a0:Act)(w0:World)(ds:Nat→Option Tmp)(Φ:List Fact)(o:Oper)(js:List Nat)(φ:Fact):Prop:=
 ∀w,R w0 w→Given ds Φ w (fun b=>∀K:Value→World→Prop,Shut (∀v w',R w w'→φ v w'→K v w')→if Region.wanted o (yielded ops b.tmps)=true then Oper.wp P o b w (fun a' w'=>a'.defers=b.defers∧K (left o.dst a') w') Nope else K undef w) js a0
def StepsOX(R:World→World→Prop)(P:Program)(ops:Array Oper)(a0:Act)(w0:World)(ds:Nat→Option Tmp)(Φ:List Fact):Prop:=
 ∀i φ,Φ[i]?=some φ→StaysX R φ∧∃o js,ops[i]?=some o∧JsOK ops i js=true∧StepOX R P ops a0 w0 ds Φ o js φ
def RegX(R:World→World→Prop)(P:Program)(ops:Array Oper)(Q:Exit→Act→World→Prop)(m n:Nat)(a0:Act)(w0:World)(ds:Nat→Option Tmp)(Φ:List Fact):Prop:=
 (∀j,j<m→ds j=dstOf ops j)→RegFine ops n→a0.tmps.size=n→StepsOX R P ops a0 w0 ds Φ→wpAny P .any ops Q ops.size (Array.replicate ops.size false) a0 w0
structure AtX (R:World→World→Prop) (P:Program) (ops:Array Oper) (a0:Act) (w0:World) (Φ:List Fact) (L:List Nat) (listed:Array Bool) (xs:Nat→Value) (a:Act) (w:World):Prop where
 nodup:L.Nodup
 lt:∀j∈ L,j<ops.size
 size:listed.size=ops.size
 marks:∀j,j<ops.size→listed[j]?=some (decide (j∈ L))
 closed:∀i∈ L,∀j∈ depsOf ops i,j∈ L
 act:a=putL ops xs L a0
 facts:∀j∈ L,Φ.getD j NoF (xs j) w
 base:R w0 w
theorem Qf3:∀(L:List Nat) (n:Nat),L.Nodup→(∀j∈ L,j<n)→L.length≤n:=by
 intro L n hn hl;have:=hn.length_le_of_subset (l₂:=List.range n) (fun j hj=>List.mem_range.2 (hl j hj))
 simpa using this
theorem Qf4(L:List Nat)(n:Nat)(hn:L.Nodup)(hl:∀j∈ L,j<n)(hc:n≤L.length):∀j,j<n→j∈ L:=by
 intro j hj;by_cases hm:j∈ L
 · exact hm
 ·
  have:=Qf3 (j :: L) n (List.nodup_cons.2 ⟨hm,hn⟩) (fun k hk=>by
   rcases List.mem_cons.1 hk with rfl|h
   · exact hj
   · exact hl k h)
  simp at this;omega
section
variable {P:Program} {ops:Array Oper} {Q:Exit→Act→World→Prop} {R:World→World→Prop}
theorem RegX.begin{id n:Nat}{a0:Act}{w:World}(m:Nat)(ds:Nat→Option Tmp)(hm:P.follows .mixedOrders=true)(hds:DstsOK ops m ds=true)(hok:RegOK ops n=true)(hn:a0.tmps.size=n)
 (h:RegX R P ops Q m n a0 w.drew ds []):(Code.region id ops true).wp P Q a0 w:=
 wp_region_any hm (h (fun j hj=>by
  unfold DstsOK at hds;simp only[List.all_eq_true,List.mem_range,beq_iff_eq] at hds
  exact(hds j hj).symm) (RegFine.of hok) hn (fun i φ hi=>by cases hi))
theorem RegX.step{m n:Nat}{a0:Act}{w0:World}{ds:Nat→Option Tmp}{Φ:List Fact}{i:Nat}{o:Oper}{φ:Fact}(js:List Nat)(hi:Φ.length=i)(ho:ops[i]?=some o)(hj:JsOK ops i js=true)
 (hs:StaysX R φ) (h:StepOX R P ops a0 w0 ds Φ o js φ) (hr:RegX R P ops Q m n a0 w0 ds (Φ++ [φ])):RegX R P ops Q m n a0 w0 ds Φ:=fun hds F hn hst=>by
 refine hr hds F hn (fun k ψ hk=>?_);have hlt:k<Φ.length+1:=by
  have:=(List.getElem?_eq_some_iff.1 hk).1
  simpa using this
 have same:∀k,k≤Φ.length→∀j∈ depsOf ops k,Φ.getD j NoF=(Φ++ [φ]).getD j NoF:=fun k hk j hj=>by
  have:=F.low k j hj;rw[List.getD_eq_getElem?_getD,List.getD_eq_getElem?_getD,List.getElem?_append_left (by omega)]
 rcases Nat.lt_or_ge k Φ.length with h1|h1
 ·
  rw[List.getElem?_append_left h1] at hk;obtain⟨g1,o',js',g2,g4,g3⟩:=hst k ψ hk;exact⟨g1,o',js',g2,g4,fun w hb=>Given.more _ _ (fun j hj=>same k (by omega) j ((JsOK.spec g2 g4).1 j hj)) (g3 w hb)⟩
 ·
  have hkk:k=Φ.length:=by omega
  subst hkk;rw[List.getElem?_append_right (Nat.le_refl _)] at hk;simp only[Nat.sub_self,List.getElem?_cons_zero,Option.some.injEq] at hk;subst hk;subst hi;exact⟨hs,o,js,ho,hj,fun w hb=>Given.more _ _ (fun j hj'=>same _ (Nat.le_refl _) j ((JsOK.spec ho hj).1 j hj')) (h w hb)⟩
theorem RegX.is(hR:RelOK R){m n:Nat}{a0:Act}{w0:World}{ds:Nat→Option Tmp}{Φ:List Fact}{i:Nat}{o:Oper}{c:Value}(js:List Nat)(hi:Φ.length=i)(ho:ops[i]?=some o)(hj:JsOK ops i js=true)
 (h:∀w,R w0 w→Given ds Φ w (fun b=>∀K:Value→World→Prop,Shut (K c w)→if Region.wanted o (yielded ops b.tmps)=true then Oper.wp P o b w (fun a' w'=>a'.defers=b.defers∧K (left o.dst a') w') Nope else K undef w) js a0)
 (hr:RegX R P ops Q m n a0 w0 ds (Φ++ [Is c])):RegX R P ops Q m n a0 w0 ds Φ:=
 RegX.step js hi ho hj (Is.staysX R c) (fun w hb=>by
  have h1:=h w hb;revert h1;generalize a0=b0;intro h1;have key:∀(js:List Nat) (b0:Act),Given ds Φ w (fun b=>∀K:Value→World→Prop,Shut (K c w)→if Region.wanted o (yielded ops b.tmps)=true then Oper.wp P o b w (fun a' w'=>a'.defers=b.defers∧K (left o.dst a') w') Nope else K undef w) js b0→Given ds Φ w (fun b=>∀K:Value→World→Prop,Shut (∀v w',R w w'→Is c v w'→K v w')→if Region.wanted o (yielded ops b.tmps)=true then Oper.wp P o b w (fun a' w'=>a'.defers=b.defers∧K (left o.dst a') w') Nope else K undef w) js b0:=by
   intro js
   induction js with
   |nil=>intro b0 h K hK;exact h K (hK c w (hR.refl _) rfl)
   |cons j js ih=>intro b0 h v hv;exact ih _ (h v hv)
  exact key js b0 h1) hr
theorem AtX.ready{a0:Act}{w0:World}{Φ:List Fact}{L:List Nat}{listed:Array Bool}{xs:Nat→Value}{a:Act}{w:World}(H:AtX R P ops a0 w0 Φ L listed xs a w){i:Nat}(hi:i∈ Region.ready .any ops listed):
 i<ops.size∧i ∉ L∧(∀j∈ depsOf ops i,j∈ L)∧∃o,ops[i]?=some o:=by
 obtain⟨h1,o,ho,h2⟩:=mem_ready.1 hi;have hlt:i<ops.size:=(Array.getElem?_eq_some_iff.1 ho).1;have hm:=H.marks i hlt;rw[Array.getD_eq_getD_getElem?,hm] at h1;refine⟨hlt,by simpa using h1,fun j hj=>?_,o,ho⟩;obtain⟨e,he,hb,rfl⟩:=(Qec ho).1 hj;have h3:=h2 e he hb;rcases Nat.lt_or_ge e.on ops.size with h4|h4
 · rw[Array.getD_eq_getD_getElem?,H.marks _ h4] at h3
   simpa using h3
 · rw[Array.getD_eq_getD_getElem?,Array.getElem?_eq_none (by rw[H.size];exact h4)] at h3
   cases h3
theorem AtX.next(hR:RelOK R){n:Nat}(F:RegFine ops n){a0:Act}{w0:World}{Φ:List Fact}{L:List Nat}{listed:Array Bool}{xs:Nat→Value}{a:Act}{w w':World}(hn:a0.tmps.size=n)(H:AtX R P ops a0 w0 Φ L listed xs a w){i:Nat}(hi:i<ops.size)(hL:i ∉ L)(hd:∀j∈ depsOf ops i,j∈ L)
 (hst:∀j,StaysX R (Φ.getD j NoF)) (hb:R w w') {v:Value} (hv:Φ.getD i NoF v w') {d:Option Tmp} (hdd:dstOf ops i=d) {u:Value} (hu:u=v∨d=none):
 AtX R P ops a0 w0 Φ (L++ [i]) (listed.setIfInBounds i true) (fun j=>if j=i then v else xs j) (a.put d u) w':=by
 refine⟨?_,?_,?_,?_,?_,?_,?_,?_⟩
 · exact List.nodup_append.2 ⟨H.nodup,by simp,fun x hx y hy=>by simp at hy;subst hy;exact fun e=>hL (e ▸ hx)⟩
 ·
  intro j hj;rcases List.mem_append.1 hj with h|h
  · exact H.lt j h
  · simp at h;omega
 · simp[H.size]
 ·
  intro j hj;by_cases he:j=i
  ·
   subst he;rw[Array.getElem?_setIfInBounds_self_of_lt (by rw[H.size];exact hj)];simp
  · rw[Array.getElem?_setIfInBounds_ne (fun h=>he h.symm),H.marks j hj]
    simp[he]
 ·
  intro k hk j hj;rcases List.mem_append.1 hk with h|h
  · exact List.mem_append_left _ (H.closed k h j hj)
  ·
   simp at h;subst h;exact List.mem_append_left _ (hd j hj)
 ·
  rw[Qkg,H.act];have e:putL ops (fun j=>if j=i then v else xs j) L a0=putL ops xs L a0:=Qkh L a0 (fun j hj=>if_neg (fun he:j=i=>hL (he ▸ hj)));rw[e]
  show _=(putL ops xs L a0).put (dstOf ops i) (if i=i then v else xs i)
  rw[if_pos rfl,hdd];rcases hu with rfl|rfl<;>rfl
 ·
  intro j hj;by_cases he:j=i
  · subst he
    simpa using hv
  ·
   have hjL:j∈ L:=by
    rcases List.mem_append.1 hj with h|h
    · exact h
    · simp at h;exact absurd h he
   simp only[if_neg he];exact hst j _ _ _ hb (H.facts j hjL)
 · exact hR.trans H.base hb
theorem AtX.same{n:Nat}(F:RegFine ops n){a0:Act}{w0:World}{Φ:List Fact}{L:List Nat}{listed:Array Bool}{xs:Nat→Value}{a:Act}{w:World}(hn:a0.tmps.size=n)(H:AtX R P ops a0 w0 Φ L listed xs a w){i:Nat}{o:Oper}(ho:ops[i]?=some o)(hL:i ∉ L)(hd:∀j∈ depsOf ops i,j∈ L){js:List Nat}(hj:JsOK ops i js=true):
 execOp a.eval o=execOp (putL ops xs js a0).eval o∧Region.wanted o (yielded ops a.tmps)=Region.wanted o (yielded ops (putL ops xs js a0).tmps):=by
 obtain⟨j1,j2⟩:=JsOK.spec ho hj;have key:∀t,t∈ o.looksAt ops→a.tmps[t]?=(putL ops xs js a0).tmps[t]?:=by
  intro t ht;rw[H.act];by_cases hc:∃j∈ L,dstOf ops j=some t
  ·
   obtain⟨j,hj,hdj⟩:=hc;have hji:i≠j:=fun e=>hL (e ▸ hj)
   rcases j2 j t hji hdj ht with h|h
   · rw[Qcw F hdj L a0 hn hj,Qcw F hdj _ a0 hn h]
   · exact absurd (H.closed j hj i h) hL
  · rw[Qcb L a0 (fun j hj hdj=>hc ⟨j,hj,hdj⟩),Qcb _ a0 (fun j hj hdj=>hc ⟨j,hd j (j1 j hj),hdj⟩)]
 constructor
 ·
  refine execOp_congr o (fun cs b=>F.sel i o cs b ho) (fun x hx=>?_);cases x with
  |tmp t=>
   have:=key t (List.mem_append_left _ (List.mem_filterMap.2 ⟨.tmp t,by simpa using hx,rfl⟩));simp only[Act.eval,Array.getD_eq_getD_getElem?,this]
  |_=>rfl
 ·
  unfold Region.wanted;cases hg:o.guard with
  |none=>rfl
  |some gw=>
   obtain⟨g,want⟩:=gw;have hy:yielded ops a.tmps g=yielded ops (putL ops xs js a0).tmps g:=by
    unfold yielded;cases ht:(ops[g]?).bind (·.dst) with
    |none=>rfl
    |some t=>
     have:=key t (by simp[Oper.looksAt,hg,ht]);simp only[Option.bind_some,this]
   simp only[hy]
theorem AtX.come(hR:RelOK R){n:Nat}(F:RegFine ops n){a0:Act}{w0:World}{Φ:List Fact}{L:List Nat}{listed:Array Bool}{xs:Nat→Value}{a:Act}{w:World}(hn:a0.tmps.size=n){ds:Nat→Option Tmp}{m:Nat}(hds:∀j,j<m→ds j=dstOf ops j)(hm:Φ.length≤m)(hst:StepsOX R P ops a0 w0 ds Φ)(H:AtX R P ops a0 w0 Φ L listed xs a w){i:Nat}(hi:i∈ Region.ready .any ops listed)(hl:i<Φ.length)
 {K:Act→World→Prop} (hK:∀xs' a' w',AtX R P ops a0 w0 Φ (L++ [i]) (listed.setIfInBounds i true) xs' a' w'→K a' w'):wpOp P ops Q i K a w:=by
 obtain⟨hlt,hL,hd,o,ho⟩:=H.ready hi;have hφ:Φ[i]?=some (Φ.getD i NoF):=by rw[List.getD_eq_getElem?_getD,List.getElem?_eq_getElem hl];rfl
 obtain⟨_,o',js,ho',hjs,hs⟩:=hst i _ hφ;rw[ho] at ho';cases ho';have stay:∀j,StaysX R (Φ.getD j NoF):=by
  intro j;rcases Nat.lt_or_ge j Φ.length with h|h
  · exact(hst j _ (by rw[List.getD_eq_getElem?_getD,List.getElem?_eq_getElem h];rfl)).1
  · rw[List.getD_eq_getElem?_getD,List.getElem?_eq_none h]
    exact fun _ _ _ _ h=>h
 obtain⟨e1,e2⟩:=H.same F hn ho hL hd hjs;have h1:=Given.use (xs:=xs) _ _ (fun j hj=>hds j (by have:=F.low i j ((JsOK.spec ho hjs).1 j hj);omega)) (hs w H.base) (fun j hj=>H.facts j (hd j ((JsOK.spec ho hjs).1 j hj)));have hdo:dstOf ops i=o.dst:=by unfold dstOf;rw[ho];rfl
 refine Qsw (b:=putL ops xs js a0) (N:=fun v w'=>R w w'∧Φ.getD i NoF v w') ho (fun d hdd=>?_) e1 e2 (h1 (fun v w'=>R w w'∧Φ.getD i NoF v w') (fun v w' hb hv=>⟨hb,hv⟩)) ?_
 · rw[Qkk,hn]
   exact F.fits i d (hdo.trans hdd)
 ·
  rintro v w' (⟨hb,hv⟩|⟨hnone,hb,hv⟩)
  · exact hK _ _ _ (H.next hR F hn hlt hL hd stay hb hv hdo (.inl rfl))
  · exact hK _ _ _ (H.next hR F hn hlt hL hd stay hb hv hdo (.inr hnone))
theorem AtX.none_ready{n:Nat}(F:RegFine ops n){a0:Act}{w0:World}{Φ:List Fact}{L:List Nat}{listed:Array Bool}{xs:Nat→Value}{a:Act}{w:World}(H:AtX R P ops a0 w0 Φ L listed xs a w)(h:Region.ready .any ops listed= []):∀j,j<ops.size→j∈ L:=by
 intro j
 induction j using Nat.strongRecOn with
 |_ j ih=>
  intro hj;by_cases hm:j∈ L
  · exact hm
  ·
   have:j∈ Region.ready .any ops listed:=mem_ready.2 ⟨by rw[Array.getD_eq_getD_getElem?,H.marks j hj];simp[hm],ops[j],Array.getElem?_eq_getElem hj,fun e he hb=>by
    have hd:=(Qec (Array.getElem?_eq_getElem hj)).2 ⟨e,he,hb,rfl⟩;have hlt:=F.low j _ hd;rw[Array.getD_eq_getD_getElem?,H.marks _ (by omega)]
    simpa using ih _ hlt (by omega)⟩
   rw[h] at this;cases this
theorem Qkm(hR:RelOK R){n:Nat}(F:RegFine ops n){a0:Act}{w0:World}{Φ:List Fact}(hn:a0.tmps.size=n){ds:Nat→Option Tmp}{m:Nat}(hds:∀j,j<m→ds j=dstOf ops j)(hm:Φ.length≤m)(hst:StepsOX R P ops a0 w0 ds Φ)
 (hend:∀L listed xs a w,AtX R P ops a0 w0 Φ L listed xs a w→(∀j,j<ops.size→j∈ L)→Q .normal a w)
 (hlast:∀i L listed xs a w fuel,AtX R P ops a0 w0 Φ L listed xs a w→i∈ Region.ready .any ops listed→Φ.length≤i→L.length+(fuel+1)=ops.size→wpOp P ops Q i (wpAny P .any ops Q fuel (listed.setIfInBounds i true)) a w):
 ∀(fuel:Nat) (L:List Nat) (listed:Array Bool) (xs:Nat→Value) (a:Act) (w:World),AtX R P ops a0 w0 Φ L listed xs a w→L.length+fuel=ops.size→wpAny P .any ops Q fuel listed a w:=by
 intro fuel
 induction fuel with
 |zero=>
  intro L listed xs a w H hf;have full:=Qf4 L ops.size H.nodup H.lt (by omega);refine⟨?_,hend _ _ _ _ _ H full⟩;cases hr:Region.ready .any ops listed with
  |nil=>rfl
  |cons i is=>
   obtain⟨h1,h2,_⟩:=H.ready (i:=i) (by rw[hr];exact List.mem_cons_self);exact absurd (full i h1) h2
 |succ fuel ih=>
  intro L listed xs a w H hf;refine⟨fun h=>hend _ _ _ _ _ H (H.none_ready F h),fun i hi=>?_⟩;rcases Nat.lt_or_ge i Φ.length with h|h
  · exact H.come hR F hn hds hm hst hi h (fun xs' a' w' H'=>ih _ _ xs' a' w' H' (by simp;omega))
  · exact hlast i L listed xs a w fuel H hi h hf
theorem AtX.begin(hR:RelOK R){a0:Act}{w0:World}{Φ:List Fact}{xs:Nat→Value}:AtX R P ops a0 w0 Φ [] (Array.replicate ops.size false) xs a0 w0:=
 ⟨by simp,by simp,by simp,fun j hj=>by simp[hj],by simp,rfl,by simp,hR.refl _⟩
end
def Rb:World→World→Prop:=fun w w'=>Below w.heap.size w w'
theorem Rb.ok:RelOK Rb:=⟨fun _=>Below.refl _ _,fun {u v w} (h:Below u.heap.size u v) (k:Below v.heap.size v w)=>(show Below u.heap.size u w from h.trans (k.mono h.size))⟩
def StepOK(P:Program)(ops:Array Oper)(a0:Act)(w0:World)(ds:Nat→Option Tmp)(Φ:List Fact)(o:Oper)(js:List Nat)(φ:Fact):Prop:=
 ∀w,Below w0.heap.size w0 w→Given ds Φ w (fun b=>∀K:Value→World→Prop,Shut (∀v w',Below w.heap.size w w'→φ v w'→K v w')→if Region.wanted o (yielded ops b.tmps)=true then Oper.wp P o b w (fun a' w'=>a'.defers=b.defers∧K (left o.dst a') w') Nope else K undef w) js a0
def StepsOK(P:Program)(ops:Array Oper)(a0:Act)(w0:World)(ds:Nat→Option Tmp)(Φ:List Fact):Prop:=
 ∀i φ,Φ[i]?=some φ→Stays φ∧∃o js,ops[i]?=some o∧JsOK ops i js=true∧StepOK P ops a0 w0 ds Φ o js φ
def RegG(P:Program)(ops:Array Oper)(Q:Exit→Act→World→Prop)(m n:Nat)(a0:Act)(w0:World)(ds:Nat→Option Tmp)(Φ:List Fact):Prop:=
 (∀j,j<m→ds j=dstOf ops j)→RegFine ops n→a0.tmps.size=n→StepsOK P ops a0 w0 ds Φ→wpAny P .any ops Q ops.size (Array.replicate ops.size false) a0 w0
section
variable {P:Program} {ops:Array Oper} {Q:Exit→Act→World→Prop}
theorem RegG.begin{id n:Nat}{a0:Act}{w:World}(m:Nat)(ds:Nat→Option Tmp)(hm:P.follows .mixedOrders=true)(hds:DstsOK ops m ds=true)(hok:RegOK ops n=true)(hn:a0.tmps.size=n)
 (h:RegG P ops Q m n a0 w.drew ds []):(Code.region id ops true).wp P Q a0 w:=
 RegX.begin (R:=Rb) m ds hm hds hok hn h
theorem RegG.step{m n:Nat}{a0:Act}{w0:World}{ds:Nat→Option Tmp}{Φ:List Fact}{i:Nat}{o:Oper}{φ:Fact}(js:List Nat)(hi:Φ.length=i)(ho:ops[i]?=some o)(hj:JsOK ops i js=true)
 (hs:Stays φ) (h:StepOK P ops a0 w0 ds Φ o js φ) (hr:RegG P ops Q m n a0 w0 ds (Φ++ [φ])):RegG P ops Q m n a0 w0 ds Φ:=
 RegX.step (R:=Rb) js hi ho hj hs h hr
theorem RegG.is{m n:Nat}{a0:Act}{w0:World}{ds:Nat→Option Tmp}{Φ:List Fact}{i:Nat}{o:Oper}{c:Value}(js:List Nat)(hi:Φ.length=i)(ho:ops[i]?=some o)(hj:JsOK ops i js=true)
 (h:∀w,Below w0.heap.size w0 w→Given ds Φ w (fun b=>∀K:Value→World→Prop,Shut (K c w)→if Region.wanted o (yielded ops b.tmps)=true then Oper.wp P o b w (fun a' w'=>a'.defers=b.defers∧K (left o.dst a') w') Nope else K undef w) js a0)
 (hr:RegG P ops Q m n a0 w0 ds (Φ++ [Is c])):RegG P ops Q m n a0 w0 ds Φ:=
 RegX.is Rb.ok js hi ho hj h hr
abbrev At(P:Program)(ops:Array Oper)(a0:Act)(w0:World)(Φ:List Fact)(L:List Nat)(listed:Array Bool)(xs:Nat→Value)(a:Act)(w:World):Prop:=AtX Rb P ops a0 w0 Φ L listed xs a w
theorem At.next{n:Nat}(F:RegFine ops n){a0:Act}{w0:World}{Φ:List Fact}{L:List Nat}{listed:Array Bool}{xs:Nat→Value}{a:Act}{w w':World}(hn:a0.tmps.size=n)(H:At P ops a0 w0 Φ L listed xs a w){i:Nat}(hi:i<ops.size)(hL:i ∉ L)(hd:∀j∈ depsOf ops i,j∈ L)
 (hst:∀j,Stays (Φ.getD j NoF)) (hb:Below w.heap.size w w') {v:Value} (hv:Φ.getD i NoF v w') {d:Option Tmp} (hdd:dstOf ops i=d) {u:Value} (hu:u=v∨d=none):
 At P ops a0 w0 Φ (L++ [i]) (listed.setIfInBounds i true) (fun j=>if j=i then v else xs j) (a.put d u) w':=
 AtX.next Rb.ok F hn H hi hL hd hst hb hv hdd hu
theorem Qkn{n:Nat}(F:RegFine ops n){a0:Act}{w0:World}{Φ:List Fact}(hn:a0.tmps.size=n){ds:Nat→Option Tmp}{m:Nat}(hds:∀j,j<m→ds j=dstOf ops j)(hm:Φ.length≤m)(hst:StepsOK P ops a0 w0 ds Φ)
 (hend:∀L listed xs a w,At P ops a0 w0 Φ L listed xs a w→(∀j,j<ops.size→j∈ L)→Q .normal a w)
 (hlast:∀i L listed xs a w fuel,At P ops a0 w0 Φ L listed xs a w→i∈ Region.ready .any ops listed→Φ.length≤i→L.length+(fuel+1)=ops.size→wpOp P ops Q i (wpAny P .any ops Q fuel (listed.setIfInBounds i true)) a w):
 ∀(fuel:Nat) (L:List Nat) (listed:Array Bool) (xs:Nat→Value) (a:Act) (w:World),At P ops a0 w0 Φ L listed xs a w→L.length+fuel=ops.size→wpAny P .any ops Q fuel listed a w:=
 Qkm Rb.ok F hn hds hm hst hend hlast
theorem At.begin{a0:Act}{w0:World}{Φ:List Fact}{xs:Nat→Value}:At P ops a0 w0 Φ [] (Array.replicate ops.size false) xs a0 w0:=
 AtX.begin Rb.ok
def FinG(ds:Nat→Option Tmp)(N:Act→Prop)(w:World):List Fact→Nat→Act→Prop
 | [],_,a=>N a
 |φ :: Φ,k,a=>∀v,φ v w→FinG ds N w Φ (k+1) (a.put (ds k) v)
theorem FinG.use{ds:Nat→Option Tmp}{N:Act→Prop}{w:World}{xs:Nat→Value}:∀(Φ:List Fact) (k:Nat) (a:Act),(∀j,j<Φ.length→ds (k+j)=dstOf ops (k+j))→FinG ds N w Φ k a→(∀j,j<Φ.length→Φ.getD j NoF (xs (k+j)) w)→N (putL ops xs ((List.range Φ.length).map (k+ ·)) a)
 | [],_,_,_,h,_=>h
 |φ :: Φ,k,a,hd,h,hx=>by
  have h0:=hd 0 (by simp);simp only[Nat.add_zero] at h0;have h1:=h (xs k) (by have:=hx 0 (by simp);simpa using this);have h2:=FinG.use Φ (k+1) _ (fun j hj=>by have:=hd (j+1) (by simp;omega);rw[show k+1+j=k+(j+1) by omega];exact this) h1 (fun j hj=>by
   have:=hx (j+1) (by simp;omega);rw[List.getD_cons_succ] at this;rw[show k+1+j=k+(j+1) by omega]
   exact this)
  rw[List.length_cons,List.range_succ_eq_map,List.map_cons,List.map_map];unfold putL;rw[Nat.add_zero,←h0];have e:(fun x=>k+x) ∘ Nat.succ=fun x=>k+1+x:=by funext x;simp only[Function.comp];omega
  rw[e];exact h2
theorem RegG.fin{n:Nat}{a0:Act}{w0:World}{ds:Nat→Option Tmp}{Φ:List Fact}(hl:Φ.length=ops.size)(h:∀w,Below w0.heap.size w0 w→FinG ds (fun a=>Q .normal a w) w Φ 0 a0):RegG P ops Q ops.size n a0 w0 ds Φ:=fun hds F hn hst=>by
 refine Qkn F hn hds (by omega) hst (fun L listed xs a w H full=>?_) (fun i L listed xs a w fuel H hi hle _=>?_) ops.size [] _ (fun _=>undef) a0 w0 At.begin (by simp)
 ·
  have h1:=FinG.use (ops:=ops) (xs:=xs) Φ 0 a0 (fun j hj=>by rw[Nat.zero_add];exact hds j (by omega)) (h w H.base) (fun j hj=>by rw[Nat.zero_add];exact H.facts j (full j (by omega)));have e:putL ops xs L a0=putL ops xs ((List.range Φ.length).map (0+ ·)) a0:=by
   refine Qf2 F hn (fun j=>?_);constructor
   · intro hj;exact List.mem_map.2 ⟨j,List.mem_range.2 (by rw[hl];exact H.lt j hj),by omega⟩
   ·
    intro hj;obtain⟨k,hk,rfl⟩:=List.mem_map.1 hj;exact full _ (by have:=List.mem_range.1 hk;omega)
  rw[H.act,e];exact h1
 · have:=(H.ready hi).1
   omega
def Waited(ops:Array Oper):Bool:=(List.range (ops.size - 1)).all fun j=>(List.range ops.size).any fun i=>(depsOf ops i).contains j
theorem At.last{n:Nat}(F:RegFine ops n){a0:Act}{w0:World}{Φ:List Fact}{L:List Nat}{listed:Array Bool}{xs:Nat→Value}{a:Act}{w:World}(H:At P ops a0 w0 Φ L listed xs a w)(hw:Waited ops=true){i:Nat}(hi:i∈ Region.ready .any ops listed)(hl:i+1=ops.size):∀j,j<i→j∈ L:=by
 obtain⟨_,_,hd,_⟩:=H.ready hi;have key:∀k j,k+j+1=i→j∈ L:=by
  intro k
  induction k using Nat.strongRecOn with
  |_ k ih=>
   intro j hj;unfold Waited at hw;simp only[List.all_eq_true,List.any_eq_true,List.mem_range,List.contains_eq_mem,decide_eq_true_eq] at hw;obtain⟨m,hm,hc⟩:=hw j (by omega);have hlt:=F.low m j hc;by_cases hmi:m=i
   · subst hmi;exact hd j hc
   · exact H.closed m (ih (i - m - 1) (by omega) m (by omega)) j hc
 intro j hj;exact key (i - j - 1) j (by omega)
theorem RegG.last{n:Nat}{a0:Act}{w0:World}{ds:Nat→Option Tmp}{Φ:List Fact}{o:Oper}{i:Nat}(hi:Φ.length=i)(hl:i+1=ops.size)(ho:ops[i]?=some o)(hw:Waited ops=true)
 (h:∀w,Below w0.heap.size w0 w→FinG ds (fun a=>∀K:Act→World→Prop,Shut (∀a' w',Q .normal a' w'→K a' w')→if Region.wanted o (yielded ops a.tmps)=true then Oper.wp P o a w K Q else K (a.put o.dst undef) w) w Φ 0 a0):RegG P ops Q i n a0 w0 ds Φ:=fun hds F hn hst=>by
 refine Qkn F hn hds (by omega) hst (fun L listed xs a w H full=>?_) (fun i' L listed xs a w fuel H hi' hle hf=>?_) ops.size [] _ (fun _=>undef) a0 w0 At.begin (by simp)
 ·
  have:=H.facts i (full i (by omega));rw[List.getD_eq_getElem?_getD,List.getElem?_eq_none (by omega)] at this;exact this.elim
 ·
  obtain⟨hlt,hnL,hdd,_⟩:=H.ready hi';obtain rfl:i'=i:=by omega
  have full:=H.last F hw hi' hl;have hlen:i'≤L.length:=by
   have:=(List.nodup_range (n:=i')).length_le_of_subset (l₂:=L) (fun j hj=>full j (List.mem_range.1 hj))
   simpa using this
  have h1:=FinG.use (ops:=ops) (xs:=xs) Φ 0 a0 (fun j hj=>by rw[Nat.zero_add];exact hds j (by omega)) (h w H.base) (fun j hj=>by rw[Nat.zero_add];exact H.facts j (full j (by omega)));have e:putL ops xs L a0=putL ops xs ((List.range Φ.length).map (0+ ·)) a0:=by
   refine Qf2 F hn (fun j=>?_);constructor
   · intro hj;exact List.mem_map.2 ⟨j,List.mem_range.2 (by have:=H.lt j hj;have:j≠i':=fun e=>hnL (e ▸ hj);omega),by omega⟩
   ·
    intro hj;obtain⟨k,hk,rfl⟩:=List.mem_map.1 hj;exact full _ (by have:=List.mem_range.1 hk;omega)
  rw[←e,←H.act] at h1;have hz:fuel=0:=by omega
  subst hz;have none_left:Region.ready .any ops (listed.setIfInBounds i' true)= []:=by
   cases hr:Region.ready .any ops (listed.setIfInBounds i' true) with
   |nil=>rfl
   |cons j js=>
    obtain⟨g1,o',g2,_⟩:=mem_ready.1 (show j∈ Region.ready .any ops (listed.setIfInBounds i' true) by rw[hr];exact List.mem_cons_self);have hj:j<ops.size:=(Array.getElem?_eq_some_iff.1 g2).1;by_cases he:j=i'
    ·
     subst he;rw[Array.getD_eq_getD_getElem?,Array.getElem?_setIfInBounds_self_of_lt (by rw[H.size];exact hj)] at g1;cases g1
    ·
     rw[Array.getD_eq_getD_getElem?,Array.getElem?_setIfInBounds_ne (fun h=>he h.symm),H.marks j hj] at g1;simp only[Option.getD_some,decide_eq_false_iff_not] at g1;exact absurd (full j (by omega)) g1
  exact wpOp_step ho (fun K' hK=>h1 K' (fun a' w' hq=>hK a' w' ⟨none_left,hq⟩))
end
section
variable {P:Program} {ops:Array Oper} {Q:Exit→Act→World→Prop}
theorem RegG.bg{id n:Nat}{a0:Act}{w:World}(m:Nat)(ds:Nat→Option Tmp)(h:RegG P ops Q m n a0 w.drew ds [])
 (hm:P.follows .mixedOrders=true:=by kernel_rfl) (hds:DstsOK ops m ds=true:=by kernel_rfl) (hok:RegOK ops n=true:=by kernel_rfl) (hn:a0.tmps.size=n:=by rfl):(Code.region id ops true).wp P Q a0 w:=RegG.begin m ds hm hds hok hn h
theorem RegG.pu{m n:Nat}{a0:Act}{w0:World}{ds:Nat→Option Tmp}{Φ:List Fact}{i:Nat}{o:Oper}{c:Value}{N:World→Prop}(js:List Nat)(h:∀w,Below w0.heap.size w0 w→N w)(hr:RegG P ops Q m n a0 w0 ds (Φ++ [Is c]))
 (hi:Φ.length=i:=by simp only[List.nil_append,List.cons_append,List.length_append,List.length_cons,List.length_nil,Nat.reduceAdd];exact rfl)
 (ho:ops[i]?=some o:=by simp only[List.getElem?_toArray,List.getElem?_cons_zero,List.getElem?_cons_succ];exact rfl)
 (hj:JsOK ops i js=true:=by kernel_rfl)
 (e:∀w,Given ds Φ w (fun b=>∀K:Value→World→Prop,Shut (K c w)→if Region.wanted o (yielded ops b.tmps)=true then Oper.wp P o b w (fun a' w'=>a'.defers=b.defers∧K (left o.dst a') w') Nope else K undef w) js a0=N w:=by intro w;simp only[Given,List.nil_append,List.cons_append,List.getD_cons_zero,List.getD_cons_succ,Qaf,Act.put,List.setIfInBounds_toArray,List.set_cons_zero,List.set_cons_succ,Nat.reduceAdd,Nat.reduceBEq,cond_true,cond_false];exact rfl):RegG P ops Q m n a0 w0 ds Φ:=
 RegG.is js hi ho hj (fun w hb=>by rw[e w];exact h w hb) hr
theorem RegG.p0{m n:Nat}{a0:Act}{w0:World}{ds:Nat→Option Tmp}{Φ:List Fact}{i:Nat}{o:Oper}{c:Value}{N:World→Prop}(js:List Nat)(hr:RegG P ops Q m n a0 w0 ds (Φ++ [Is c]))
 (hi:Φ.length=i:=by simp only[List.nil_append,List.cons_append,List.length_append,List.length_cons,List.length_nil,Nat.reduceAdd];exact rfl)
 (ho:ops[i]?=some o:=by simp only[List.getElem?_toArray,List.getElem?_cons_zero,List.getElem?_cons_succ];exact rfl)
 (hj:JsOK ops i js=true:=by kernel_rfl)
 (e:∀w,Given ds Φ w (fun b=>∀K:Value→World→Prop,Shut (K c w)→if Region.wanted o (yielded ops b.tmps)=true then Oper.wp P o b w (fun a' w'=>a'.defers=b.defers∧K (left o.dst a') w') Nope else K undef w) js a0=N w:=by intro w;simp only[Given,List.nil_append,List.cons_append,List.getD_cons_zero,List.getD_cons_succ,Qaf,Act.put,List.setIfInBounds_toArray,List.set_cons_zero,List.set_cons_succ,Nat.reduceAdd,Nat.reduceBEq,cond_true,cond_false];exact rfl)
 (h:∀w,Below w0.heap.size w0 w→N w:=by intro w hb K hK;go_simp;exact hK):RegG P ops Q m n a0 w0 ds Φ:=
 RegG.is js hi ho hj (fun w hb=>by rw[e w];exact h w hb) hr
theorem RegG.ca{m n:Nat}{a0:Act}{w0:World}{ds:Nat→Option Tmp}{Φ:List Fact}{i:Nat}{o:Oper}{φ:Fact}{N:World→Prop}(js:List Nat)(hs:Stays φ)(h:∀w,Below w0.heap.size w0 w→N w)(hr:RegG P ops Q m n a0 w0 ds (Φ++ [φ]))
 (hi:Φ.length=i:=by simp only[List.nil_append,List.cons_append,List.length_append,List.length_cons,List.length_nil,Nat.reduceAdd];exact rfl)
 (ho:ops[i]?=some o:=by simp only[List.getElem?_toArray,List.getElem?_cons_zero,List.getElem?_cons_succ];exact rfl)
 (hj:JsOK ops i js=true:=by kernel_rfl)
 (e:∀w,Given ds Φ w (fun b=>∀K:Value→World→Prop,Shut (∀v w',Below w.heap.size w w'→φ v w'→K v w')→if Region.wanted o (yielded ops b.tmps)=true then Oper.wp P o b w (fun a' w'=>a'.defers=b.defers∧K (left o.dst a') w') Nope else K undef w) js a0=N w:=by intro w;simp only[Given,List.nil_append,List.cons_append,List.getD_cons_zero,List.getD_cons_succ,Qaf,Act.put,List.setIfInBounds_toArray,List.set_cons_zero,List.set_cons_succ,Nat.reduceAdd,Nat.reduceBEq,cond_true,cond_false];exact rfl):RegG P ops Q m n a0 w0 ds Φ:=
 RegG.step js hi ho hj hs (fun w hb=>by rw[e w];exact h w hb) hr
theorem RegG.fi{n:Nat}{a0:Act}{w0:World}{ds:Nat→Option Tmp}{Φ:List Fact}{N:World→Prop}(h:∀w,Below w0.heap.size w0 w→N w)
 (hl:Φ.length=ops.size:=by simp only[List.nil_append,List.cons_append,List.length_append,List.length_cons,List.length_nil,List.size_toArray,Nat.reduceAdd])
 (e:∀w,FinG ds (fun a=>Q .normal a w) w Φ 0 a0=N w:=by intro w;simp only[FinG,List.nil_append,List.cons_append,Qaf,Act.put,List.setIfInBounds_toArray,List.set_cons_zero,List.set_cons_succ,Nat.reduceAdd,Nat.reduceBEq,cond_true,cond_false];exact rfl):RegG P ops Q ops.size n a0 w0 ds Φ:=
 RegG.fin hl (fun w hb=>by rw[e w];exact h w hb)
end
end Go.Proofs.YtfpcipgoedifaaaGreatDoor
