/- A drawn region: what its allocs leave lies apart. -/
import Derived.Test.YtldjeecnapgakaaGreatDoorV26RegI
import Derived.OrdersIn
import Derived.TacticsIn
import Derived.RangeFuncCalls
namespace Go.Proofs.YtldjeecnapgakaaGreatDoor
open Go Go.RowKit
set_option linter.unusedSimpArgs false
set_option linter.unusedVariables false
set_option maxHeartbeats 8000000
set_option maxRecDepth 1000000
section
variable {P:Program} {ops:Array Oper} {Q:Exit→Act→World→Prop}
def WaitedTo(ops:Array Oper)(i:Nat):Bool:=(List.range i).all fun j=>(List.range (i+1)).any fun k=>(depsOf ops k).contains j
theorem WaitedTo.down{L:List Nat}{i:Nat}(hw:WaitedTo ops i=true){n:Nat}(F:RegFine ops n)(hd:∀j∈ depsOf ops i,j∈ L)(hc:∀k∈ L,∀j∈ depsOf ops k,j∈ L):∀j,j<i→j∈ L:=by
 have key:∀k j,k+j+1=i→j∈ L:=by
  intro k
  induction k using Nat.strongRecOn with
  |_ k ih=>
   intro j hj;unfold WaitedTo at hw;simp only[List.all_eq_true,List.any_eq_true,List.mem_range,List.contains_eq_mem,decide_eq_true_eq] at hw;obtain⟨m,hm,hcm⟩:=hw j (by omega);have hlt:=F.low m j hcm;by_cases hmi:m=i
   · subst hmi;exact hd j hcm
   · exact hc m (ih (i - m - 1) (by omega) m (by omega)) j hcm
 intro j hj;exact key (i - j - 1) j (by omega)
theorem Qr7{n m:Nat}(F:RegFine ops n)(hch:∀i,m≤i→i<ops.size→WaitedTo ops i=true):∀(k i:Nat) (listed:Array Bool) (a:Act) (w:World),i+k=ops.size→m≤i→listed.size=ops.size→(∀j,j<ops.size→listed[j]?=some (decide (j<i)))→wpOps P ops Q (List.range' i k) a w→wpAny P .any ops Q k listed a w:=by
 intro k;have only:∀(i:Nat) (listed:Array Bool),m≤i→listed.size=ops.size→(∀j,j<ops.size→listed[j]?=some (decide (j<i)))→∀r∈ Region.ready .any ops listed,r=i:=by
  intro i listed hi hs hm r hr;obtain⟨h1,o,ho,h2⟩:=mem_ready.1 hr;have hlt:r<ops.size:=(Array.getElem?_eq_some_iff.1 ho).1;rw[Array.getD_eq_getD_getElem?,hm r hlt] at h1;have hri:i≤r:=by simpa using h1
  apply Classical.byContradiction;intro hne;have hd:∀j∈ depsOf ops r,j∈ List.range i:=fun j hj=>by
   obtain⟨e,he,hb,rfl⟩:=(Qdz ho).1 hj;have h3:=h2 e he hb;rcases Nat.lt_or_ge e.on ops.size with h4|h4
   · rw[Array.getD_eq_getD_getElem?,hm _ h4] at h3
     simpa using h3
   · rw[Array.getD_eq_getD_getElem?,Array.getElem?_eq_none (by rw[hs];exact h4)] at h3
     cases h3
  have:=(WaitedTo.down (hch r (by omega) hlt) F hd (fun k hk j hj=>by
   have:=F.low k j hj;have:=List.mem_range.1 hk
   exact List.mem_range.2 (by omega))) i (by omega)
  have:=List.mem_range.1 this;omega
 induction k with
 |zero=>
  intro i listed a w hi hm hs hl h;refine⟨?_,h⟩;cases hr:Region.ready .any ops listed with
  |nil=>rfl
  |cons r rs=>
   have h0:=only i listed hm hs hl r (by rw[hr];exact List.mem_cons_self);obtain⟨h1,o,ho,_⟩:=mem_ready.1 (show r∈ Region.ready .any ops listed by rw[hr];exact List.mem_cons_self);have:=(Array.getElem?_eq_some_iff.1 ho).1;omega
 |succ k ih=>
  intro i listed a w hi hm hs hl h;have hlt:i<ops.size:=by omega
  rw[List.range'_succ,wpOps_cons] at h;refine⟨fun h0=>?_,fun r hr=>?_⟩
  ·
   have:i∈ Region.ready .any ops listed:=mem_ready.2 ⟨by rw[Array.getD_eq_getD_getElem?,hl i hlt];simp,ops[i],Array.getElem?_eq_getElem hlt,fun e he hb=>by
    have hd:=(Qdz (Array.getElem?_eq_getElem hlt)).2 ⟨e,he,hb,rfl⟩;have h1:=F.low i _ hd;rw[Array.getD_eq_getD_getElem?,hl _ (by omega)]
    simpa using h1⟩
   rw[h0] at this;cases this
  ·
   obtain rfl:=only i listed hm hs hl r hr;refine wpOp_mono (fun a' w' h'=>ih (r+1) _ a' w' (by omega) (by omega) (by simp[hs]) (fun j hj=>?_) h') h;by_cases he:j=r
   ·
    subst he;rw[Array.getElem?_setIfInBounds_self_of_lt (by rw[hs];exact hj)];simp
   ·
    rw[Array.getElem?_setIfInBounds_ne (fun h=>he h.symm),hl j hj]
    congr 1
    rw[decide_eq_decide];omega
def ChainTo(ops:Array Oper)(m:Nat):Bool:=(List.range ops.size).all fun i=>decide (i<m) || WaitedTo ops i
end
section
variable {P:Program} {ops:Array Oper} {Q:Exit→Act→World→Prop} {l n:Nat}
def OnlyN(Q:Exit→Act→World→Prop):Exit→Act→World→Prop
 | .normal,a,w=>Q .normal a w
 |_,_,_=>False
def NoDefer(ops:Array Oper):Bool:=ops.all fun o=>match o.op with| .defer _=>false|_=>true
theorem NoDefer.spec(h:NoDefer ops=true){i:Nat}{o:Oper}(ho:ops[i]?=some o)(c:Call):o.op≠.defer c:=by
 intro heq;have:=Array.all_eq_true_iff_forall_mem.1 h o (Array.mem_of_getElem? ho);simp[heq] at this
theorem Qr6(hnd:NoDefer ops=true){i:Nat}{K:Act→World→Prop}{a:Act}{w:World}(h:wpOp P ops (OnlyN Q) i K a w):wpOpIn (Fence.wide.inRound l) n P ops (OnlyN Q) i K a w:=by
 unfold wpOp at h;unfold wpOpIn;cases ho:ops[i]? with
 |none=>rw[ho] at h;exact h
 |some o=>
  simp only[ho] at h ⊢;by_cases hw:Region.wanted o (yielded ops a.tmps)=true
  ·
   rw[if_pos hw] at h ⊢;rcases h with h|⟨_,_,_,h⟩
   ·
    refine⟨fun _ _=>trivial,?_⟩;rw[Oper.semAt_eq _ _ _ (fun c=>NoDefer.spec hnd ho c)];unfold Oper.wp at h;generalize (execOp a.eval o).run P w=r at*;cases r with
    |ok m w'=>
     cases m<;>simp only[Oper.upon,Oper.uponIn] at h ⊢
     case value u=>exact h
     case skip=>exact h
     case defer d=>exact h
     case enter f args=>exact⟨fun hc=>(by cases hc),CallsIn.inRound l (callsIn_wide.2 h)⟩
     case row row args=>exact⟨fun hc=>(by cases hc),fun c cs _=>by obtain⟨v,w',hR,hs⟩:=h c cs;exact⟨v,w',hR,stepsIn_wide.2 hs⟩⟩
    |halt x w'=>
     cases x<;>simp only[Oper.upon,Oper.uponIn] at h ⊢
     case panic u=>exact h
   · exact h.elim
  · rw[if_neg hw] at h ⊢
    exact⟨fun _ _=>trivial,h⟩
theorem Qjt(hnd:NoDefer ops=true):∀(fuel:Nat) (listed:Array Bool) (a:Act) (w:World),wpAny P .any ops (OnlyN Q) fuel listed a w→wpAnyIn (Fence.wide.inRound l) n P .any ops (OnlyN Q) fuel listed a w
 |0,_,_,_,h=>h
 |fuel+1,_,_,_,h=>⟨h.1,fun i hi=>Qr6 hnd (wpOp_mono (fun a' w' h'=>Qjt hnd fuel _ a' w' h') (h.2 i hi))⟩
theorem RegG.beginIn{id k:Nat}{a0:Act}{w:World}(m:Nat)(ds:Nat→Option Tmp)(hm:P.follows .mixedOrders=true)(hds:DstsOK ops m ds=true)(hok:RegOK ops k=true)(hnd:NoDefer ops=true)(hn:a0.tmps.size=k)
 (h:RegG P ops (OnlyN Q) m k a0 w.drew ds []):(Code.region id ops true).wpIn (Fence.wide.inRound l) n P Q a0 w:=by
 refine Code.wpIn_mono (Q:=OnlyN Q) (fun e a w hq=>?_) (wpIn_region_any hm (Qjt hnd _ _ _ _ (h (fun j hj=>?_) (RegFine.of hok) hn (fun i φ hi=>by cases hi))))
 · cases e<;>first|exact hq|exact(hq:False).elim
 ·
  unfold DstsOK at hds;simp only[List.all_eq_true,List.mem_range,beq_iff_eq] at hds;exact(hds j hj).symm
end
section
variable {P:Program} {ops:Array Oper} {Q:Exit→Act→World→Prop}
def isNew(ops:Array Oper)(j:Nat):Bool:=match ops[j]? with
 |some o=>(match o.op with| .alloc _=>true|_=>false) && o.guard.isNone && o.dst.isSome
 |none=>false
theorem isNew.spec{j:Nat}{o:Oper}(h:isNew ops j=true)(ho:ops[j]?=some o):(∃t,o.op=.alloc t)∧o.guard=none∧∃d,o.dst=some d:=by
 unfold isNew at h;rw[ho] at h;simp only[Bool.and_eq_true,Option.isNone_iff_eq_none,Option.isSome_iff_exists] at h;obtain⟨⟨h1,h2⟩,h3⟩:=h;refine⟨?_,h2,h3⟩;cases hop:o.op<;>rw[hop] at h1<;>first|exact⟨_,rfl⟩|cases h1
theorem Qr8{ρ:Operand→Value}{o:Oper}{t:TypeId}{w:World}(ho:o.op=.alloc t):(∃w',(execOp ρ o).run P w=.ok (.value (.pointer (some ⟨w.heap.size,0,none⟩))) w'∧w.heap.size<w'.heap.size)∨∃h,(execOp ρ o).run P w=.halt h w:=by
 unfold execOp;simp only[ho];simp only[Instr.alloc,zeroValue,typeInfo,Sem.run_bind,Sem.run_pure,newVar,newRow,newObj,Sem.run,program];simp only[Result.andThen_ok];cases P.info? t with
 |none=>exact .inr ⟨_,rfl⟩
 |some i=>
  cases hz:i.zero with
  |none=>exact .inr ⟨_,by simp only[Result.andThen_ok,Sem.run_pure,hz];rfl⟩
  |some z=>exact .inl ⟨{ w with heap:=w.heap.push (Obj.cells z.cells t) },by simp only[Result.andThen_ok,Sem.run_pure,hz],by simp⟩
theorem Qr9{o:Oper}{b:Act}{w:World}{N:Value→World→Prop}{t:TypeId}{d:Tmp}(ho:o.op=.alloc t)(hd:o.dst=some d)(hlt:d<b.tmps.size)
 (h:Oper.wp P o b w (fun a' w'=>a'.defers=b.defers∧N (left o.dst a') w') Nope):Oper.wp P o b w (fun a' w'=>a'.defers=b.defers∧N (left o.dst a') w'∧left o.dst a'=.pointer (some ⟨w.heap.size,0,none⟩)∧w.heap.size<w'.heap.size) Nope:=by
 unfold Oper.wp at h ⊢;rcases Qr8 (P:=P) (ρ:=b.eval) (w:=w) ho with ⟨w',e,hs⟩|⟨x,e⟩
 ·
  rw[e] at h ⊢;refine⟨h.1,h.2,?_,hs⟩;have:=Qfm b (.pointer (some ⟨w.heap.size,0,none⟩)) hlt;rw[hd];simp only[left,Array.getD_eq_getD_getElem?,this,Option.getD_some]
 · rw[e] at h ⊢
   cases x<;>exact absurd h (by simp[Oper.upon,Nope])
def Ap(ops:Array Oper)(L:List Nat)(xs:Nat→Value)(w:World):Prop:=
 (∀j∈ L,isNew ops j=true→∃b,xs j=.pointer (some ⟨b,0,none⟩)∧b<w.heap.size)∧∀j∈ L,∀k∈ L,isNew ops j=true→isNew ops k=true→j≠k→xs j≠xs k
theorem Ap.next{L:List Nat}{xs:Nat→Value}{w w':World}(H:Ap ops L xs w){i:Nat}(hL:i ∉ L)(hs:w.heap.size≤w'.heap.size){v:Value}(hv:isNew ops i=true→v=.pointer (some ⟨w.heap.size,0,none⟩)∧w.heap.size<w'.heap.size):Ap ops (L++ [i]) (fun j=>if j=i then v else xs j) w':=by
 have ne:∀j∈ L,j≠i:=fun j hj e=>hL (e ▸ hj)
 have far:∀j∈ L,isNew ops j=true→isNew ops i=true→xs j≠v:=fun j hj h1 h2 e=>by
  obtain⟨b,hb,hlt⟩:=H.1 j hj h1;rw[hb,(hv h2).1] at e;simp only[Value.pointer.injEq,Option.some.injEq,Addr.mk.injEq] at e;omega
 refine⟨fun j hj hn=>?_,fun j hj k hk hj' hk' hjk=>?_⟩
 ·
  rcases List.mem_append.1 hj with h|h
  · obtain⟨b,hb,hlt⟩:=H.1 j h hn
    exact⟨b,by simp only[if_neg (ne j h)];exact hb,by omega⟩
  · simp at h;subst h
    exact⟨_,by simp only[if_pos];exact(hv hn).1,(hv hn).2⟩
 ·
  rcases List.mem_append.1 hj with h|h<;>rcases List.mem_append.1 hk with h'|h'
  · simp only[if_neg (ne j h),if_neg (ne k h')]
    exact H.2 j h k h' hj' hk' hjk
  ·
   simp at h';subst h';simp only[if_neg (ne j h),if_pos];exact far j h hj' hk'
  ·
   simp at h;subst h;simp only[if_neg (ne k h'),if_pos];exact fun e=>far k h' hk' hj' e.symm
  · simp at h h';omega
theorem At.comeA{n:Nat}(F:RegFine ops n){a0:Act}{w0:World}{Φ:List Fact}{L:List Nat}{listed:Array Bool}{xs:Nat→Value}{a:Act}{w:World}(hn:a0.tmps.size=n){ds:Nat→Option Tmp}{m:Nat}(hds:∀j,j<m→ds j=dstOf ops j)(hm:Φ.length≤m)(hst:StepsOK P ops a0 w0 ds Φ)(H:At P ops a0 w0 Φ L listed xs a w)(HA:Ap ops L xs w){i:Nat}(hi:i∈ Region.ready .any ops listed)(hl:i<Φ.length)
 {K:Act→World→Prop} (hK:∀xs' a' w',At P ops a0 w0 Φ (L++ [i]) (listed.setIfInBounds i true) xs' a' w'→Ap ops (L++ [i]) xs' w'→K a' w'):wpOp P ops Q i K a w:=by
 obtain⟨hlt,hL,hd,o,ho⟩:=H.ready hi;have hφ:Φ[i]?=some (Φ.getD i NoF):=by rw[List.getD_eq_getElem?_getD,List.getElem?_eq_getElem hl];rfl
 obtain⟨_,o',js,ho',hjs,hs⟩:=hst i _ hφ;rw[ho] at ho';cases ho';have stay:∀j,Stays (Φ.getD j NoF):=by
  intro j;rcases Nat.lt_or_ge j Φ.length with h|h
  · exact(hst j _ (by rw[List.getD_eq_getElem?_getD,List.getElem?_eq_getElem h];rfl)).1
  · rw[List.getD_eq_getElem?_getD,List.getElem?_eq_none h]
    exact fun _ _ _ _ h=>h
 obtain⟨e1,e2⟩:=H.same F hn ho hL hd hjs;have h1:=Given.use (xs:=xs) _ _ (fun j hj=>hds j (by have:=F.low i j ((JsOK.spec ho hjs).1 j hj);omega)) (hs w H.base) (fun j hj=>H.facts j (hd j ((JsOK.spec ho hjs).1 j hj)));have hdo:dstOf ops i=o.dst:=by unfold dstOf;rw[ho];rfl
 have hsz:∀d,o.dst=some d→d<(putL ops xs js a0).tmps.size:=fun d hdd=>by
  rw[Qfl,hn];exact F.fits i d (hdo.trans hdd)
 have h2:=h1 (fun v w'=>Below w.heap.size w w'∧Φ.getD i NoF v w') (fun v w' hb hv=>⟨hb,hv⟩);refine Qjp (b:=putL ops xs js a0) (N:=fun v w'=>(Below w.heap.size w w'∧Φ.getD i NoF v w')∧(isNew ops i=true→v=.pointer (some ⟨w.heap.size,0,none⟩)∧w.heap.size<w'.heap.size)) ho hsz e1 e2 ?_ ?_
 ·
  by_cases hnew:isNew ops i=true
  ·
   obtain⟨⟨t,ht⟩,hg,d,hd'⟩:=isNew.spec hnew ho;have hw:Region.wanted o (yielded ops (putL ops xs js a0).tmps)=true:=by unfold Region.wanted;rw[hg]
   rw[if_pos hw] at h2 ⊢;have h3:=Qr9 (N:=fun v w'=>Below w.heap.size w w'∧Φ.getD i NoF v w') ht hd' (hsz d hd') h2;refine Oper.wp_mono (fun a' w' h=>⟨h.1,h.2.1,fun _=>h.2.2⟩) h3
  ·
   split
   ·
    rename_i hw;rw[if_pos hw] at h2;exact Oper.wp_mono (fun a' w' h=>⟨h.1,h.2,fun h'=>absurd h' hnew⟩) h2
   ·
    rename_i hw;rw[if_neg hw] at h2;exact⟨h2,fun h'=>absurd h' hnew⟩
 ·
  rintro v w' (⟨⟨hb,hv⟩,hnw⟩|⟨hnone,⟨hb,hv⟩,hnw⟩)
  · exact hK _ _ _ (H.next F hn hlt hL hd stay hb hv hdo (.inl rfl)) (HA.next hL hb.size hnw)
  · exact hK _ _ _ (H.next F hn hlt hL hd stay hb hv hdo (.inr hnone)) (HA.next hL hb.size hnw)
theorem Qsa{n:Nat}(F:RegFine ops n){a0:Act}{w0:World}{Φ:List Fact}(hn:a0.tmps.size=n){ds:Nat→Option Tmp}{m:Nat}(hds:∀j,j<m→ds j=dstOf ops j)(hm:Φ.length≤m)(hst:StepsOK P ops a0 w0 ds Φ)
 (hend:∀L listed xs a w,At P ops a0 w0 Φ L listed xs a w→Ap ops L xs w→(∀j,j<ops.size→j∈ L)→Q .normal a w)
 (hlast:∀i L listed xs a w fuel,At P ops a0 w0 Φ L listed xs a w→Ap ops L xs w→i∈ Region.ready .any ops listed→Φ.length≤i→L.length+(fuel+1)=ops.size→wpOp P ops Q i (wpAny P .any ops Q fuel (listed.setIfInBounds i true)) a w):
 ∀(fuel:Nat) (L:List Nat) (listed:Array Bool) (xs:Nat→Value) (a:Act) (w:World),At P ops a0 w0 Φ L listed xs a w→Ap ops L xs w→L.length+fuel=ops.size→wpAny P .any ops Q fuel listed a w:=by
 intro fuel
 induction fuel with
 |zero=>
  intro L listed xs a w H HA hf;have full:=Qjr L ops.size H.nodup H.lt (by omega);refine⟨?_,hend _ _ _ _ _ H HA full⟩;cases hr:Region.ready .any ops listed with
  |nil=>rfl
  |cons i is=>
   obtain⟨h1,h2,_⟩:=H.ready (i:=i) (by rw[hr];exact List.mem_cons_self);exact absurd (full i h1) h2
 |succ fuel ih=>
  intro L listed xs a w H HA hf;refine⟨fun h=>hend _ _ _ _ _ H HA (H.none_ready F h),fun i hi=>?_⟩;rcases Nat.lt_or_ge i Φ.length with h|h
  · exact H.comeA F hn hds hm hst HA hi h (fun xs' a' w' H' HA'=>ih _ _ xs' a' w' H' HA' (by simp;omega))
  · exact hlast i L listed xs a w fuel H HA hi h hf
theorem FinG.mono{ds:Nat→Option Tmp}{N M:Act→Prop}{w:World}(h:∀a,N a→M a):∀(Φ:List Fact) (k:Nat) (a:Act),FinG ds N w Φ k a→FinG ds M w Φ k a
 | [],_,a,hn=>h a hn
 |_ :: Φ,k,a,hn=>fun v hv=>FinG.mono h Φ (k+1) _ (hn v hv)
def Apart(ops:Array Oper)(m:Nat)(a:Act):Prop:=∀j k s t,j<m→k<m→isNew ops j=true→isNew ops k=true→j≠k→dstOf ops j=some s→dstOf ops k=some t→a.tmps.getD s undef≠a.tmps.getD t undef
theorem RegG.tailA{n:Nat}{a0:Act}{w0:World}{ds:Nat→Option Tmp}{Φ:List Fact}{m k:Nat}(hm:Φ.length=m)(hk:m+k=ops.size)(hk0:0<k)(hw:ChainTo ops m=true)
 (h:∀w,Below w0.heap.size w0 w→FinG ds (fun a=>Apart ops m a→wpOps P ops Q (List.range' m k) a w) w Φ 0 a0):RegG P ops Q m n a0 w0 ds Φ:=fun hds F hn hst=>by
 have hch:∀i,m≤i→i<ops.size→WaitedTo ops i=true:=fun i hi hlt=>by
  unfold ChainTo at hw;simp only[List.all_eq_true,List.mem_range,Bool.or_eq_true,decide_eq_true_eq] at hw;rcases hw i hlt with h1|h1
  · omega
  · exact h1
 refine Qsa F hn hds (by omega) hst (fun L listed xs a w H HA full=>?_) (fun i L listed xs a w fuel H HA hi hle hf=>?_) ops.size [] _ (fun _=>undef) a0 w0 At.begin ⟨by simp,by simp⟩ (by simp)
 ·
  have:=H.facts m (full m (by omega));rw[List.getD_eq_getElem?_getD,List.getElem?_eq_none (by omega)] at this;exact this.elim
 ·
  obtain⟨hlt,hnL,hdd,_⟩:=H.ready hi;have low:∀j∈ L,j<m:=fun j hj=>by
   rcases Nat.lt_or_ge j m with h1|h1
   · exact h1
   ·
    have:=H.facts j hj;rw[List.getD_eq_getElem?_getD,List.getElem?_eq_none (by omega)] at this;exact this.elim
  have full:∀j,j<i→j∈ L:=WaitedTo.down (hch i (by omega) hlt) F hdd H.closed;have him:i=m:=by
   apply Classical.byContradiction;intro hne;have:=low m (full m (by omega));omega
  subst him;have mem:∀j,j∈ L↔j<i:=fun j=>⟨low j,full j⟩
  have h1:=FinG.use (ops:=ops) (xs:=xs) Φ 0 a0 (fun j hj=>by rw[Nat.zero_add];exact hds j (by omega)) (h w H.base) (fun j hj=>by rw[Nat.zero_add];exact H.facts j (full j (by omega)));have e:putL ops xs L a0=putL ops xs ((List.range Φ.length).map (0+ ·)) a0:=by
   refine Qfn F hn (fun j=>?_);constructor
   · intro hj;exact List.mem_map.2 ⟨j,List.mem_range.2 (by have:=low j hj;omega),by omega⟩
   ·
    intro hj;obtain⟨r,hr,rfl⟩:=List.mem_map.1 hj;exact full _ (by have:=List.mem_range.1 hr;omega)
  rw[←e,←H.act] at h1;have hap:Apart ops i a:=fun j k s t hj hk hnj hnk hjk hs ht=>by
   rw[H.act,Array.getD_eq_getD_getElem?,Array.getD_eq_getD_getElem?,Qbx F hs L a0 hn (full j hj),Qbx F ht L a0 hn (full k hk)];exact HA.2 j (full j hj) k (full k hk) hnj hnk hjk
  have hlen:L.length=i:=by
   have h2:=Qjq L i H.nodup low;have h3:=(List.nodup_range (n:=i)).length_le_of_subset (l₂:=L) (fun j hj=>full j (List.mem_range.1 hj));simp at h3;omega
  have hkf:k=fuel+1:=by omega
  subst hkf;exact(Qr7 F hch (fuel+1) i listed a w (by omega) (Nat.le_refl _) H.size (fun j hj=>by rw[H.marks j hj];congr 1;rw[decide_eq_decide];exact mem j) (h1 hap)).2 i hi
def OneOp(P:Program)(ops:Array Oper)(Q:Exit→Act→World→Prop)(o:Oper)(N:Act→World→Prop)(a:Act)(w:World):Prop:=
 ∀K:Act→World→Prop,Shut (∀a' w',N a' w'→K a' w')→if Region.wanted o (yielded ops a.tmps)=true then Oper.wp P o a w K Q else K (a.put o.dst undef) w
theorem RegG.two{n:Nat}{a0:Act}{w0:World}{ds:Nat→Option Tmp}{Φ:List Fact}{m:Nat}{o1 o2:Oper}(hm:Φ.length=m)(hk:m+2=ops.size)(ho1:ops[m]?=some o1)(ho2:ops[m+1]?=some o2)(hw:ChainTo ops m=true)
 (h:∀w,Below w0.heap.size w0 w→FinG ds (fun a=>Apart ops m a→OneOp P ops Q o1 (OneOp P ops Q o2 (Q .normal)) a w) w Φ 0 a0):RegG P ops Q m n a0 w0 ds Φ:=by
 refine RegG.tailA (k:=2) hm hk (by decide) hw (fun w hb=>?_);refine FinG.mono (fun a ha hap=>?_) Φ 0 a0 (h w hb)
 show wpOps P ops Q [m,m+1] a w
 rw[wpOps_cons];refine wpOp_step ho1 (fun K hK=>ha hap K (fun a' w' h'=>hK a' w' ?_));rw[wpOps_cons];exact wpOp_step ho2 (fun K' hK'=>h' K' (fun a'' w'' h''=>hK' a'' w'' h''))
end
end Go.Proofs.YtldjeecnapgakaaGreatDoor
