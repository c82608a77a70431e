/- A region that draws its order: a condition on the world that holds behind every operation but some, the last ones. -/
import Derived.Test.YtjhdfkcdigmfhaaGreatDoorC18ReadS
namespace Go.Proofs.YtjhdfkcdigmfhaaGreatDoor
open Go
set_option linter.unusedVariables false
section
variable {P:Program} {ops:Array Oper} {Q:Exit→Act→World→Prop} {md:Region.Mode} {S:World→Prop} {D:List Nat}
def NoneOf(D:List Nat)(listed:Array Bool):Prop:=∀d∈ D,listed.getD d true=false
theorem NoneOf.set{listed:Array Bool}{j:Nat}(h:NoneOf D listed)(hj:j ∉ D):NoneOf D (listed.setIfInBounds j true):=fun d hd=>by
 have hne:j≠d:=fun e=>hj (e ▸ hd)
 rw[_root_.Go.getD_set_ne true hne]
 exact h d hd
theorem NoneOf.back{listed:Array Bool}{j:Nat}(h:NoneOf D (listed.setIfInBounds j true)):j ∉ D∧NoneOf D listed:=by
 have hj:j ∉ D:=fun hd=>by
  have:=h j hd
  simp at this
 refine⟨hj,fun d hd=>?_⟩
 have hne:j≠d:=fun e=>hj (e ▸ hd)
 have:=h d hd
 rw[_root_.Go.getD_set_ne true hne] at this
 exact this
def AnyDs(P:Program)(md:Region.Mode)(ops:Array Oper)(Q:Exit→Act→World→Prop)(S:World→Prop)(D:List Nat):Nat→Array Bool→Act→World→Prop
 |0,listed,a,w=>Region.ready md ops listed= []∧Q .normal a w
 |fuel+1,listed,a,w=>(Region.ready md ops listed= []→Q .normal a w)∧∀i∈ Region.ready md ops listed,wpOp P ops Q i (fun a' w'=>(i ∉ D→NoneOf D listed→S w')∧AnyDs P md ops Q S D fuel (listed.setIfInBounds i true) a' w') a w
theorem AnyDs.any:∀(fuel:Nat) (listed:Array Bool) (a:Act) (w:World),AnyDs P md ops Q S D fuel listed a w→wpAny P md ops Q fuel listed a w
 |0,_,_,_,h=>h
 |fuel+1,_,_,_,h=>⟨h.1,fun i hi=>wpOp_mono (fun a' w' h'=>AnyDs.any fuel _ a' w' h'.2) (h.2 i hi)⟩
theorem Qd1{i j:Nat}{listed:Array Bool}{oj:Oper}(hr:i∈ Region.ready md ops listed)(hall:∀e∈ oj.after,Region.binds md e=true→listed.getD e.on false=true):∀e∈ oj.after,Region.binds md e=true→e.on≠i:=fun e he hb heq=>by
 have h1:=hall e he hb
 have h0:=(mem_ready.1 hr).1
 rw[heq] at h1
 rcases Nat.lt_or_ge i listed.size with h'|h'
 · simp[h'] at h0 h1;rw[h0] at h1;cases h1
 · simp[Array.getElem?_eq_none h'] at h1
theorem AnyDs.first{i:Nat}{oi:Oper}{v:Value}(hi:ops[i]?=some oi)(hsel:∀(j:Nat) (o:Oper) cs b,ops[j]?=some o→o.op≠.select cs b)
 (hQ:∀c a w,Q (.panic c) (a.put oi.dst v) w→Q (.panic c) a w) (hk:D.all (fun k=>waits md ops k i)=true):
 ∀(fuel:Nat) (listed:Array Bool) (a:Act) (w:World),
  (∀j oj,ops[j]?=some oj→j≠i→listed.getD j true=false→(∀e∈ oj.after,Region.binds md e=true→e.on≠i)→oi.apart ops oj=true)→
  i∈ Region.ready md ops listed→YieldsIf P ops S oi v a→NoneOf D listed→S w→
  AnyDs P md ops Q S D fuel (listed.setIfInBounds i true) (a.put oi.dst v) w→AnyDs P md ops Q S D (fuel+1) listed a w:=by
 intro fuel
 induction fuel with
 |zero=>
  intro listed a w _ hr hy hN hS H
  refine⟨fun h=>(by rw[h] at hr;cases hr),fun j hj=>?_⟩
  by_cases hji:j=i
  · subst hji;exact hy.wpOp hi hS ⟨fun _ _=>hS,H⟩
  ·
   have:=ready_mono hj hji
   rw[H.1] at this
   cases this
 |succ fuel ih=>
  intro listed a w hfree hr hy hN hS H
  refine⟨fun h=>(by rw[h] at hr;cases hr),fun j hj=>?_⟩
  by_cases hji:j=i
  · subst hji;exact hy.wpOp hi hS ⟨fun _ _=>hS,H⟩
  ·
   have h1:=H.2 j (ready_mono hj hji)
   obtain⟨hjun,oj,hoj,hall⟩:=mem_ready.1 hj
   have hnot:=Qd1 (j:=j) hr hall
   have hjk:j ∉ D:=fun e=>Qgz (k:=j) (List.all_eq_true.1 hk j e) hoj hnot
   have hiD:NoneOf D (listed.setIfInBounds i true):=hN.set (fun e=>by
    obtain⟨_,oi',hoi',hall'⟩:=mem_ready.1 hr
    exact Qgz (k:=i) (List.all_eq_true.1 hk i e) hoi' (Qd1 (j:=i) hr hall'))
   have h2:=wpOp_putIf hoj (hfree j oj hoj hji hjun hnot) (fun cs b=>hsel i oi cs b hi) (fun cs b=>hsel j oj cs b hoj) hQ hy h1
   have hfree':∀m om,ops[m]?=some om→m≠i→(listed.setIfInBounds j true).getD m true=false→
    (∀e∈ om.after,Region.binds md e=true→e.on≠i)→oi.apart ops om=true:=fun m om hm hmi hun hno=>by
    refine hfree m om hm hmi ?_ hno
    by_cases hjm:j=m
    · subst hjm;exact hjun
    · rw[_root_.Go.getD_set_ne true hjm] at hun;exact hun
   refine wpOp_mono (fun a' w' h3=>⟨fun hj' _=>h3.2.1 hj' hiD,ih (listed.setIfInBounds j true) a' w' hfree' (ready_mono hr (Ne.symm hji)) h3.1 (hN.set hjk) (h3.2.1 hjk hiD) ?_⟩) h2
   rw[Array.setIfInBounds_comm _ _ hji]
   exact h3.2.2
theorem AnyDs.firstP{i:Nat}{oi:Oper}{v:Value}(hi:ops[i]?=some oi)(hsel:∀(j:Nat) (o:Oper) cs b,ops[j]?=some o→o.op≠.select cs b)
 (hQ:∀c a w,Q (.panic c) (a.put oi.dst v) w→Q (.panic c) a w) (hiD:i ∉ D):
 ∀(fuel:Nat) (listed:Array Bool) (a:Act) (w:World),
  (∀j oj,ops[j]?=some oj→j≠i→listed.getD j true=false→(∀e∈ oj.after,Region.binds md e=true→e.on≠i)→oi.apart ops oj=true)→
  i∈ Region.ready md ops listed→YieldsIf P ops (fun _=>True) oi v a→(NoneOf D listed→S w)→
  AnyDs P md ops Q S D fuel (listed.setIfInBounds i true) (a.put oi.dst v) w→AnyDs P md ops Q S D (fuel+1) listed a w:=by
 intro fuel
 induction fuel with
 |zero=>
  intro listed a w _ hr hy hS H
  refine⟨fun h=>(by rw[h] at hr;cases hr),fun j hj=>?_⟩
  by_cases hji:j=i
  · subst hji;exact hy.wpOp hi trivial ⟨fun _=>hS,H⟩
  ·
   have:=ready_mono hj hji
   rw[H.1] at this
   cases this
 |succ fuel ih=>
  intro listed a w hfree hr hy hS H
  refine⟨fun h=>(by rw[h] at hr;cases hr),fun j hj=>?_⟩
  by_cases hji:j=i
  · subst hji;exact hy.wpOp hi trivial ⟨fun _=>hS,H⟩
  ·
   have h1:=H.2 j (ready_mono hj hji)
   obtain⟨hjun,oj,hoj,hall⟩:=mem_ready.1 hj
   have hnot:=Qd1 (j:=j) hr hall
   have h2:=wpOp_putIf hoj (hfree j oj hoj hji hjun hnot) (fun cs b=>hsel i oi cs b hi) (fun cs b=>hsel j oj cs b hoj) hQ hy h1
   have hfree':∀m om,ops[m]?=some om→m≠i→(listed.setIfInBounds j true).getD m true=false→
    (∀e∈ om.after,Region.binds md e=true→e.on≠i)→oi.apart ops om=true:=fun m om hm hmi hun hno=>by
    refine hfree m om hm hmi ?_ hno
    by_cases hjm:j=m
    · subst hjm;exact hjun
    · rw[_root_.Go.getD_set_ne true hjm] at hun;exact hun
   refine wpOp_mono (fun a' w' h3=>⟨?_,ih (listed.setIfInBounds j true) a' w' hfree' (ready_mono hr (Ne.symm hji)) h3.1 ?_ ?_⟩) h2
   · intro hj' hN
     exact h3.2.1 hj' (hN.set hiD)
   · intro hN
     exact h3.2.1 hN.back.1 (hN.back.2.set hiD)
   · rw[Array.setIfInBounds_comm _ _ hji]
     exact h3.2.2
theorem Qmu{listed:Array Bool}(h:D.all (fun d=>!(listed.getD d true))=true):NoneOf D listed:=fun d hd=>by
 have:=List.all_eq_true.1 h d hd
 simpa using this
theorem Qd2{listed:Array Bool}{d:Nat}(hd:D.contains d=true)(h:listed.getD d true=true):¬NoneOf D listed:=fun hN=>by
 have:=hN d (by simpa using hd)
 rw[h] at this
 cases this
theorem AnyDs.take{i:Nat}{oi:Oper}{v:Value}{fuel:Nat}{listed:Array Bool}{a:Act}{w:World}(hi:ops[i]?=some oi)
 (hs:Region.noSelect ops=true) (hf:Region.free md ops listed i=true) (hr:(Region.ready md ops listed).contains i=true) (hk:D.all (fun k=>waits md ops k i)=true) (hn:D.all (fun d=>!(listed.getD d true))=true)
 (hQ:∀c a w,Q (.panic c) (a.put oi.dst v) w→Q (.panic c) a w) (hy:YieldsIf P ops S oi v a) (hS:S w)
 (h:AnyDs P md ops Q S D fuel (listed.setIfInBounds i true) (a.put oi.dst v) w):AnyDs P md ops Q S D (fuel+1) listed a w:=
 AnyDs.first hi (Region.noSelect_spec hs) hQ hk fuel listed a w (Region.free_spec hi hf) (by simpa using hr) hy (Qmu hn) hS h
theorem AnyDs.takeP{i:Nat}{oi:Oper}{v:Value}{fuel:Nat}{listed:Array Bool}{a:Act}{w:World}(hi:ops[i]?=some oi)
 (hs:Region.noSelect ops=true) (hf:Region.free md ops listed i=true) (hr:(Region.ready md ops listed).contains i=true) (hd:D.contains i=false)
 (hQ:∀c a w,Q (.panic c) (a.put oi.dst v) w→Q (.panic c) a w) (hy:YieldsIf P ops (fun _=>True) oi v a) (hS:NoneOf D listed→S w)
 (h:AnyDs P md ops Q S D fuel (listed.setIfInBounds i true) (a.put oi.dst v) w):AnyDs P md ops Q S D (fuel+1) listed a w:=
 AnyDs.firstP hi (Region.noSelect_spec hs) hQ (fun hm=>by rw[List.contains_iff_mem.2 hm] at hd;cases hd) fuel listed a w (Region.free_spec hi hf) (by simpa using hr) hy hS h
def AllDs(P:Program)(md:Region.Mode)(ops:Array Oper)(Q:Exit→Act→World→Prop)(S:World→Prop)(D:List Nat)(fuel:Nat)(listed:Array Bool)(a:Act)(w:World)(rs:List Nat):Prop:=
 ∀i∈ rs,wpOp P ops Q i (fun a' w'=>(i ∉ D→NoneOf D listed→S w')∧AnyDs P md ops Q S D fuel (listed.setIfInBounds i true) a' w') a w
theorem AllDs.nil{fuel:Nat}{listed:Array Bool}{a:Act}{w:World}:AllDs P md ops Q S D fuel listed a w []:=fun _ h=>by cases h
theorem AllDs.cons{fuel:Nat}{listed:Array Bool}{a:Act}{w:World}{i:Nat}{o:Oper}{rs:List Nat}(ho:ops[i]?=some o)
 (h:∀K':Act→World→Prop,Shut (∀a w,(i ∉ D→NoneOf D listed→S w)→AnyDs P md ops Q S D fuel (listed.setIfInBounds i true) a w→K' a w)→if Region.wanted o (yielded ops a.tmps)=true then Oper.wp P o a w K' Q else K' (a.put o.dst undef) w)
 (hs:AllDs P md ops Q S D fuel listed a w rs):AllDs P md ops Q S D fuel listed a w (i :: rs):=fun j hj=>by
 rcases List.mem_cons.1 hj with rfl|hj
 · exact wpOp_step ho (fun K' hK=>h K' (fun a w hS hW=>hK a w ⟨hS,hW⟩))
 · exact hs j hj
theorem AnyDs.ready{rs:List Nat}{fuel:Nat}{listed:Array Bool}{a:Act}{w:World}(hr:Region.ready md ops listed=rs)(hne:rs≠ [])
 (h:AllDs P md ops Q S D fuel listed a w rs):AnyDs P md ops Q S D (fuel+1) listed a w:=by
 refine⟨(fun h0=>by rw[hr] at h0;exact absurd h0 hne),fun j hj=>?_⟩
 rw[hr] at hj
 exact h j hj
theorem AnyDs.done{listed:Array Bool}{a:Act}{w:World}(hr:Region.ready md ops listed= [])(h:Q .normal a w):∀fuel,AnyDs P md ops Q S D fuel listed a w
 |0=>⟨hr,h⟩
 |_+1=>⟨fun _=>h,by rw[hr];simp⟩
theorem AnyDs.begin{id:Nat}{a:Act}{w:World}(hm:P.follows .mixedOrders=true)
 (h:AnyDs P .any ops Q S D ops.size (Array.replicate ops.size false) a w.drew):(Code.region id ops true).wp P Q a w:=
 wp_region_any hm (AnyDs.any _ _ _ _ h)
end
end Go.Proofs.YtjhdfkcdigmfhaaGreatDoor
