/- package rows: Nulls. -/
import Derived.Test.YtldjeecnapgakaaGreatDoorV28RigC
namespace Go.Proofs.YtldjeecnapgakaaGreatDoor
open Go.RowKit
open Go.Proofs.Tryz
set_option linter.unusedSimpArgs false
set_option linter.unusedVariables false
set_option maxHeartbeats 8000000
set_option maxRecDepth 1000000
theorem Bag.pair{w:World}{bx bv j k:Nat}{p q:Rat}(hx:RatVal w bx p)(hy:RatVal w bv q)(hp:Fits p j)(hq:Fits q k):
 Bag w w [] [.int bx 0 p.num j,.rat bx p.den j,.int bv 0 q.num k,.rat bv q.den k]:=by
 refine⟨Below.refl _ _,fun n hn=>(by cases hn),fun t ht=>⟨?_,List.not_mem_nil⟩⟩;simp only[List.mem_cons,List.not_mem_nil,or_false] at ht;rcases ht with rfl|rfl|rfl|rfl
 . exact hx.int hp
 . exact hx.rat hp
 . exact hy.int hq
 . exact hy.rat hq
theorem Bag.cmp{w0 w:World}{Z:List Nat}{L:List Thing}{bx ox bv ov K1 K2:Nat}{X Y:Int}(h:Bag w0 w Z L)(hx:.int bx ox X K1∈ L)(hy:.int bv ov Y K2∈ L):
 Calls prog 58 #[.pointer (some ⟨bx,ox,none⟩),.pointer (some ⟨bv,ov,none⟩)] w fun e w'=>e=.returned (.int .i64 (cmpZ X Y))/\Bag w0 w' Z L/\w.heap.size<=w'.heap.size:=by
 obtain⟨⟨a,cap,l,ha,h1⟩,hna⟩:=h.ts _ hx;obtain⟨⟨b,cap',m,hb,h2⟩,hnb⟩:=h.ts _ hy;refine(Qi7 bx ox X a cap l bv ov Y b cap' m w ha hb).mono ?_;rintro e w' ⟨rfl,hbl⟩;exact⟨rfl,h.below hbl,hbl.size⟩
theorem Qi3(X Y:Int):cmpZ X Y=0↔X=Y:=by
 unfold cmpZ;by_cases h1:X<Y
 .
  rw[if_pos h1];constructor
  . intro h;omega
  . intro h;omega
 .
  rw[if_neg h1];by_cases h2:X=Y
  . rw[if_pos h2];simp[h2]
  . rw[if_neg h2];simp[h2]
theorem Qq3(X Y:Int){d:Int}(hd:0<d):cmpZ (X*d) (Y*d)=cmpZ X Y:=by
 unfold cmpZ;by_cases h1:X<Y
 . rw[if_pos h1,if_pos (Int.mul_lt_mul_of_pos_right h1 hd)]
 .
  have h2:¬X*d<Y*d:=fun h=>h1 (Int.lt_of_mul_lt_mul_right h (Int.le_of_lt hd))
  rw[if_neg h1,if_neg h2];by_cases h3:X=Y
  . rw[if_pos h3,if_pos (by rw[h3])]
  . rw[if_neg h3,if_neg (fun h=>h3 (Int.eq_of_mul_eq_mul_right (by omega) h))]
theorem Qq4(p q:Rat):p.num*(q.den:Int)=q.num*(p.den:Int)↔p=q:=by
 constructor
 .
  intro h;rw[<-Rat.mkRat_self p,<-Rat.mkRat_self q];exact(Rat.mkRat_eq_iff p.den_nz q.den_nz).2 h
 . rintro rfl
   rfl
theorem Qq5(bx bv j k:Nat)(p q:Rat)(w:World)(hx:RatVal w bx p)(hy:RatVal w bv q)(hp:Fits p j)(hq:Fits q k)(hj:j+k<274877906000):
 Calls prog 20 #[.pointer (some ⟨bx,0,none⟩),.pointer (some ⟨bv,0,none⟩)] w fun e w'=>e=.returned (.int .i64 (cmpZ (p.num*(q.den:Int)) (q.num*(p.den:Int))))/\Below w.heap.size w w':=by
 have HB:=Hi (Bag.pair hx hy hp hq);clear hx hy hp hq;by_cases hd:(p.den:Int)=(q.den:Int)
 .
  have HCZ:O (cmpZ (p.den:Int) (q.den:Int)=0):=Hi ((Qi3 _ _).2 hd);have HD:=Hi hd;clear hd;go_enter func20,ntmps20;go_wp2_with (first
   |
    (go_at_call 57
     apply cM;apply Bag.den (w0:=w);(focus(repeat(first|exact HB.o|apply Bag.alloc|apply Bag.drew)));(focus(repeat(first|exact mH|apply mT)));rintro e w1 ⟨b1,o1,rfl,hbag,hsz⟩;clear HB;have HB:=Hi hbag;clear hbag
     (try simp only[Qab,World.size_alloc] at hsz))
   |
    (go_at_call 58
     apply cM;apply Bag.cmp (w0:=w);(focus(repeat(first|exact HB.o|apply Bag.alloc|apply Bag.drew)));(focus(repeat(first|exact mH|apply mT)));(focus(repeat(first|exact mH|apply mT)));rintro e w1 ⟨rfl,hbag,hsz⟩;rw[HCZ.o];clear HB;have HB:=Hi hbag
     clear hbag)
   |fail)
  go_region_held3 (fun _=>True) (trivial) (first
   |
    (go_at_call 58
     apply cM;apply Bag.cmp (w0:=w);(focus(repeat(first|exact HB.o|apply Bag.alloc|apply Bag.drew)));(focus(repeat(first|exact mH|apply mT)));(focus(repeat(first|exact mH|apply mT)));rintro e w1 ⟨rfl,hbag,hsz⟩;clear HB;have HB:=Hi hbag;clear hbag
     (try simp only[Qab,World.size_alloc] at hsz))
   )
  go_wp2;go_ret;refine⟨?_,HB.o.base⟩;have hd:=HD.o;rw[hd,Qq3 _ _ (show (0:Int)<(q.den:Int) by have:=q.den_nz;omega)];rfl
 .
  obtain⟨cz,hcz⟩:=nm (cmpZ (p.den:Int) (q.den:Int));have hne:(cz == 0)=false:=by
   rw[beq_eq_false_iff_ne];intro h;exact hd ((Qi3 _ _).1 (hcz.trans h))
  have HCZ:=Hi hcz;clear hd hcz;go_enter func20,ntmps20;go_wp2_with (first
   |
    (go_at_call 57
     apply cM;apply Bag.den (w0:=w);(focus(repeat(first|exact HB.o|apply Bag.alloc|apply Bag.drew)));(focus(repeat(first|exact mH|apply mT)));rintro e w1 ⟨b1,o1,rfl,hbag,hsz⟩;clear HB;have HB:=Hi hbag;clear hbag
     (try simp only[Qab,World.size_alloc] at hsz))
   |
    (go_at_call 58
     apply cM;apply Bag.cmp (w0:=w);(focus(repeat(first|exact HB.o|apply Bag.alloc|apply Bag.drew)));(focus(repeat(first|exact mH|apply mT)));(focus(repeat(first|exact mH|apply mT)));rintro e w1 ⟨rfl,hbag,hsz⟩;rw[HCZ.o];clear HB;have HB:=Hi hbag
     clear hbag)
   |fail)
  go_region_held3 (fun _=>True) (trivial) (first
   |
    (go_at_call 59
     apply cM;apply Bag.mul (w0:=w);(focus(repeat(first|exact HB.o|apply Bag.alloc|apply Bag.drew)));(focus(simp only[mem_less,List.mem_cons,List.not_mem_nil,or_false,Qab,World.size_alloc,true_or,or_true,true_and,and_true]<;>omega));(focus(repeat(first|exact mH|apply mT)));(focus(repeat(first|exact mH|apply mT)));omega;rintro e w1 ⟨rfl,hbag,hsz,hlt⟩;clear HB;have HB:=Hi hbag;clear hbag
     (try simp only[Qab,World.size_alloc] at hsz))
   |
    (go_at_call 57
     apply cM;apply Bag.den (w0:=w);(focus(repeat(first|exact HB.o|apply Bag.alloc|apply Bag.drew)));(focus(repeat(first|exact mH|apply mT)));rintro e w1 ⟨b1,o1,rfl,hbag,hsz⟩;clear HB;have HB:=Hi hbag;clear hbag
     (try simp only[Qab,World.size_alloc] at hsz))
   |
    (go_at_call 58
     apply cM;apply Bag.cmp (w0:=w);(focus(repeat(first|exact HB.o|apply Bag.alloc|apply Bag.drew)));(focus(repeat(first|exact mH|apply mT)));(focus(repeat(first|exact mH|apply mT)));rintro e w1 ⟨rfl,hbag,hsz⟩;clear HB;have HB:=Hi hbag;clear hbag
     (try simp only[Qab,World.size_alloc] at hsz))
   )
  all_goals
   go_wp2;go_ret;exact⟨rfl,HB.o.base⟩
structure Grow (w:World) (B:Nat) (e:TypeId) (sz:Nat) (K:Value->Prop) (v:Value) (n:Nat) (xs:List Value):Prop where
 own:w.ownsRow B e sz v n xs
 all:∀g,v.ownBlock=some g->∃C,w.heap[g]?=some (.cells C e (0,0))/\∀u,u∈ C.toList->K u
theorem Grow.nil(w:World)(B:Nat)(e:TypeId)(sz:Nat)(K:Value->Prop):Grow w B e sz K (.slice none 0 0) 0 []:=⟨World.ownsRow_nil w B e sz,fun g hg=>by simp[Value.ownBlock] at hg⟩
theorem Grow.keep{w w':World}{B:Nat}{e:TypeId}{sz:Nat}{K:Value->Prop}{v:Value}{n:Nat}{xs:List Value}(h:Grow w B e sz K v n xs)(hk:∀g,v.ownBlock=some g->w'.heap[g]?=w.heap[g]?):Grow w' B e sz K v n xs:=by
 refine⟨⟨h.own.1,?_⟩,fun g hg=>?_⟩
 .
  rcases h.own.2 with h1|⟨g,cap,cur,rfl,hb,hg,h2⟩
  . exact .inl h1
  . exact .inr ⟨g,cap,cur,rfl,hb,by rw[hk g rfl];exact hg,h2⟩
 . obtain⟨C,h1,h2⟩:=h.all g hg
   exact⟨C,by rw[hk g hg];exact h1,h2⟩
theorem Qjv{z:Array Value}{n:Nat}{u:Value}(hu:u∈ (Builtin.zeroCells z n).toList):u∈ z.toList:=by
 simp[Builtin.zeroCells] at hu;obtain⟨j,hj,e⟩:=hu;have h0:0<z.size:=by
  rcases Nat.eq_zero_or_pos z.size with h|h
  . rw[h] at hj;omega
  . exact h
 rw[getElem!_pos z (j % z.size) (Nat.mod_lt _ h0)] at e;rw[<-e];exact Array.getElem_mem_toList _
theorem Grow.app{P:Program}{w:World}{B:Nat}{t ty e:TypeId}{i:TypeInfo}{z:Value}{sz bytes:Nat}{K:Value->Prop}{v:Value}{n:Nat}{xs:List Value}(h:Grow w B e sz K v n xs)
 (ht:P.underlying t=some (.slice e)) (hi:P.info? e=some i) (hz:i.zero=some z) (hsize:i.size=sz) (hby:i.bytes=bytes) (hzs:z.cells.size=sz) (hsz:0<sz) (hKz:∀u,u∈ z.cells.toList->K u)
 (a:Addr) (m c:Nat) (news:List Value) (hl:news.length=m*sz) (hnews:∀j u,news[j]?=some u->w.cell? (a.add j)=some u) (h1:∀u,u∈ news->u.oneCell'=true) (hK:∀u,u∈ news->K u)
 (hnm:n+m<=1048576) (hb64:bytes<=1000) (hbase:B<=w.heap.size):
 ∃v' w',(Builtin.append_ #[t,t] ty #[v,.slice (some a) m c]).run P w=.ok v' w'/\Grow w' B e sz K v' (n+m) (xs++news)/\w.grownBy w' v.ownBlock/\(v'.ownBlock=v.ownBlock∨v'.ownBlock=some w.heap.size):=by
 have hbm:(n+m)*bytes<=1048576*1000:=Nat.mul_le_mul hnm hb64;obtain⟨v',w',hr,hown,hgrow,hnil,hat⟩:=run_append_own_at (P:=P) w B t ty e i z sz bytes ht hi hz hsize hby hzs hsz v n xs h.own a m c news hl hnews h1 (by unfold maxLen;omega) (by omega) hbase;refine⟨v',w',hr,⟨hown,?_⟩,hgrow,hat⟩;have hl':news.length=m*i.size:=by rw[hsize];exact hl
 have hxl:xs.length=n*i.size:=by rw[hsize];exact h.own.1
 have hgen:∀(C:Array Value) (w1:World) (n cap:Nat),(∀u,u∈ C.toList->K u)->∀g,(Value.slice (some ⟨w1.heap.size,0,none⟩) n cap).ownBlock=some g->∃D,(w1.drew.alloc (.cells C e)).heap[g]?=some (.cells D e (0,0))/\∀u,u∈ D.toList->K u:=fun C w1 n cap hC g hg=>by
  have e:w1.heap.size=g:=by simpa [Value.ownBlock] using hg
  subst e;exact⟨C,heap_alloc_new w1.drew _,hC⟩
 rcases h.own.2 with ⟨rfl,rfl⟩|⟨g,cap,cur,rfl,hbg,hg,hnc,hcm,hcs,htake⟩
 .
  by_cases hm:m=0
  . rw[hnil.2 ⟨rfl,hm⟩]
    exact fun g hg=>by simp[Value.ownBlock] at hg
  rw[run_append_nil (P:=P) w t ty e i z ht hi hz a m c news hl' hnews (by omega) (by omega) (by rw[hby];simp only[Nat.zero_add] at hbm;omega)] at hr;injection hr with e1 e2
  subst e1;subst e2;refine hgen _ w _ _ fun u hu=>?_
  simp only[Array.toList_append,List.mem_append] at hu;rcases hu with hu|hu
  . exact hK u hu
  . exact hKz u (Qjv hu)
 .
  obtain⟨C,hC,hCK⟩:=h.all g rfl;rw[hg] at hC;injection hC with hC
  injection hC with hC _ _
  subst hC;by_cases hroom:n+m<=cap
  .
   have hfit:n*i.size+news.length<=cur.size:=by rw[hl',hcs,hsize,<-Nat.add_mul];exact Nat.mul_le_mul_right _ hroom
   rw[run_append_room (P:=P) w t ty e i ht hi g n cap cur hg a m c news hl' hnews h1 hroom hfit] at hr;injection hr with e1 e2
   subst e1;subst e2;intro g' hg';have e:g=g':=by simpa [Value.ownBlock] using hg'
   subst e;refine⟨_,setRow_heap w g cur _ e _ hg,fun u hu=>?_⟩;simp only[List.toList_toArray,List.mem_append] at hu;rcases hu with (hu|hu)|hu
   . exact hCK u (List.mem_of_mem_take hu)
   . exact hK u hu
   . exact hCK u (List.mem_of_mem_drop hu)
  .
   have holds:∀j u,xs[j]?=some u->w.cell? ((⟨g,0,none⟩:Addr).add j)=some u:=h.own.cells (g:=g) rfl;rw[run_append_grow (P:=P) w t ty e i z ht hi hz ⟨g,0,none⟩ n cap xs hxl holds a m c news hl' hnews (by omega) (by omega) (by rw[hby];exact growslice_fits (by omega) (by omega))] at hr;injection hr with e1 e2
   subst e1;subst e2;refine hgen _ w _ _ fun u hu=>?_
   simp only[Array.toList_append,List.mem_append] at hu;rcases hu with (hu|hu)|hu
   . rw[<-htake] at hu
     exact hCK u (List.mem_of_mem_take hu)
   . exact hK u hu
   . exact hKz u (Qjv hu)
theorem Grow.sb{w:World}{B:Nat}{e:TypeId}{sz:Nat}{K:Value->Prop}{v:Value}{n:Nat}{xs:List Value}(h:Grow w B e sz K v n xs){g:Nat}(hg:v.ownBlock=some g):∃C,SB w g e C/\∀u,u∈ C.toList->K u:=h.all g hg
theorem Grow.lt{w:World}{B:Nat}{e:TypeId}{sz:Nat}{K:Value->Prop}{v:Value}{n:Nat}{xs:List Value}(h:Grow w B e sz K v n xs){g:Nat}(hg:v.ownBlock=some g):B<=g/\g<w.heap.size:=h.own.lt g hg
theorem Grow.below{w w':World}{B:Nat}{e:TypeId}{sz:Nat}{K:Value->Prop}{v:Value}{n:Nat}{xs:List Value}(h:Grow w B e sz K v n xs)(hb:Below w.heap.size w w'):Grow w' B e sz K v n xs:=h.keep fun g hg=>hb.block g (h.lt hg).2
theorem Grow.slice{w:World}{B sz:Nat}{e:TypeId}{K:Value->Prop}{v:Value}{n:Nat}{xs:List Value}(h:Grow w B e sz K v n xs):
 ∃a cap,v=.slice a n cap/\n<=cap/\CRow w a xs/\(0<n->∃g,a=some ⟨g,0,none⟩/\v.ownBlock=some g):=by
 rcases h.own.2 with ⟨rfl,rfl⟩|⟨g,cap,cur,rfl,hb,hg,hnc,hcm,hcs,htake⟩
 .
  have:xs= []:=List.eq_nil_of_length_eq_zero (by simpa using h.own.1);subst this;exact⟨none,0,rfl,Nat.le_refl _,⟨fun j u hj=>by simp at hj⟩,fun h=>by omega⟩
 .
  refine⟨some ⟨g,0,none⟩,cap,rfl,hnc,⟨fun j u hj=>⟨g,0,rfl,SB.lt hg,?_⟩⟩,fun _=>⟨g,rfl,rfl⟩⟩;have:=h.own.cells (g:=g) rfl j u hj;rw[Qcf] at this;exact this
end Go.Proofs.YtldjeecnapgakaaGreatDoor
namespace Go.Proofs.YtldjeecnapgakaaGreatDoor
open Go
open Go.Proofs.Tryz
set_option linter.unusedSimpArgs false
set_option linter.unusedVariables false
set_option maxHeartbeats 8000000
set_option maxRecDepth 1000000
section
variable {P:Program} {ops:Array Oper} {Q:Exit->Act->World->Prop} {md:Region.Mode} {S:World->Prop} {D:List Nat}
def NoneOf(D:List Nat)(listed:Array Bool):Prop:=∀d∈ D,listed.getD d true=false
theorem NoneOf.set{listed:Array Bool}{j:Nat}(h:NoneOf D listed)(hj:j ∉ D):NoneOf D (listed.setIfInBounds j true):=fun d hd=>by
 have hne:j≠d:=fun e=>hj (e ▸ hd)
 rw[_root_.Go.getD_set_ne true hne];exact h d hd
theorem NoneOf.back{listed:Array Bool}{j:Nat}(h:NoneOf D (listed.setIfInBounds j true)):j ∉ D/\NoneOf D listed:=by
 have hj:j ∉ D:=fun hd=>by
  have:=h j hd;simp at this
 refine⟨hj,fun d hd=>?_⟩;have hne:j≠d:=fun e=>hj (e ▸ hd)
 have:=h d hd;rw[_root_.Go.getD_set_ne true hne] at this;exact this
theorem Qqu{i j:Nat}{listed:Array Bool}{oj:Oper}(hr:i∈ Region.ready md ops listed)(hall:∀e∈ oj.after,Region.binds md e=true->listed.getD e.on false=true):∀e∈ oj.after,Region.binds md e=true->e.on≠i:=fun e he hb heq=>by
 have h1:=hall e he hb;have h0:=(mem_ready.1 hr).1;rw[heq] at h1;rcases Nat.lt_or_ge i listed.size with h'|h'
 . simp[h'] at h0 h1;rw[h0] at h1;cases h1
 . simp[Array.getElem?_eq_none h'] at h1
end
section
variable {P:Program} {ops:Array Oper} {Q:Exit->Act->World->Prop} {md:Region.Mode} {S T:World->Prop} {D:List Nat}
def AnyE(P:Program)(md:Region.Mode)(ops:Array Oper)(Q:Exit->Act->World->Prop)(S T:World->Prop)(D:List Nat):Nat->Array Bool->Act->World->Prop
 |0,listed,a,w=>Region.ready md ops listed= []/\Q .normal a w
 |fuel+1,listed,a,w=>(Region.ready md ops listed= []->Q .normal a w)/\∀i∈ Region.ready md ops listed,wpOp P ops Q i (fun a' w'=>((i ∉ D->NoneOf D listed->S w')/\T w')/\AnyE P md ops Q S T D fuel (listed.setIfInBounds i true) a' w') a w
theorem AnyE.any:∀(fuel:Nat) (listed:Array Bool) (a:Act) (w:World),AnyE P md ops Q S T D fuel listed a w->wpAny P md ops Q fuel listed a w
 |0,_,_,_,h=>h
 |fuel+1,_,_,_,h=>⟨h.1,fun i hi=>wpOp_mono (fun a' w' h'=>AnyE.any fuel _ a' w' h'.2) (h.2 i hi)⟩
theorem AnyE.firstT{i:Nat}{oi:Oper}{v:Value}(hi:ops[i]?=some oi)(hsel:∀(j:Nat) (o:Oper) cs b,ops[j]?=some o->o.op≠.select cs b)
 (hQ:∀c a w,Q (.panic c) (a.put oi.dst v) w->Q (.panic c) a w) (hiD:i ∉ D):
 ∀(fuel:Nat) (listed:Array Bool) (a:Act) (w:World),
  (∀j oj,ops[j]?=some oj->j≠i->listed.getD j true=false->(∀e∈ oj.after,Region.binds md e=true->e.on≠i)->oi.apart ops oj=true)->
  i∈ Region.ready md ops listed->YieldsIf P ops T oi v a->(NoneOf D listed->S w)->T w->
  AnyE P md ops Q S T D fuel (listed.setIfInBounds i true) (a.put oi.dst v) w->AnyE P md ops Q S T D (fuel+1) listed a w:=by
 intro fuel
 induction fuel with
 |zero=>
  intro listed a w _ hr hy hS hT H;refine⟨fun h=>(by rw[h] at hr;cases hr),fun j hj=>?_⟩;by_cases hji:j=i
  . subst hji;exact hy.wpOp hi hT ⟨⟨fun _=>hS,hT⟩,H⟩
  .
   have:=ready_mono hj hji;rw[H.1] at this;cases this
 |succ fuel ih=>
  intro listed a w hfree hr hy hS hT H;refine⟨fun h=>(by rw[h] at hr;cases hr),fun j hj=>?_⟩;by_cases hji:j=i
  . subst hji;exact hy.wpOp hi hT ⟨⟨fun _=>hS,hT⟩,H⟩
  .
   have h1:=H.2 j (ready_mono hj hji);obtain⟨hjun,oj,hoj,hall⟩:=mem_ready.1 hj;have hnot:=Qqu (j:=j) hr hall;have h2:=wpOp_putIf hoj (hfree j oj hoj hji hjun hnot) (fun cs b=>hsel i oi cs b hi) (fun cs b=>hsel j oj cs b hoj) hQ hy h1;have hfree':∀m om,ops[m]?=some om->m≠i->(listed.setIfInBounds j true).getD m true=false->
    (∀e∈ om.after,Region.binds md e=true->e.on≠i)->oi.apart ops om=true:=fun m om hm hmi hun hno=>by
    refine hfree m om hm hmi ?_ hno;by_cases hjm:j=m
    . subst hjm;exact hjun
    . rw[_root_.Go.getD_set_ne true hjm] at hun;exact hun
   refine wpOp_mono (fun a' w' h3=>⟨⟨?_,h3.2.1.2⟩,ih (listed.setIfInBounds j true) a' w' hfree' (ready_mono hr (Ne.symm hji)) h3.1 ?_ h3.2.1.2 ?_⟩) h2
   . intro hj' hN
     exact h3.2.1.1 hj' (hN.set hiD)
   . intro hN
     exact h3.2.1.1 hN.back.1 (hN.back.2.set hiD)
   . rw[Array.setIfInBounds_comm _ _ hji]
     exact h3.2.2
theorem AnyE.takeT{i:Nat}{oi:Oper}{v:Value}{fuel:Nat}{listed:Array Bool}{a:Act}{w:World}(hi:ops[i]?=some oi)
 (hs:Region.noSelect ops=true) (hf:Region.free md ops listed i=true) (hr:(Region.ready md ops listed).contains i=true) (hd:D.contains i=false)
 (hQ:∀c a w,Q (.panic c) (a.put oi.dst v) w->Q (.panic c) a w) (hy:YieldsIf P ops T oi v a) (hS:NoneOf D listed->S w) (hT:T w)
 (h:AnyE P md ops Q S T D fuel (listed.setIfInBounds i true) (a.put oi.dst v) w):AnyE P md ops Q S T D (fuel+1) listed a w:=
 AnyE.firstT hi (Region.noSelect_spec hs) hQ (fun hm=>by rw[List.contains_iff_mem.2 hm] at hd;cases hd) fuel listed a w (Region.free_spec hi hf) (by simpa using hr) hy hS hT h
theorem AnyE.one{i:Nat}{o:Oper}{fuel:Nat}{listed:Array Bool}{a:Act}{w:World}(hr:Region.ready md ops listed= [i])(ho:ops[i]?=some o)
 (h:∀K':Act->World->Prop,Shut (∀a w,((i ∉ D->NoneOf D listed->S w)/\T w)->AnyE P md ops Q S T D fuel (listed.setIfInBounds i true) a w->K' a w)->if Region.wanted o (yielded ops a.tmps)=true then Oper.wp P o a w K' Q else K' (a.put o.dst undef) w):AnyE P md ops Q S T D (fuel+1) listed a w:=by
 refine⟨(fun h0=>by rw[hr] at h0;cases h0),fun j hj=>?_⟩;rw[hr] at hj;obtain rfl:=List.mem_singleton.1 hj;exact wpOp_step ho (fun K' hK=>h K' (fun a w hS hW=>hK a w ⟨hS,hW⟩))
theorem AnyE.done{listed:Array Bool}{a:Act}{w:World}(hr:Region.ready md ops listed= [])(h:Q .normal a w):∀fuel,AnyE P md ops Q S T D fuel listed a w
 |0=>⟨hr,h⟩
 |_+1=>⟨fun _=>h,by rw[hr];simp⟩
theorem AnyE.begin{id:Nat}{a:Act}{w:World}(hm:P.follows .mixedOrders=true)
 (h:AnyE P .any ops Q S T D ops.size (Array.replicate ops.size false) a w.drew):(Code.region id ops true).wp P Q a w:=
 wp_region_any hm (AnyE.any _ _ _ _ h)
end
def Plan(is:List Nat)(p:Prop):Prop:=p
theorem Plan.of{p:Prop}(is:List Nat)(h:Plan is p):p:=h
theorem Plan.done{p:Prop}(h:p):Plan [] p:=h
section
variable {P:Program} {ops:Array Oper} {Q:Exit->Act->World->Prop} {md:Region.Mode} {S T:World->Prop} {D is:List Nat} {i:Nat} {oi:Oper} {v:Value} {fuel:Nat} {listed:Array Bool} {a:Act} {w:World}
theorem AnyE.beg{id:Nat}(hm:P.follows .mixedOrders=true)(hS:S w.drew)(hT:T w.drew)(h:AnyE P .any ops Q S T D ops.size (Array.replicate ops.size false) a w.drew):(Code.region id ops true).wp P Q a w:=AnyE.begin hm h
theorem AnyE.tp(hi:ops[i]?=some oi)(hs:Region.noSelect ops=true)(hf:Region.free md ops listed i=true)(hr:(Region.ready md ops listed).contains i=true)(hd:D.contains i=false)
 (hQ:∀c a w,Q (.panic c) (a.put oi.dst v) w->Q (.panic c) a w) (hS:NoneOf D listed->S w) (hT:T w) (hy:YieldsIf P ops T oi v a)
 (h:Plan is (AnyE P md ops Q S T D fuel (listed.setIfInBounds i true) (a.put oi.dst v) w)):Plan (i :: is) (AnyE P md ops Q S T D (fuel+1) listed a w):=
 AnyE.takeT hi hs hf hr hd hQ hy hS hT h
theorem AnyE.op{o:Oper}(hr:Region.ready md ops listed= [i])(ho:ops[i]?=some o)
 (h:∀K':Act->World->Prop,Shut (∀a w,((i ∉ D->NoneOf D listed->S w)/\T w)->Plan is (AnyE P md ops Q S T D fuel (listed.setIfInBounds i true) a w)->K' a w)->if Region.wanted o (yielded ops a.tmps)=true then Oper.wp P o a w K' Q else K' (a.put o.dst undef) w):Plan (i :: is) (AnyE P md ops Q S T D (fuel+1) listed a w):=
 AnyE.one hr ho h
variable {k:Nat}
end
end Go.Proofs.YtldjeecnapgakaaGreatDoor
namespace Go.Proofs.YtldjeecnapgakaaGreatDoor
open Go.RowKit
open Go.Proofs.Tryz
set_option linter.unusedSimpArgs false
set_option linter.unusedVariables false
set_option maxHeartbeats 8000000
set_option maxRecDepth 1000000
theorem Qsl(u:World)(v:Value)(t:TypeId):(u.alloc (.cells #[v] t)).cell? ⟨u.heap.size,0,none⟩=some v:=(SB.new u t #[v]).cell 0
def TLst(w:World)(a:Option Addr)(l:List ByteArray):Prop:=∀(i:Nat) (s:ByteArray),l[i]?=some s->∃b off,a=some ⟨b,off,none⟩/\b<w.heap.size/\w.cell? ⟨b,off+i,none⟩=some (.string s)
theorem SB.texts{w:World}{g:Nat}{t:TypeId}{l:List ByteArray}(h:SB w g t (textsV l).toArray):TLst w (some ⟨g,0,none⟩) l:=fun i s hi=>⟨g,0,rfl,h.lt,by
 rw[Nat.zero_add,h.cell]
 simp[textsV,hi]⟩
theorem Qhd(a b:Option Addr)(c d:Nat)(l:List ByteArray)(w:World)(hu:TLst w a l)(hv:TLst w b l)(hs:l.length<=1000000):
 Calls prog 23 #[.slice a l.length c,.slice b l.length d] w fun e w'=>e=.returned (.bool true)/\Below w.heap.size w w':=by
 obtain⟨HC,HD⟩:=Ia hu hv;clear hu hv;go_enter func23,ntmps23;go_wp2_with fail;go_loopw [13] (fun iv wr=>∃i:Nat,i<=l.length/\iv=.int .i64 i/\Below w.heap.size w wr) (fun iv _=>l.length - (intOf iv).toNat)
 case atStart=>exact⟨0,by omega,rfl,Below.refl _ _⟩
 case round=>
  obtain⟨i,hi,rfl,hb⟩:=hrel;have HB:=Hi hb;by_cases hie:i<l.length
  .
   obtain⟨f,hf⟩:∃f,l[i]?=some f:=⟨l[i],gE hie⟩;obtain⟨b1,o1,rfl,h1,d1⟩:=HC.o i f hf;obtain⟨b2,o2,rfl,h2,d2⟩:=HD.o i f hf;have d1':wr.cell? ⟨b1,o1+i,none⟩=some (.string f):=ce hb h1 d1;have d2':wr.cell? ⟨b2,o2+i,none⟩=some (.string f):=ce hb h2 d2;have q3:((i:Int)<(l.length:Int)):=by omega
   clear hf d1 d2 hb h1 h2;go_wp2_with fail;go_region;go_wp2;go_roundw
   case rel=>exact⟨i+1,by omega,by go_num,HB.o.drew⟩
   case measure=>simp[intOf];omega
  .
   obtain rfl:i=l.length:=by omega
   clear hb;go_wp2;go_ret;exact⟨rfl,HB.o⟩
def textD{H:Type}(s:ByteArray):DataW H:=.lit (.string s.data.toList)
section
variable {H:Type} {enc:TypeId × Value->H} {P:Program} {w:World} {base:Nat} {spare:Nat->Bool} {held:Bool} {fuel:Nat} {cs:List Value} {x:DataW H × List MemPlace} {tE tS tQ tI tI':TypeId} {f0 f1 f2 f3 f4 f5:Field}
theorem Qjb{α:Type}{c:α->List Value}{dat:α->DataW H}{sz:Nat}{t:TypeId}(dflt:α)(hsz:0<sz)(hc:∀e,(c e).length=sz)(ut:P.underlying t=some (.slice tE))(cE:P.cellsOf tE=sz)
 (each:∀(fuel:Nat) (cs:List Value) (x:DataW H × List MemPlace),DataW.trod enc P w base spare held fuel tE cs=some x->∃e,cs=c e/\x.1=dat e)
 (h:DataW.trod enc P w base spare held fuel t cs=some x):
 ∃(a:Option Addr) (cap:Nat) (es:List α),cs= [.slice a es.length cap]/\ARow c w a cap es/\(∀l r,x.1=.slice l r->l=es.map dat)/\((es= []/\x.1=.nil)∨∃l r,x.1=.slice l r):=by
 rcases Deep.open_slice ut h with ⟨rfl,rfl⟩|⟨a,len,cap,m,n,D,Pl,rfl,hb,hlc,hcm,hm,rfl,hD⟩
 . exact⟨none,0,[],rfl,⟨by simp,⟨fun j u hj=>by simp at hj⟩⟩,fun l r e=>by simp at e,.inl ⟨rfl,rfl⟩⟩
 have hlm:len<=m:=by rw[hm];split<;>omega
 have eachI:∀i,∃f:α,i<len->w.cells? base (a.add (i*sz)) sz=some (c f)/\D i=dat f:=by
  intro i;by_cases hi:i<len
  .
   obtain⟨cs',h1,h2⟩:=hD i (by omega);obtain⟨f,rfl,hd⟩:=each _ _ _ h2;rw[cE] at h1;exact⟨f,fun _=>⟨h1,hd⟩⟩
  . exact⟨dflt,fun h=>absurd h hi⟩
 obtain⟨F,hF⟩:=Classical.axiomOfChoice eachI;refine⟨some a,cap,(List.range len).map F,by simp,⟨by simpa using hlc,⟨?_⟩⟩,?_,.inr ⟨_,_,rfl⟩⟩
 .
  intro j u hj;have hjl:=(gZ hj).1;rw[Qdl hc] at hjl;simp only[List.length_map,List.length_range] at hjl;have hil:j / sz<len:=(Nat.div_lt_iff_lt_mul hsz).2 hjl;have hkl:j % sz<sz:=Nat.mod_lt _ hsz;obtain⟨u',hu'⟩:∃u',(c (F (j / sz)))[j % sz]?=some u':=⟨_,gE (by rw[hc];exact hkl)⟩;have h1:((List.range len).map F)[j / sz]?=some (F (j / sz)):=by simp[hil]
  have h2:=Qb4 hc _ _ _ _ _ h1 hu';rw[Nat.div_add_mod' j sz,hj] at h2;obtain rfl:=Option.some.inj h2;obtain⟨hcl,_⟩:=hF _ hil;obtain⟨_,_,hcell⟩:=World.cells?_some hcl;obtain⟨b,off,sp⟩:=a;have c0:=hcell (j % sz) (by omega);have z:=(World.cells?_some (hF 0 (Nat.lt_of_le_of_lt (Nat.zero_le _) hil)).1).2.2 0 hsz;have hsp:sp=none:=by
   cases sp with
   |none=>rfl
   |some v=>
    exfalso
    obtain⟨z0,hz0⟩:∃z0,(c (F 0))[0]?=some z0:=⟨_,gE (by rw[hc];exact hsz)⟩;rw[hz0] at z;simp only[Nat.zero_mul,Addr.add,if_true,World.cell?] at z
    split at z<;>simp at z
  subst hsp;have ea:∀j k,(Addr.add ⟨b,off,none⟩ j).add k=⟨b,off+j+k,none⟩:=by
   intro j k;unfold Addr.add;by_cases hj:j=0<;>by_cases hk:k=0<;>simp[hj,hk]
  rw[ea,hu',Nat.add_assoc,Nat.div_add_mod'] at c0;exact⟨b,off,rfl,World.block_lt_of_cell? _ _ c0,c0⟩
 .
  intro l r e;have e1:(List.range len).map D=l:=by simpa using (DataW.slice.inj e).1
  rw[<-e1,List.map_map];refine List.map_congr_left fun i hi=>?_
  exact(hF i (by simpa using hi)).2
end
def appR(P:Program)(t ty:TypeId)(vs vx:Value)(w:World):Result Value:=(Builtin.append_ #[t,t] ty #[vs,vx]).run P w
@[go_sem ↓] theorem Qtp (ρ:Operand->Value) (dst:Option Tmp) (x y:Operand) (t ty:TypeId) (pos:String) (after:Array Go.Edge) (guard:Option (Nat × Bool)) (w:World):
   (execOp ρ { dst,op:=.call { callee:=.builtin .append,args:=#[x,y],argTypes:=#[t,t] },type:=ty,pos,after,guard }).run prog w=(appR prog t ty (ρ x) (ρ y) w).andThen (fun v w'=>.ok (.value v) w'):=by
  have e:(#[x,y]:Array Operand).map ρ=#[ρ x,ρ y]:=by simp
  rw[BigFrame.execOp_builtin,BigFrame.builtin_append,e,Sem.run_bind]
  unfold appR
  simp only[Sem.run_pure]
theorem Qjw{w w':World}{B:Nat}{v:Value}(h:w.grownBy w' v.ownBlock)(hv:∀g,v.ownBlock=some g->B<=g)(hB:B<=w.heap.size):Below B w w':=
 ⟨h.os,h.tape,h.output,h.size,fun b hb=>h.block b (by omega) (fun e=>by have:=hv b e.symm;omega)⟩
end Go.Proofs.YtldjeecnapgakaaGreatDoor
