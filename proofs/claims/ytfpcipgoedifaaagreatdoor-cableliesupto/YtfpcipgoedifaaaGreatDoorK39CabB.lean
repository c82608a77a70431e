/- package rows: pivot; swept. -/
import Derived.Test.YtfpcipgoedifaaaGreatDoorK38RegX
namespace Go.Proofs.YtfpcipgoedifaaaGreatDoor
set_option linter.unusedVariables false
set_option linter.unusedSimpArgs false
namespace Cab
abbrev Mx:=Nat->Nat->Rat
def form(n:Nat)(M:Mx)(x:Vec):Rat:=dot n x (fun i=>dot n (M i) x)
def Sym(n:Nat)(M:Mx):Prop:=∀i c,i<n->c<n->M i c=M c i
theorem Qer:∀(n:Nat) (x y:Vec),dot n x y=dot n y x
 |0,_,_=>rfl
 |n+1,x,y=>by simp only[dot,Qer n x y];grind
theorem Qes(n:Nat)(x y z:Vec)(q:Rat):dot n x (fun i=>y i - z i*q)=dot n x y - dot n x z*q:=by
 rw[Qit,Qdy]
def sweep1(M:Mx)(p c:Nat):Mx:=fun i=>lessBy c (M p) (M i)
def sweep2(M:Mx)(p c:Nat):Mx:=fun i j=>M i j - M p j*(M i c / M p c) - M c j*(M i p / M p c)
theorem Qgr{n:Nat}{M:Mx}{p:Nat}(hs:Sym n M)(hp:p<n)(x:Vec):form n (sweep1 M p p) x=form n M x - dot n (M p) x*dot n (M p) x / M p p:=by
 unfold form;have h1:∀i,dot n (sweep1 M p p i) x=dot n (M i) x - M i p*(dot n (M p) x / M p p):=fun i=>by
  show dot n (fun j=>M i j - M p j*(M i p / M p p)) x=_
  rw[Qar,Rat.div_def,Rat.div_def];grind
 rw[Qae n x _ x (fun i=>dot n (M i) x - M i p*(dot n (M p) x / M p p)) (fun i _=>by rw[h1]),Qes,
  Qae n x (fun i=>M i p) x (M p) (fun i hi=>by rw[hs i p hi hp]),Qer n x (M p)]
 rw[Rat.div_def,Rat.div_def];grind
theorem Qgs(x:Rat):0<=x*x:=by
 rcases Rat.le_total (a:=0) (b:=x) with h|h
 · exact Rat.mul_nonneg h h
 ·
  have h2:0<= -x:=by grind
  have:=Rat.mul_nonneg h2 h2;grind
theorem Qmi{x q:Rat}(h:0<q):0<=x*x / q:=by
 rw[Rat.div_def];exact Rat.mul_nonneg (Qgs x) (Rat.le_of_lt (Rat.inv_pos.2 h))
theorem Qmj{x q:Rat}(h:q<0):x*x / q<=0:=by
 have h1:q*q⁻¹=1:=Rat.mul_inv_cancel q (by grind);have h2:q⁻¹<=0:=by
  rcases Rat.le_total (a:=0) (b:=q⁻¹) with k|k
  · have h3:=Rat.mul_nonneg (a:=-q) (b:=q⁻¹) (by grind) k
    grind
  · exact k
 have h4:=Rat.mul_nonneg (Qgs x) (show 0<= -q⁻¹ by grind);rw[Rat.div_def];grind
theorem Qmk{n:Nat}{M:Mx}{p:Nat}(hs:Sym n M)(hp:p<n):Sym n (sweep1 M p p):=fun i c hi hc=>by
 show M i c - M p c*(M i p / M p p)=M c i - M p i*(M c p / M p p)
 rw[hs i c hi hc,hs p c hp hc,hs i p hi hp,Rat.div_def,Rat.div_def];grind
theorem Qml{n:Nat}{M:Mx}{p q:Nat}(hs:Sym n M)(hp:p<n)(hq:q<n):Sym n (sweep2 M p q):=fun i c hi hc=>by
 show M i c - M p c*(M i q / M p q) - M q c*(M i p / M p q)=M c i - M p i*(M c q / M p q) - M q i*(M c p / M p q)
 rw[hs i c hi hc,hs p c hp hc,hs q c hq hc,hs i p hi hp,hs i q hi hq,Rat.div_def,Rat.div_def,Rat.div_def,Rat.div_def];grind
def SI(M:List Vec)(hs:List Nat)(L:List Vec):Prop:=
 ∃R:Nat->Vec,(∀i,i<hs.length->R i∈ M)/\
  (∀m:Vec,(∀h,h∈ hs->dot hs.length m (fun i=>R i h)=0)->∀i,i<hs.length->m i=0)/\
  ∀v,v∈ L->∃r,r∈ M/\∃l:Vec,(∀j,v j=r j - dot hs.length l (fun i=>R i j))/\∀h,h∈ hs->v h=0
theorem SI.start(M:List Vec):SI M [] M:=
 ⟨fun _ _=>0,fun i hi=>absurd hi (by simp),fun m _ i hi=>absurd hi (by simp),fun v hv=>⟨v,hv,fun _=>0,fun j=>by simp[dot,Rat.sub_eq_add_neg,Rat.add_zero],fun h hh=>by cases hh⟩⟩
theorem SI.step{M L:List Vec}{hs:List Nat}{c:Nat}{s:Vec}(h:SI M hs L)(hsL:s∈ L)(h0:s c≠0):SI M (hs++ [c]) (L.map (lessBy c s)):=by
 obtain⟨R,hR,hI,hL⟩:=h;obtain⟨r,hr,l,hl,hz⟩:=hL s hsL;have hlen:(hs++ [c]).length=hs.length+1:=by simp
 have hdot:∀(m:Vec) (i:Nat),dot (hs.length+1) m (fun t=>(if t=hs.length then r else R t) i)=dot hs.length m (fun t=>R t i)+m hs.length*r i:=fun m i=>by
  simp only[dot];rw[Qae hs.length m _ m (fun t=>R t i) (fun t ht=>by rw[if_neg (by omega)])];simp
 refine⟨fun t=>if t=hs.length then r else R t,?_,?_,?_⟩
 ·
  intro i hi;rw[hlen] at hi;by_cases he:i=hs.length
  · show (if i=hs.length then r else R i)∈ M
    rw[if_pos he];exact hr
  · show (if i=hs.length then r else R i)∈ M
    rw[if_neg he];exact hR i (by omega)
 ·
  intro m hm;rw[hlen] at hm ⊢;have hm':∀h,h∈ hs++ [c]->dot hs.length m (fun t=>R t h)+m hs.length*r h=0:=fun h hh=>by rw[<-hdot];exact hm h hh
  have hz':∀i,r i=s i+dot hs.length l (fun t=>R t i):=fun i=>by rw[hl i];grind
  have hsum:∀h,dot hs.length (fun t=>m t+l t*m hs.length) (fun t=>R t h)=dot hs.length m (fun t=>R t h)+dot hs.length l (fun t=>R t h)*m hs.length:=fun h=>by rw[Qdx,Qcl]
  have hk:=hI (fun t=>m t+l t*m hs.length) (fun h hh=>by
   rw[hsum];have e1:=hm' h (by simp[hh]);rw[hz' h,hz h hh] at e1
   grind)
  have e2:=hm' c (by simp);rw[hz' c] at e2;have e3:dot hs.length (fun t=>m t+l t*m hs.length) (fun t=>R t c)=0:=Qam _ _ _ (fun t ht=>by rw[hk t ht];grind);rw[hsum] at e3;have e4:m hs.length*s c=0:=by grind
  have e5:m hs.length=0:=by
   rcases Rat.mul_eq_zero.1 e4 with h|h
   · exact h
   · exact absurd h h0
  intro i hi;by_cases he:i=hs.length
  · rw[he];exact e5
  ·
   have:=hk i (by omega);simp only[e5] at this;grind
 ·
  intro v hv;obtain⟨u,hu,rfl⟩:=List.mem_map.1 hv;obtain⟨r',hr',l',hl',hz'⟩:=hL u hu;refine⟨r',hr',fun t=>if t=hs.length then u c / s c else l' t - l t*(u c / s c),fun i=>?_,fun h hh=>?_⟩
  ·
   rw[hlen,hdot];rw[Qae hs.length _ _ (fun t=>l' t - l t*(u c / s c)) (fun t=>R t i) (fun t ht=>by rw[if_neg (by omega)]),Qar];simp only[lessBy,if_true];rw[hl' i,hl i];grind
  ·
   simp only[lessBy];rcases List.mem_append.1 hh with hh|hh
   · rw[hz' h hh,hz h hh];grind
   ·
    simp only[List.mem_singleton] at hh;subst hh;rw[Rat.div_def,Rat.mul_comm (u h),<-Rat.mul_assoc,Rat.mul_inv_cancel _ h0];grind
theorem SI.fit{M L:List Vec}{hs:List Nat}{n P b:Nat}(h:SI M hs L)(hn:n<=20)(hl:hs.length<=n)(hP:0<P)(hPb:P<=2 ^ b)(hM:∀r,r∈ M->∀j,Wh P b (r j))(hz:∀r,r∈ M->∀i,n<=i->r i=0):∀v,v∈ L->∀j,Fits (v j) (kE b):=by
 obtain⟨R,hR,hI,hL⟩:=h;have h1:=Qhq (a:=2 ^ b) (b:=b) rfl;have hK:(20+1)*(2 ^ b*(2*((20+1)*2 ^ b)) ^ 20)<2 ^ kE b:=Nat.lt_of_le_of_lt h1 (Nat.pow_lt_pow_right (by decide) (by simp only[kE];omega));refine MI.fit (W0:=n) (W:=20) (a:=2 ^ b) (M:=M) (D:=fun _=>P) (c:=hs.length) (L:=L) (S:=[]) (hs:=hs) (Nat.pow_pos (by decide)) (fun _=>⟨hP,hPb⟩) hM hK (by simp only[kE];omega) ⟨Nat.le_refl _,.inr ⟨by omega,hn⟩,fun v hv i hi=>?_,R,hR,hI,hL,fun s hs=>by cases hs⟩;obtain⟨r,hr,l,hl',_⟩:=hL v hv;rw[hl' i,hz r hr i hi,Qam _ _ _ (fun t ht=>by rw[hz _ (hR t ht) i hi,Rat.mul_zero])];grind
def rowsL(n:Nat)(M:Mx):List Vec:=(List.range n).map M
theorem rowsL_mem{n:Nat}{M:Mx}{v:Vec}:v∈ rowsL n M↔∃i,i<n/\M i=v:=by
 unfold rowsL;simp only[List.mem_map,List.mem_range]
theorem Qet{n:Nat}{M:Mx}{f:Vec->Vec}:(rowsL n M).map f=rowsL n (fun i=>f (M i)):=by
 unfold rowsL;rw[List.map_map];rfl
structure SgI (n:Nat) (M0 M:Mx) (hs:List Nat) (a b:Nat):Prop where
 sym:Sym n M
 lt:∀h,h∈ hs->h<n
 nd:hs.Nodup
 zero:∀h,h∈ hs->∀i,i<n->M i h=0
 si:SI (rowsL n M0) hs (rowsL n M)
 cnt:a+b=hs.length
 ge:b=0->∀x,form n M x<=form n M0 x
 le:a=0->∀x,form n M0 x<=form n M x
 ker:∀y:Vec,(∀i,i<n->dot n (M0 i) y=0)->∀i,i<n->dot n (M i) y=0
 few:0<n->∀y:Vec,(∀i,i<n->dot n (M0 i) y=0)->(∀i,i<n->y i≠0)->hs.length<n
theorem SgI.start{n:Nat}{M:Mx}(h:Sym n M):SgI n M M [] 0 0:=
 ⟨h,fun h hh=>(by cases hh),List.nodup_nil,fun h hh=>(by cases hh),SI.start _,rfl,fun _ _=>Rat.le_refl,fun _ _=>Rat.le_refl,fun _ h=>h,fun h _ _ _=>h⟩
theorem sw_of(u v q:Rat)(h:q≠0):u - q*(u / q)=0:=by
 rw[Rat.div_def,Rat.mul_comm u,<-Rat.mul_assoc,Rat.mul_inv_cancel _ h];grind
section
variable {n a b p q:Nat} {M0 M:Mx} {hs:List Nat}
theorem SgI.out(h:SgI n M0 M hs a b)(hp:p<n)(hz:∃i,i<n/\M i p≠0):¬p∈ hs:=fun hm=>by
 obtain⟨i,hi,h0⟩:=hz;exact h0 (h.zero p hm i hi)
theorem SgI.full{l:List Nat}(hd:l.Nodup)(hl:∀h,h∈ l->h<n):l.length<=n:=Qf3 l n hd hl
theorem SgI.one(h:SgI n M0 M hs a b)(hp:p<n)(h0:M p p≠0):SgI n M0 (sweep1 M p p) (hs++ [p]) (if 0<M p p then a+1 else a) (if M p p<0 then b+1 else b):=by
 have hout:=h.out hp ⟨p,hp,h0⟩;have hnd:(hs++ [p]).Nodup:=List.nodup_append.2 ⟨h.nd,by simp,fun x hx y hy=>by
  obtain rfl:=List.mem_singleton.1 hy;intro e;subst e
  exact hout hx⟩
 have hlt:∀k,k∈ hs++ [p]->k<n:=fun k hk=>by
  rcases List.mem_append.1 hk with hk|hk
  · exact h.lt k hk
  · obtain rfl:=List.mem_singleton.1 hk
    exact hp
 refine⟨Qmk h.sym hp,hlt,hnd,fun k hk i hi=>?_,?_,?_,fun hb x=>?_,fun ha x=>?_,fun y hy i hi=>?_,fun hn y hy hyn=>?_⟩
 ·
  show M i k - M p k*(M i p / M p p)=0
  rcases List.mem_append.1 hk with hk|hk
  · rw[h.zero k hk i hi,h.zero k hk p hp]
    grind
  · obtain rfl:=List.mem_singleton.1 hk
    exact sw_of _ 0 _ h0
 ·
  have:=h.si.step (c:=p) (s:=M p) (rowsL_mem.2 ⟨p,hp,rfl⟩) h0;rw[Qet] at this;exact this
 ·
  rw[List.length_append,List.length_singleton,<-h.cnt];rcases Rat.le_total (a:=0) (b:=M p p) with k|k
  · rw[if_pos (by grind),if_neg (by grind)]
    omega
  · rw[if_neg (by grind),if_pos (by grind)]
    omega
 ·
  have h1:¬M p p<0:=fun k=>by rw[if_pos k] at hb;omega
  rw[if_neg h1] at hb;have h2:=h.ge hb x;have h3:=Qmi (x:=dot n (M p) x) (q:=M p p) (by grind);rw[Qgr h.sym hp];grind
 ·
  have h1:¬0<M p p:=fun k=>by rw[if_pos k] at ha;omega
  rw[if_neg h1] at ha;have h2:=h.le ha x;have h3:=Qmj (x:=dot n (M p) x) (q:=M p p) (by grind);rw[Qgr h.sym hp];grind
 ·
  have e:dot n (sweep1 M p p i) y=dot n (M i) y - M i p / M p p*dot n (M p) y:=Qar n (M i) (M p) y (M i p / M p p);rw[e,h.ker y hy i hi,h.ker y hy p hp];grind
 ·
  refine bC fun hk=>?_
  have hfull:=Qf4 (hs++ [p]) n hnd hlt (by omega);have hd:=h.ker y hy p hp;rw[Qck n (M p) y p hp (fun c hc hne=>by
   have hm:=hfull c hc;rcases List.mem_append.1 hm with hm|hm
   · rw[h.zero c hm p hp,Rat.zero_mul]
   · exact absurd (List.mem_singleton.1 hm) hne)] at hd
  rcases Rat.mul_eq_zero.1 hd with k|k
  · exact h0 k
  · exact hyn p hp k
theorem Qmm{i:Nat}(hi:i<n)(hpq:M p q=M q p)(h1:M p p=0)(h2:M q q=0):sweep2 M p q i=lessBy p (lessBy q (M p) (M q)) (lessBy q (M p) (M i)):=by
 funext j;simp only[sweep2,lessBy,h1,h2,hpq];rw[Rat.div_def,Rat.div_def,Rat.div_def,Rat.div_def];grind
theorem SgI.two(h:SgI n M0 M hs a b)(hp:p<n)(hq:q<n)(h1:M p p=0)(h2:M q q=0)(h0:M p q≠0):SgI n M0 (sweep2 M p q) (hs++ [q]++ [p]) (a+1) (b+1):=by
 have hpq:=h.sym p q hp hq;have hne:p≠q:=fun e=>by subst e;exact h0 h1
 have hop:=h.out hp ⟨q,hq,by rw[<-hpq];exact h0⟩;have hoq:=h.out hq ⟨p,hp,h0⟩;have hnd:(hs++ [q]++ [p]).Nodup:=by
  rw[List.append_assoc];refine List.nodup_append.2 ⟨h.nd,by simp[Ne.symm hne],fun x hx y hy=>?_⟩;intro e;subst e;simp only[List.cons_append,List.nil_append,List.mem_cons,List.not_mem_nil,or_false] at hy;rcases hy with rfl|rfl
  · exact hoq hx
  · exact hop hx
 have hin:∀k,k∈ hs++ [q]++ [p]->k∈ hs∨k=q∨k=p:=fun k hk=>by
  rw[List.append_assoc] at hk;rcases List.mem_append.1 hk with hk|hk
  · exact .inl hk
  · simp only[List.cons_append,List.nil_append,List.mem_cons,List.not_mem_nil,or_false] at hk
    exact .inr hk
 have hlt:∀k,k∈ hs++ [q]++ [p]->k<n:=fun k hk=>by
  rcases hin k hk with hk|rfl|rfl
  · exact h.lt k hk
  · exact hq
  · exact hp
 refine⟨Qml h.sym hp hq,hlt,hnd,fun k hk i hi=>?_,?_,?_,fun hb x=>by omega,fun ha x=>by omega,fun y hy i hi=>?_,fun hn y hy hyn=>?_⟩
 ·
  show M i k - M p k*(M i q / M p q) - M q k*(M i p / M p q)=0
  rcases hin k hk with hk|rfl|rfl
  · rw[h.zero k hk i hi,h.zero k hk p hp,h.zero k hk q hq]
    grind
  · rw[h2,sw_of _ 0 _ h0]
    grind
  · rw[h1,<-hpq,Rat.div_def (M i k),Rat.mul_comm (M i k),<-Rat.mul_assoc,Rat.mul_inv_cancel _ h0]
    grind
 ·
  have s1:=h.si.step (c:=q) (s:=M p) (rowsL_mem.2 ⟨p,hp,rfl⟩) h0;rw[Qet] at s1;have hne2:lessBy q (M p) (M q) p≠0:=by
   simp only[lessBy,h1,<-hpq];rw[Rat.zero_mul];intro e;exact h0 (by grind)
  have s2:=s1.step (c:=p) (s:=lessBy q (M p) (M q)) (rowsL_mem.2 ⟨q,hq,rfl⟩) hne2;rw[Qet] at s2;have e:rowsL n (sweep2 M p q)=rowsL n (fun i=>lessBy p (lessBy q (M p) (M q)) (lessBy q (M p) (M i))):=by
   unfold rowsL;exact List.map_congr_left fun i hi=>Qmm (List.mem_range.1 hi) hpq h1 h2
  rw[e];exact s2
 · simp only[List.length_append,List.length_singleton,<-h.cnt]
   omega
 ·
  have e:dot n (sweep2 M p q i) y=dot n (fun j=>M i j - M p j*(M i q / M p q)) y - M i p / M p q*dot n (M q) y:=Qar n (fun j=>M i j - M p j*(M i q / M p q)) (M q) y (M i p / M p q);rw[e,Qar,h.ker y hy i hi,h.ker y hy p hp,h.ker y hy q hq];grind
 ·
  refine bC fun hk=>?_
  have hfull:=Qf4 (hs++ [q]++ [p]) n hnd hlt (by omega);have hd:=h.ker y hy p hp;rw[Qck n (M p) y q hq (fun c hc hne=>by
   rcases hin c (hfull c hc) with hm|hm|hm
   · rw[h.zero c hm p hp,Rat.zero_mul]
   · exact absurd hm hne
   · rw[hm,h1,Rat.zero_mul])] at hd
  rcases Rat.mul_eq_zero.1 hd with k|k
  · exact h0 k
  · exact hyn q hq k
theorem SgI.len(h:SgI n M0 M hs a b):hs.length<=n:=SgI.full h.nd h.lt
theorem SgI.done(h:SgI n M0 M hs a b)(hz:∀i c,i<n->c<n->M i c=0):(b=0->∀x,0<=form n M0 x)/\(a=0->∀x,form n M0 x<=0)/\(0<n->∀y:Vec,(∀i,i<n->dot n (M0 i) y=0)->(∀i,i<n->y i≠0)->a+b<n)/\a+b<=n:=by
 have hf:∀x,form n M x=0:=fun x=>Qam _ _ _ fun i hi=>by
  rw[Qam n (M i) x (fun c hc=>by rw[hz i c hi hc,Rat.zero_mul]),Rat.mul_zero]
 refine⟨fun hb x=>?_,fun ha x=>?_,fun hn y h1 h2=>?_,?_⟩
 ·
  have:=h.ge hb x;rw[hf] at this;exact this
 ·
  have:=h.le ha x;rw[hf] at this;exact this
 · rw[h.cnt]
   exact h.few hn y h1 h2
 · rw[h.cnt]
   exact h.len
end
def ek(A B:Nat->Nat)(k:Nat):Vec:=fun i=>(if A k=i then 1 else 0) - (if B k=i then 1 else 0)
def barM(m:Nat)(q:Vec)(A B:Nat->Nat):Mx:=fun i c=>dot m q (fun k=>ek A B k i*ek A B k c)
theorem barM_sym(m n:Nat)(q:Vec)(A B:Nat->Nat):Sym n (barM m q A B):=fun i c _ _=>Qae _ _ _ _ _ fun k _=>by grind
theorem Qgt:∀(n:Nat) (x:Vec) (a:Nat),a<n->dot n (fun i=>if a=i then 1 else 0) x=x a:=fun n x a ha=>by
 rw[Qck n _ x a ha (fun c hc hne=>by rw[if_neg (fun e=>hne e.symm),Rat.zero_mul]),if_pos rfl,Rat.one_mul]
theorem Qgu{n:Nat}{A B:Nat->Nat}{k:Nat}(x:Vec)(hA:A k<n)(hB:B k<n):dot n (ek A B k) x=x (A k) - x (B k):=by
 have h:=Qar n (fun i=>if A k=i then (1:Rat) else 0) (fun i=>if B k=i then (1:Rat) else 0) x 1;rw[Qgt n x _ hA,Qgt n x _ hB] at h;rw[show ek A B k=fun i=>(if A k=i then (1:Rat) else 0) - (if B k=i then (1:Rat) else 0)*1 from funext fun i=>by unfold ek;grind,h];grind
theorem barM_row{n:Nat}{q:Vec}{A B:Nat->Nat}(x:Vec)(i:Nat):∀m,(∀k,k<m->A k<n/\B k<n)->dot n (barM m q A B i) x=dot m q (fun k=>ek A B k i*(x (A k) - x (B k)))
 |0,_=>Qam _ _ _ fun c hc=>by show 0*x c=0;rw[Rat.zero_mul]
 |m+1,h=>by
  have e:barM (m+1) q A B i=fun c=>barM m q A B i c - ek A B m c*(-(q m*ek A B m i)):=funext fun c=>by
   show dot m q _+q m*(ek A B m i*ek A B m c)=dot m q _ - _
   grind
  rw[e,Qar,barM_row x i m (fun k hk=>h k (by omega)),Qgu x (h m (by omega)).1 (h m (by omega)).2]
  show _=dot m q _+q m*(ek A B m i*(x (A m) - x (B m)))
  grind
theorem barM_form{n:Nat}{q:Vec}{A B:Nat->Nat}(x:Vec):∀m,(∀k,k<m->A k<n/\B k<n)->form n (barM m q A B) x=dot m q (fun k=>(x (A k) - x (B k))*(x (A k) - x (B k)))
 |0,_=>Qam _ _ _ fun i hi=>by
  rw[Qam n _ x (fun c hc=>by show 0*x c=0;rw[Rat.zero_mul]),Rat.mul_zero]
 |m+1,h=>by
  have h1:=barM_form (n:=n) (q:=q) x m (fun k hk=>h k (by omega));have hm:=h m (by omega);unfold form at h1 ⊢;have e:∀i,dot n (barM (m+1) q A B i) x=dot n (barM m q A B i) x - ek A B m i*(-(q m*(x (A m) - x (B m)))):=fun i=>by
   rw[barM_row x i (m+1) h,barM_row x i m (fun k hk=>h k (by omega))]
   show dot m q _+q m*_=_
   grind
  rw[Qae n x _ x (fun i=>dot n (barM m q A B i) x - ek A B m i*(-(q m*(x (A m) - x (B m))))) (fun i _=>by rw[e]),Qes,h1,Qer n x (ek A B m),Qgu x hm.1 hm.2]
  show _=dot m q _+q m*((x (A m) - x (B m))*(x (A m) - x (B m)))
  grind
theorem Qmn{n:Nat}{A B:Nat->Nat}{k i:Nat}(hA:A k<n)(hB:B k<n)(hi:n<=i):ek A B k i=0:=by
 unfold ek;rw[if_neg (by omega),if_neg (by omega)];grind
theorem barM_zero{n m:Nat}{q:Vec}{A B:Nat->Nat}(h:∀k,k<m->A k<n/\B k<n)(i c:Nat)(hc:n<=c):barM m q A B i c=0:=Qam _ _ _ fun k hk=>by
 rw[Qmn (h k hk).1 (h k hk).2 hc,Rat.mul_zero,Rat.mul_zero]
theorem Qgv(A B:Nat->Nat)(k i:Nat):ek A B k i=0∨ek A B k i=1∨ek A B k i= -1:=by
 unfold ek
 split<;>split<;>grind
theorem barM_wh{P b:Nat}{q:Vec}{A B:Nat->Nat}(i c:Nat):∀m,(∀k,k<m->Wh P b (q k))->∃z:Int,barM m q A B i c*(P:Rat)=(z:Rat)/\z.natAbs<=m*2 ^ b
 |0,_=>⟨0,by show (0:Rat)*_=_;rw[Rat.zero_mul];rfl,by simp⟩
 |m+1,h=>by
  obtain⟨z,e,hz⟩:=barM_wh (q:=q) (A:=A) (B:=B) i c m (fun k hk=>h k (by omega));obtain⟨y,f,hy⟩:=h m (by omega);have key:∃s:Int,ek A B m i*ek A B m c=(s:Rat)/\s.natAbs<=1:=by
   rcases Qgv A B m i with h1|h1|h1<;>rcases Qgv A B m c with h2|h2|h2<;>rw[h1,h2]
   all_goals first|exact⟨0,by grind,by decide⟩|exact⟨1,by grind,by decide⟩|exact⟨-1,by grind,by decide⟩
  obtain⟨s,es,hs⟩:=key;refine⟨z+y*s,?_,?_⟩
  ·
   rw[Rat.intCast_add,Rat.intCast_mul,<-e,<-f,<-es]
   show (dot m q _+q m*(ek A B m i*ek A B m c))*(P:Rat)=_
   unfold barM;grind
  ·
   have h1:(y*s).natAbs<=2 ^ b*1:=by
    rw[Int.natAbs_mul];exact Nat.mul_le_mul hy hs
   have h2:=Int.natAbs_add_le z (y*s);rw[Nat.add_mul];omega
theorem tutte{m i:Nat}{q x:Vec}{A B:Nat->Nat}(hq:∀k,k<m->0<q k)(hne:∀k,k<m->A k≠B k)(h:dot m q (fun k=>ek A B k i*(x (A k) - x (B k)))=0)(s:Rat)(hs:s=1∨s= -1)(hl:∀k,k<m->A k=i∨B k=i->0<(x (A k+B k - i) - x i)*s):∀k,k<m->A k≠i/\B k≠i:=by
 have hterm:∀k,k<m->(A k=i∨B k=i->q k*(ek A B k i*(x (A k) - x (B k)))*s<0)/\(A k≠i/\B k≠i->q k*(ek A B k i*(x (A k) - x (B k)))=0):=fun k hk=>by
  refine⟨fun hab=>?_,fun hab=>?_⟩
  ·
   have h1:=hl k hk hab;have h2:=hq k hk;have h3:=Rat.mul_pos h2 h1;rcases hab with e|e
   ·
    have hb:B k≠i:=fun e2=>hne k hk (by rw[e,e2])
    have e3:A k+B k - i=B k:=by omega
    have e4:ek A B k i=1:=by unfold ek;rw[if_pos e,if_neg hb];grind
    rw[e3] at h3;rw[e4,e];grind
   ·
    have ha:A k≠i:=fun e2=>hne k hk (by rw[e,e2])
    have e3:A k+B k - i=A k:=by omega
    have e4:ek A B k i= -1:=by unfold ek;rw[if_neg ha,if_pos e];grind
    rw[e3] at h3;rw[e4,e];grind
  ·
   have e4:ek A B k i=0:=by unfold ek;rw[if_neg hab.1,if_neg hab.2];grind
   rw[e4];grind
 have hsum:∀l,l<=m->dot l q (fun k=>ek A B k i*(x (A k) - x (B k)))*s<=0/\((∃k,k<l/\(A k=i∨B k=i))->dot l q (fun k=>ek A B k i*(x (A k) - x (B k)))*s<0):=fun l=>by
  induction l with
  |zero=>exact fun _=>⟨by show (0:Rat)*s<=0;rw[Rat.zero_mul];exact Rat.le_refl,fun ⟨k,hk,_⟩=>by omega⟩
  |succ l ih=>
   intro hl';obtain⟨i1,i2⟩:=ih (by omega);obtain⟨t1,t2⟩:=hterm l (by omega);simp only[dot];by_cases hab:A l=i∨B l=i
   · have:=t1 hab
     exact⟨by grind,fun _=>by grind⟩
   ·
    have h3:=t2 ⟨fun e=>hab (.inl e),fun e=>hab (.inr e)⟩;rw[h3];refine⟨by grind,fun ⟨k,hk,hk2⟩=>?_⟩;have hkl:k<l:=by
     rcases Nat.lt_or_ge k l with h|h
     · exact h
     ·
      have:k=l:=by omega
      subst this;exact absurd hk2 hab
    have:=i2 ⟨k,hkl,hk2⟩;grind
 intro k hk;refine bC fun hn=>?_
 have hex:∃k,k<m/\(A k=i∨B k=i):=⟨k,hk,by
  by_cases h1:A k=i
  · exact .inl h1
  ·
   by_cases h2:B k=i
   · exact .inr h2
   · exact absurd ⟨h1,h2⟩ hn⟩
 have:=(hsum m lZ).2 hex;rw[h,Rat.zero_mul] at this;exact absurd this (by grind)
end Cab
namespace Cab
def Lies(n:Nat)(F:Mx)(fr:Nat->Bool)(x ld X:Vec):Prop:=(∀i,i<n->fr i=false->X i=x i)/\∀i,i<n->fr i=true->dot n (F i) X=ld i
def x0V(fr:Nat->Bool)(x:Vec):Vec:=fun i=>if fr i=true then 0 else x i
def exV(at_:List Nat)(fr:Nat->Bool)(x y:Vec):Vec:=fun i=>if fr i=true then y (at_.idxOf i) else x i
def sumsV(at_:List Nat)(n:Nat)(F:Mx)(fr:Nat->Bool)(x ld:Vec):Vec:=fun i=>ld (at_.getD i 0) - dot n (F (at_.getD i 0)) (x0V fr x)
def partR(at_:List Nat)(F:Mx):List Vec:=(List.range at_.length).map (fun i k=>if k<at_.length then F (at_.getD i 0) (at_.getD k 0) else 0)
def partS(at_:List Nat)(n:Nat)(F:Mx)(fr:Nat->Bool)(x ld:Vec):List Rat:=(List.range at_.length).map (sumsV at_ n F fr x ld)
variable {n:Nat} {F:Mx} {fr:Nat->Bool} {x ld X:Vec} {at_:List Nat}
theorem Qmr(hat:at_=Giv.frs fr n)(h:∀i,i<n->fr i=false->X i=x i)(r:Vec):dot n r X=dot n r (x0V fr x)+dot at_.length (fun j=>r (at_.getD j 0)) (fun j=>X (at_.getD j 0)):=by
 rw[hat,<-Giv.dot_frs fr r X n];have e:dot n r X=dot n r (fun i=>x0V fr x i - (fun w=>if fr w=true then X w else 0) i*(-1)):=by
  refine Qae _ _ _ _ _ (fun i hi=>?_);unfold x0V;cases hf:fr i with
  |false=>rw[h i hi hf];simp;grind
  |true=>simp;grind
 rw[e,Qes];grind
theorem at_get{j:Nat}(hat:at_=Giv.frs fr n)(hj:j<at_.length):at_.getD j 0<n/\fr (at_.getD j 0)=true:=by
 have:at_.getD j 0∈ at_:=by rw[List.getD_eq_getElem?_getD,gE hj];exact List.getElem_mem _
 rw[hat] at this;rw[hat];exact Giv.frs_mem.1 this
theorem at_nodup(hat:at_=Giv.frs fr n):at_.Nodup:=by
 rw[hat];unfold Giv.frs;exact List.Nodup.sublist List.filter_sublist List.nodup_range
theorem Qc4{i:Nat}(hi:i<at_.length):(partR at_ F)[i]?=some (fun k=>if k<at_.length then F (at_.getD i 0) (at_.getD k 0) else 0):=by
 unfold partR;rw[List.getElem?_map,List.getElem?_range hi];rfl
theorem Qc5{i:Nat}(hi:i<at_.length):(partS at_ n F fr x ld)[i]?=some (sumsV at_ n F fr x ld i):=by
 unfold partS;rw[List.getElem?_map,List.getElem?_range hi];rfl
theorem lies_sol(hat:at_=Giv.frs fr n)(h:∀i,i<n->fr i=false->X i=x i):Sol at_.length (partR at_ F) (partS at_ n F fr x ld) (fun j=>X (at_.getD j 0))↔Lies n F fr x ld X:=by
 have heq:∀i,i<at_.length->(dot at_.length (fun k=>if k<at_.length then F (at_.getD i 0) (at_.getD k 0) else 0) (fun j=>X (at_.getD j 0))=sumsV at_ n F fr x ld i↔dot n (F (at_.getD i 0)) X=ld (at_.getD i 0)):=fun i hi=>by
  rw[Qmr hat h (F (at_.getD i 0)),Qae at_.length (fun k=>if k<at_.length then F (at_.getD i 0) (at_.getD k 0) else 0) _ (fun k=>F (at_.getD i 0) (at_.getD k 0)) (fun j=>X (at_.getD j 0)) (fun j hj=>by rw[if_pos hj])];unfold sumsV;generalize dot at_.length _ _=d;constructor<;>intro h<;>grind
 constructor
 ·
  intro hs;refine⟨h,fun w hw hf=>?_⟩;have hmem:w∈ at_:=by rw[hat];exact Giv.frs_mem.2 ⟨hw,hf⟩
  obtain⟨i,hi,e⟩:=List.getElem_of_mem hmem;have h1:=(heq i hi).1 (hs i _ _ (Qc4 hi) (Qc5 hi));rw[show at_.getD i 0=w by rw[List.getD_eq_getElem?_getD,gE hi,e];rfl] at h1;exact h1
 ·
  intro hl i r v hr hv;have hi:i<at_.length:=by
   have:=(gZ hr).1
   simpa [partR] using this
  rw[Qc4 hi] at hr;rw[Qc5 hi] at hv;rw[<-Option.some.inj hr,<-Option.some.inj hv];exact(heq i hi).2 (hl.2 _ (at_get hat hi).1 (at_get hat hi).2)
theorem exV_at(hat:at_=Giv.frs fr n)(y:Vec){j:Nat}(hj:j<at_.length):exV at_ fr x y (at_.getD j 0)=y j:=by
 unfold exV;rw[if_pos (at_get hat hj).2,List.getD_eq_getElem?_getD,gE hj]
 show y (at_.idxOf at_[j])=y j
 rw[(at_nodup hat).idxOf_getElem]
theorem Qms(y:Vec):∀i,i<n->fr i=false->exV at_ fr x y i=x i:=fun i hi hf=>by
 unfold exV;rw[hf];rfl
theorem sol_lies(hat:at_=Giv.frs fr n){y:Vec}(h:Sol at_.length (partR at_ F) (partS at_ n F fr x ld) y):Lies n F fr x ld (exV at_ fr x y):=by
 rw[<-lies_sol hat (Qms y)];intro i r v hr hv;rw[<-h i r v hr hv];exact Qae _ _ _ _ _ (fun j hj=>by rw[exV_at hat y hj])
theorem part_wide{P b:Nat}(hat:at_=Giv.frs fr n)(hF:∀i c,i<n->c<n->Wh P b (F i c))(hs:∀i,i<at_.length->Wh P b (sumsV at_ n F fr x ld i)):∀r,r∈ List.zipWith (wider at_.length) (partR at_ F) (partS at_ n F fr x ld)->∀j,Wh P b (r j):=fun r hr j=>by
 obtain⟨i,hi⟩:=List.getElem?_of_mem hr;rw[List.getElem?_zipWith] at hi;by_cases hlt:i<at_.length
 ·
  rw[Qc4 hlt,Qc5 hlt] at hi;obtain rfl:=Option.some.inj hi;simp only[wider]
  split
  · exact hs i hlt
  ·
   split
   · rename_i h
     exact hF _ _ (at_get hat hlt).1 (at_get hat h).1
   · exact Wh.zero _ _
 · rw[show (partR at_ F)[i]?=none from List.getElem?_eq_none (by simp[partR];omega)] at hi
   cases hi
theorem part_high{at_:List Nat}:∀r,r∈ List.zipWith (wider at_.length) (partR at_ F) (partS at_ n F fr x ld)->∀i,at_.length+1<=i->r i=0:=fun r hr j hj=>by
 obtain⟨i,hi⟩:=List.getElem?_of_mem hr;rw[List.getElem?_zipWith] at hi;by_cases hlt:i<at_.length
 ·
  rw[Qc4 hlt,Qc5 hlt] at hi;obtain rfl:=Option.some.inj hi;simp only[wider];rw[if_neg (by omega),if_neg (by omega)]
 · rw[show (partR at_ F)[i]?=none from List.getElem?_eq_none (by simp[partR];omega)] at hi
   cases hi
theorem Wh.mul'{P Q a b:Nat}{p q:Rat}(h:Wh P a p)(k:Wh Q b q):Wh (P*Q) (a+b) (p*q):=by
 obtain⟨y,e,hy⟩:=h;obtain⟨z,f,hz⟩:=k;refine⟨y*z,?_,?_⟩
 · rw[Rat.intCast_mul,<-e,<-f,Rat.natCast_mul]
   grind
 · rw[Int.natAbs_mul,Nat.pow_add]
   exact Nat.mul_le_mul hy hz
theorem Wh.over{P Q a c:Nat}{p:Rat}(h:Wh P a p)(hQ:Q<=2 ^ c):Wh (P*Q) (a+c) p:=by
 obtain⟨y,e,hy⟩:=h;refine⟨y*(Q:Int),?_,?_⟩
 · rw[Rat.intCast_mul,<-e,Rat.natCast_mul,Rat.intCast_natCast]
   grind
 · rw[Int.natAbs_mul,Int.natAbs_natCast,Nat.pow_add]
   exact Nat.mul_le_mul hy hQ
theorem Wh.dot{P Q a b:Nat}:∀(n:Nat) (r x:Vec),(∀i,i<n->Wh P a (r i))->(∀i,i<n->Wh Q b (x i))->∃z:Int,Go.Proofs.YtfpcipgoedifaaaGreatDoor.dot n r x*((P*Q:Nat):Rat)=(z:Rat)/\z.natAbs<=n*2 ^ (a+b)
 |0,_,_,_,_=>⟨0,by show (0:Rat)*_=_;rw[Rat.zero_mul];rfl,by simp⟩
 |n+1,r,x,hr,hx=>by
  obtain⟨z,e,hz⟩:=Wh.dot n r x (fun i hi=>hr i (by omega)) (fun i hi=>hx i (by omega));obtain⟨y,f,hy⟩:=Wh.mul' (hr n (by omega)) (hx n (by omega));refine⟨z+y,?_,?_⟩
  ·
   rw[Rat.intCast_add,<-e,<-f]
   show (Go.Proofs.YtfpcipgoedifaaaGreatDoor.dot n r x+r n*x n)*_=_
   grind
  ·
   have:=Int.natAbs_add_le z y;rw[Nat.add_mul];omega
theorem Wh.sum{P a n:Nat}{q:Rat}(h:∃z:Int,q*(P:Rat)=(z:Rat)/\z.natAbs<=n*2 ^ a)(hn:n<=16):Wh P (a+4) q:=by
 obtain⟨z,e,hz⟩:=h;refine⟨z,e,Nat.le_trans hz ?_⟩;rw[Nat.pow_add,Nat.mul_comm];exact Nat.mul_le_mul_left _ (by omega)
theorem sums_wh{P Q a b:Nat}(hn:n<=10)(hat:at_=Giv.frs fr n)(hF:∀i k,i<n->k<n->Wh P a (F i k))(hx:∀i,i<n->Wh Q b (x i))(hl:∀i,i<n->Wh Q b (ld i))(hP:P<=2 ^ a):∀i,i<at_.length->Wh (P*Q) (a+b+5) (sumsV at_ n F fr x ld i):=fun i hi=>by
 have h1:Wh (Q*P) (b+a) (ld (at_.getD i 0)):=Wh.over (hl _ (at_get hat hi).1) hP;have h2:=Wh.sum (Wh.dot (Q:=Q) (b:=b) n (F (at_.getD i 0)) (x0V fr x) (fun k hk=>hF _ k (at_get hat hi).1 hk) (fun k hk=>by
  unfold x0V
  split
  · exact Wh.zero _ _
  · exact hx k hk)) (by omega)
 rw[Nat.mul_comm Q P] at h1;exact(h1.mono (by omega)).sub h2
end Cab
open Go.RowKit
structure SqV (w:World) (a:Option Addr) (cap n K:Nat) (M:Cab.Mx) (rs:List MR):Prop where
 mat:QMat w a cap n rs
 len:rs.length=n
 val:∀(i:Nat) (r:MR),rs[i]?=some r->∀(c:Nat) (t:FE),r.ts[c]?=some t->t.q=M i c/\t.k<=K
theorem SqV.below{w w':World}{a:Option Addr}{cap n K:Nat}{M:Cab.Mx}{rs:List MR}(h:SqV w a cap n K M rs)(hb:Below w.heap.size w w'):SqV w' a cap n K M rs:=⟨h.mat.below hb,h.len,h.val⟩
theorem SqV.ff{w:World}{a:Option Addr}{cap n K i c:Nat}{M:Cab.Mx}{rs:List MR}{r:MR}{e:FE}(h:SqV w a cap n K M rs)(hr:rs[i]?=some r)(he:r.ts[c]?=some e):FF (M i c) K (.agg #[e.x,e.y,e.z]) w:=by
 have hv:=h.val i r hr c e he;rw[<-hv.1];exact FF.mono ((h.mat.get hr).1.get he) hv.2
def PivSays(n:Nat)(M:Cab.Mx)(p c:Int):Prop:=
 (p= -1/\c= -1/\∀i c,i<n->c<=i->M i c=0)∨(∃k:Nat,k<n/\p=k/\c=k/\M k k≠0)∨
 ∃i k:Nat,k<i/\i<n/\p=i/\c=k/\M i k≠0/\∀j,j<n->M j j=0
def DgSays(k:Nat)(M:Cab.Mx)(v:Int):Prop:=(v= -1/\∀i,i<k->M i i=0)∨∃j:Nat,j<k/\v=j/\M j j≠0
set_option maxRecDepth 100000 in
set_option maxHeartbeats 4000000 in
theorem Qmo(a:Option Addr)(cap n K:Nat)(M:Cab.Mx)(rs:List MR)(w:World)(h:SqV w a cap n K M rs)(hn:n<=1000):
 Calls Tryz.prog 76 #[.slice a n cap] w fun e w'=>(∃p c,e=.returned (.tuple #[.int .i64 p,.int .i64 c])/\PivSays n M p c)/\Below w.heap.size w w':=by
 have HH:=Hi h;clear h;go_enter Tryz.func76,Tryz.ntmps76;go_wp2_with fail;go_loopw [2,3,4,13] (fun u u' f i wr=>∃(k m:Nat) (v:Int),k<=n/\i=.int .i64 k/\u=.int .i64 v/\u'=.int .i64 v/\f=.int .i64 m/\m<=1000/\DgSays k M v/\Below w.heap.size w wr) (fun _ _ _ i _=>n - (intOf i).toNat)
 case atStart=>exact⟨0,0,-1,by omega,rfl,rfl,rfl,rfl,by omega,.inl ⟨rfl,fun i hi=>by omega⟩,Below.refl _ _⟩
 case round=>
  obtain⟨k,m,v,hk,rfl,rfl,rfl,rfl,hm,hp,hb⟩:=hrel;have HB:=Hi hb;have HP:=Hi hp;clear hb hp;by_cases hlt:k<n
  ·
   obtain⟨r,hr⟩:∃r,rs[k]?=some r:=⟨rs[k]'(by have:=HH.out.len;omega),gE _⟩;have hsv:=HH.out.below HB.out;obtain⟨fb,off,rfl,hfb,d⟩:=hsv.mat.at hr;obtain⟨hq,hrw⟩:=hsv.mat.get hr;obtain⟨e,he⟩:∃e,r.ts[k]?=some e:=⟨r.ts[k],gE (by omega)⟩;obtain⟨rb,ro,hra,hrb,d0,d1,d2⟩:=hq.at he;have HF:=Hi (hsv.ff hr he);have HQ:=Hi hq;have q1:((k:Int)<(n:Int)):=by omega
   have hf:=Qf9 r.ts;rw[hra,hrw] at d;have HFI:=Hi (fun (u:World) (hu:Below wr.heap.size wr u)=>Qkw r.a r.cap r.ts u (hq.below hu) (by omega));rw[hra,hrw] at HFI;obtain⟨g,hg⟩:=nm (filledOf r.ts);rw[hg] at HFI hf;have hg1:g<=1000:=by omega
   have D0:=Hi d0;have D1:=Hi d1;have D2:=Hi d2;have HRB:=Hi hrb;clear hr he hq hg d0 d1 d2 hsv;go_wp2_with fail;go_fit (HFI.out _ bR);rintro e' w4 ⟨rfl,hb4⟩;have HB4:=Hi (HB.out.trans (hb4.mono HB.out.size));have HF4:=Hi (HF.out.below hb4);have d0:=ce hb4 HRB.out D0.out;have d1:=ce hb4 HRB.out D1.out;have d2:=ce hb4 HRB.out D2.out;clear hb4 d HFI;go_wp2_with fail;clear d0 d1 d2;refine Makes.use HF4.out.isZero ?_;rintro _ w5 hb5 rfl;have HB5:=Hi (HB4.out.trans (hb5.mono HB4.out.size));clear hb5;by_cases h0:M k k=0
   ·
    rw[decide_eq_true h0];have HZ:Hid (DgSays (k+1) M v):=Hi (by
     rcases HP.out with ⟨h1,h2⟩|⟨j,h1,h2,h3⟩
     ·
      refine .inl ⟨h1,fun i hi=>?_⟩;rcases Nat.lt_or_ge i k with h|h
      · exact h2 i h
      · rw[show i=k by omega];exact h0
     · exact .inr ⟨j,by omega,h2,h3⟩)
    clear h0;go_wp2;go_roundw
    case measure=>simp[intOf];omega
    case rel=>exact⟨k+1,m,v,by omega,by go_num,rfl,rfl,rfl,hm,HZ.out,HB5.out⟩
   ·
    rw[decide_eq_false h0];have HZ:Hid (DgSays (k+1) M (k:Nat)):=Hi (.inr ⟨k,by omega,rfl,h0⟩);clear h0;by_cases hv:v<0
    ·
     clear HP;go_wp2;go_roundw
     case measure=>simp[intOf];omega
     case rel=>exact⟨k+1,g,k,by omega,by go_num,rfl,rfl,rfl,hg1,HZ.out,HB5.out⟩
    ·
     obtain⟨j,rfl⟩:∃j:Nat,v=j:=⟨v.toNat,by omega⟩;clear hv;by_cases hgm:(g:Int)<(m:Int)
     ·
      go_wp2;go_roundw
      case measure=>simp[intOf];omega
      case rel=>exact⟨k+1,g,k,by omega,by go_num,rfl,rfl,rfl,hg1,HZ.out,HB5.out⟩
     ·
      have HZ':Hid (DgSays (k+1) M (j:Nat)):=Hi (by
       rcases HP.out with ⟨h1,h2⟩|⟨i,h1,h2,h3⟩
       · omega
       · exact .inr ⟨i,by omega,h2,h3⟩)
      go_wp2;go_roundw
      case measure=>simp[intOf];omega
      case rel=>exact⟨k+1,m,j,by omega,by go_num,rfl,rfl,rfl,hm,HZ'.out,HB5.out⟩
  ·
   obtain rfl:k=n:=by omega
   by_cases hv:v<0
   ·
    have HD:Hid (v= -1/\∀i,i<k->M i i=0):=Hi (by
     rcases HP.out with h|⟨j,_,h2,_⟩
     · exact h
     · omega)
    have hv1:=HD.out.1;subst hv1;clear HP;go_wp2_with fail;go_loopw [45] (fun i wr=>∃(j:Nat),j<=k/\i=.int .i64 j/\(∀i c,i<j->c<i->M i c=0)/\Below w.heap.size w wr) (fun i _=>k - (intOf i).toNat)
    case atStart=>exact⟨0,by omega,rfl,fun i c hi=>by omega,HB.out⟩
    case round=>
     obtain⟨j,hj,rfl,hz,hb⟩:=hrel;have HBJ:=Hi hb;have HZ:=Hi hz;clear hb hz;by_cases hjl:j<k
     ·
      obtain⟨r,hr⟩:∃r,rs[j]?=some r:=⟨rs[j]'(by have:=HH.out.len;omega),gE _⟩;obtain⟨fb,off,rfl,hfb,d⟩:=(HH.out.below HBJ.out).mat.at hr;have q1:((j:Int)<(k:Int)):=by omega
      obtain⟨hqr,hrl⟩:=(HH.out.below HBJ.out).mat.get hr;obtain⟨z,hz0⟩:∃e,r.ts[0]?=some e:=⟨r.ts[0]'(by omega),gE _⟩;obtain⟨rb,ro,hra,_⟩:=hqr.at hz0;rw[hra,hrl] at d;have HRA:=Hi hra;have HRL:=Hi hrl;clear hqr hz0 hra hrl;have HR:=Hi hr;clear hr;go_wp2_with fail;go_loopw [51] (fun i wi=>∃(c:Nat),c<=j/\i=.int .i64 c/\(∀x,x<c->M j x=0)/\Below w.heap.size w wi) (fun i _=>j - (intOf i).toNat)
      case atStart=>exact⟨0,by omega,rfl,fun i hi=>by omega,HBJ.out⟩
      case round=>
       obtain⟨c,hc,rfl,hz,hb⟩:=hrel;have HBC:=Hi hb;have HZC:=Hi hz;clear hb hz;by_cases hcl:c<j
       ·
        have hsv:=HH.out.below HBC.out;obtain⟨hq,hrw⟩:=hsv.mat.get HR.out;obtain⟨e,he⟩:∃e,r.ts[c]?=some e:=⟨r.ts[c]'(by omega),gE _⟩;obtain⟨rb',ro',hra,hrb,d0,d1,d2⟩:=hq.at he;rw[HRA.out] at hra;cases hra;have HF:=Hi (hsv.ff HR.out he);have q2:((c:Int)<(j:Int)):=by omega
        have q3:((c:Int)<(k:Int)):=by omega
        clear hq he hsv;go_wp2_with fail;clear d0 d1 d2;refine Makes.use HF.out.isZero ?_;rintro _ w5 hb5 rfl;have HB5:=Hi (HBC.out.trans (hb5.mono HBC.out.size));clear hb5;by_cases h0:M j c=0
        ·
         rw[decide_eq_true h0];have HZ':Hid (∀x,x<c+1->M j x=0):=Hi (fun x hx=>by
          rcases Nat.lt_or_ge x c with h|h
          · exact HZC.out x h
          · rw[show x=c by omega];exact h0)
         clear h0;go_wp2;go_roundw
         case measure=>simp[intOf];omega
         case rel=>exact⟨c+1,by omega,by go_num,HZ'.out,HB5.out⟩
        ·
         rw[decide_eq_false h0];have HN:=Hi h0;clear h0;go_wp2;go_ret2;exact⟨⟨_,_,rfl,.inr (.inr ⟨j,c,hcl,hjl,rfl,rfl,HN.out,HD.out.2⟩)⟩,HB5.out⟩
       ·
        obtain rfl:c=j:=by omega
        have HZ':Hid (∀i x,i<c+1->x<i->M i x=0):=Hi (fun i x hi hx=>by
         rcases Nat.lt_or_ge i c with h|h
         · exact HZ.out i x h hx
         · obtain rfl:i=c:=by omega
           exact HZC.out x hx)
        go_wp2;go_roundw
        case measure=>simp[intOf];omega
        case rel=>exact⟨c+1,by omega,by go_num,HZ'.out,HBC.out⟩
     ·
      obtain rfl:j=k:=by omega
      go_wp2;go_ret2;exact⟨⟨_,_,rfl,.inl ⟨rfl,rfl,fun i c hi hc=>by
       rcases Nat.lt_or_ge c i with h|h
       · exact HZ.out i c hi h
       · rw[show c=i by omega];exact HD.out.2 i hi⟩⟩,HBJ.out⟩
   ·
    obtain⟨j,rfl⟩:∃j:Nat,v=j:=⟨v.toNat,by omega⟩;go_wp2;go_ret2;exact⟨⟨_,_,rfl,.inr (.inl (by
     rcases HP.out with ⟨h1,_⟩|⟨i,h1,h2,h3⟩
     · omega
     · obtain rfl:i=j:=by omega
       exact⟨i,h1,rfl,rfl,h3⟩))⟩,HB.out⟩
end Go.Proofs.YtfpcipgoedifaaaGreatDoor
