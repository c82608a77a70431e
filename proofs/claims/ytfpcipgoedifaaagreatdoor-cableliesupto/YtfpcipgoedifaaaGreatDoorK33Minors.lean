/- Elimination with sizes: no Go in it. Every row that elimination makes is an original row less a combination of the rows that were picked, and vanishes at the picked columns: that tells it whole; so its numbers are quotients of small whole numbers (Siegel). -/
import Derived.Test.YtfpcipgoedifaaaGreatDoorK32RowsO
namespace Go.Proofs.YtfpcipgoedifaaaGreatDoor
set_option linter.unusedVariables false
set_option linter.unusedSimpArgs false
theorem Qdx:∀(W:Nat) (r s x:Vec),dot W (fun i=>r i+s i) x=dot W r x+dot W s x
 |0,_,_,_=>by simp only[dot];grind
 |W+1,r,s,x=>by simp only[dot,Qdx W r s x];grind
theorem Qcl:∀(W:Nat) (r x:Vec) (q:Rat),dot W (fun i=>r i*q) x=dot W r x*q
 |0,_,_,_=>by simp[dot]
 |W+1,r,x,q=>by simp only[dot,Qcl W r x q];grind
def Span(k:Nat)(R:Nat->Vec)(v:Vec):Prop:=∃l:Vec,∀j,v j=dot k l (fun i=>R i j)
def MI(W N:Nat)(M:List Vec)(c:Nat)(L S:List Vec)(hs:List Nat):Prop:=
 hs.length<=c/\(hs.length+L.length<=N∨hs.length<=N/\W<=N)/\(∀v,v∈ L->∀i,W<=i->v i=0)/\
 ∃R:Nat->Vec,(∀i,i<hs.length->R i∈ M)/\
  (∀m:Vec,(∀h,h∈ hs->dot hs.length m (fun i=>R i h)=0)->∀i,i<hs.length->m i=0)/\
  (∀v,v∈ L->∃r,r∈ M/\∃l:Vec,(∀j,v j=r j - dot hs.length l (fun i=>R i j))/\∀h,h∈ hs->v h=0)/\∀s,s∈ S->Span hs.length R s
theorem MI.start(W N:Nat)(M:List Vec)(hM:∀v,v∈ M->∀i,W<=i->v i=0)(hN:M.length<=N∨W<=N):MI W N M 0 M [] []:=
 ⟨Nat.le_refl _,by simp only[List.length_nil];omega,hM,fun _ _=>0,fun i hi=>absurd hi (by simp),fun m _ i hi=>absurd hi (by simp),fun v hv=>⟨v,hv,fun _=>0,fun j=>by simp[dot,Rat.sub_eq_add_neg,Rat.add_zero],fun h hh=>by cases hh⟩,fun s hs=>by cases hs⟩
theorem MI.skip{W N:Nat}{M:List Vec}{c:Nat}{L S:List Vec}{hs:List Nat}(h:MI W N M c L S hs):MI W N M (c+1) L S hs:=by
 obtain⟨h1,h2,h3,h4⟩:=h;exact⟨by omega,h2,h3,h4⟩
theorem MI.step{W N:Nat}{M:List Vec}{c j:Nat}{L S:List Vec}{hs:List Nat}{s:Vec}(h:MI W N M c L S hs)(hj:L[j]?=some s)(h0:s c≠0):
 MI W N M (c+1) ((L.eraseIdx j).map (lessBy c s)) (S++ [s]) (hs++ [c]):=by
 obtain⟨h1,h2,h3,R,hR,hI,hL,hS⟩:=h;have hsL:s∈ L:=mO hj;have hjl:j<L.length:=(gZ hj).1;have hll:((L.eraseIdx j).map (lessBy c s)).length=L.length - 1:=by rw[List.length_map,List.length_eraseIdx_of_lt hjl]
 obtain⟨r,hr,l,hl,hz⟩:=hL s hsL;have hlen:(hs++ [c]).length=hs.length+1:=by simp
 have hcW:c<W:=bC fun hn=>h0 (h3 s hsL c (by omega))
 have hdot:∀(m:Vec) (i:Nat),dot (hs.length+1) m (fun t=>(if t=hs.length then r else R t) i)=dot hs.length m (fun t=>R t i)+m hs.length*r i:=fun m i=>by
  simp only[dot];rw[Qae hs.length m _ m (fun t=>R t i) (fun t ht=>by rw[if_neg (by omega)])];simp
 refine⟨by rw[hlen];omega,by rw[hlen,hll];omega,?_,fun t=>if t=hs.length then r else R t,?_,?_,?_,?_⟩
 ·
  intro v hv i hi;obtain⟨u,hu,rfl⟩:=List.mem_map.1 hv;have hu':=List.mem_of_mem_eraseIdx hu;simp only[lessBy];rw[h3 u hu' i hi,h3 s hsL i hi];grind
 ·
  intro i hi;rw[hlen] at hi;by_cases he:i=hs.length
  · show (if i=hs.length then r else R i)∈ M
    rw[if_pos he];exact hr
  · show (if i=hs.length then r else R i)∈ M
    rw[if_neg he];exact hR i (by omega)
 ·
  intro m hm;rw[hlen] at hm ⊢;have hm':∀h,h∈ hs++ [c]->dot hs.length m (fun t=>R t h)+m hs.length*r h=0:=fun h hh=>by rw[<-hdot];exact hm h hh
  have hz':∀i,r i=s i+dot hs.length l (fun t=>R t i):=fun i=>by rw[hl i];grind
  have hsum:∀h,dot hs.length (fun t=>m t+l t*m hs.length) (fun t=>R t h)=dot hs.length m (fun t=>R t h)+dot hs.length l (fun t=>R t h)*m hs.length:=fun h=>by rw[Qdx,Qcl]
  have hk:=hI (fun t=>m t+l t*m hs.length) (fun h hh=>by
   rw[hsum];have e1:=hm' h (by simp[hh]);rw[hz' h,hz h hh] at e1
   grind)
  have e2:=hm' c (by simp);rw[hz' c] at e2;have e3:dot hs.length (fun t=>m t+l t*m hs.length) (fun t=>R t c)=0:=Qam _ _ _ (fun t ht=>by rw[hk t ht];grind);rw[hsum] at e3;have e4:m hs.length*s c=0:=by grind
  have e5:m hs.length=0:=by
   rcases Rat.mul_eq_zero.1 e4 with h|h
   · exact h
   · exact absurd h h0
  intro i hi;by_cases he:i=hs.length
  · rw[he];exact e5
  ·
   have:=hk i (by omega);simp only[e5] at this;grind
 ·
  intro v hv;obtain⟨u,hu,rfl⟩:=List.mem_map.1 hv;have hu':=List.mem_of_mem_eraseIdx hu;obtain⟨r',hr',l',hl',hz'⟩:=hL u hu';refine⟨r',hr',fun t=>if t=hs.length then u c / s c else l' t - l t*(u c / s c),fun i=>?_,fun h hh=>?_⟩
  ·
   rw[hlen,hdot];rw[Qae hs.length _ _ (fun t=>l' t - l t*(u c / s c)) (fun t=>R t i) (fun t ht=>by rw[if_neg (by omega)]),Qar];simp only[lessBy,if_true];rw[hl' i,hl i];grind
  ·
   simp only[lessBy];rcases List.mem_append.1 hh with hh|hh
   · rw[hz' h hh,hz h hh];grind
   ·
    simp only[List.mem_singleton] at hh;subst hh;rw[Rat.div_def,Rat.mul_comm (u h),<-Rat.mul_assoc,Rat.mul_inv_cancel _ h0];grind
 ·
  intro v hv;rw[hlen];rcases List.mem_append.1 hv with hv|hv
  ·
   obtain⟨l0,e0⟩:=hS v hv;refine⟨fun t=>if t=hs.length then 0 else l0 t,fun i=>?_⟩;rw[hdot,Qae hs.length _ _ l0 (fun t=>R t i) (fun t ht=>by rw[if_neg (by omega)]),e0 i];simp only[if_true];grind
  ·
   simp only[List.mem_singleton] at hv;subst hv;refine⟨fun t=>if t=hs.length then 1 else l t*(-1),fun i=>?_⟩;rw[hdot,Qae hs.length _ _ (fun t=>l t*(-1)) (fun t=>R t i) (fun t ht=>by rw[if_neg (by omega)]),Qcl,hl i];simp only[if_true];grind
theorem Qfl:∀(n:Nat) (u x:Nat->Int),((Sg.isum n (fun j=>u j*x j):Int):Rat)=dot n (fun j=>(x j:Rat)) (fun j=>(u j:Rat))
 |0,_,_=>by simp[Sg.isum,dot]
 |n+1,u,x=>by
  simp only[Sg.isum,dot];rw[Rat.intCast_add,Rat.intCast_mul,Qfl n u x];grind
theorem Qdy:∀(W:Nat) (r x:Vec) (q:Rat),dot W r (fun i=>x i*q)=dot W r x*q
 |0,_,_,_=>by simp[dot]
 |W+1,r,x,q=>by simp only[dot,Qdy W r x q];grind
theorem Qi1{v:Rat}{Z y:Int}{d K:Nat}(hy:y≠0)(hd:0<d)(e:v*((y:Rat)*(d:Rat))=(Z:Rat))(h1:Z.natAbs<2 ^ K)(h2:y.natAbs*d<2 ^ K)(hK:0<K):Fits v K:=by
 have hyq:(y:Rat)≠0:=by
  intro h;exact hy (Rat.intCast_inj.1 (by rw[h];rfl))
 have hdq:(d:Rat)≠0:=by
  intro h;have:d=0:=Rat.natCast_inj.1 (by rw[h];rfl);omega
 have hn:∃Z':Int,Z'.natAbs=Z.natAbs/\v*((y.natAbs*d:Nat):Rat)=(Z':Rat):=by
  rw[Rat.natCast_mul];rcases Int.natAbs_eq y with hh|hh
  ·
   refine⟨Z,rfl,?_⟩;rw[<-e];have:(y:Rat)=((y.natAbs:Nat):Rat):=by
    rw[<-Rat.intCast_natCast,<-hh]
   rw[this]
  ·
   refine⟨-Z,Int.natAbs_neg Z,?_⟩;have:(y:Rat)= -((y.natAbs:Nat):Rat):=by
    rw[<-Rat.intCast_natCast,<-Rat.intCast_neg,<-hh]
   rw[Rat.intCast_neg,<-e,this];grind
 obtain⟨Z',hz,e'⟩:=hn;have hdd:0<y.natAbs*d:=Nat.mul_pos (by omega) hd;have hq:((y.natAbs*d:Nat):Rat)≠0:=by
  intro h;have:y.natAbs*d=0:=Rat.natCast_inj.1 (by rw[h];rfl);omega
 have hv:v=mkRat Z' (y.natAbs*d):=by
  rw[Rat.mkRat_eq_div,<-e',Rat.div_def,Rat.mul_assoc,Rat.mul_inv_cancel _ hq,Rat.mul_one]
 rw[hv];exact Fits.mk (by omega) h2 hK
theorem MI.fit{W0 W a K:Nat}{M:List Vec}{D:Nat->Nat}(ha:0<a)(hD:∀j,0<D j/\D j<=a)(hM:∀r,r∈ M->∀j,∃z:Int,r j*(D j:Rat)=(z:Rat)/\z.natAbs<=a)
 (hK:(W+1)*(a*(2*((W+1)*a)) ^ W)<2 ^ K) (hK0:0<K) {c:Nat} {L S:List Vec} {hs:List Nat} (h:MI W0 W M c L S hs):∀v,v∈ L->∀j,Fits (v j) K:=by
 obtain⟨_,hW,_,R,hR,hI,hL,_⟩:=h;intro v hv j;obtain⟨r,hr,l,hl,hz⟩:=hL v hv;obtain⟨k,hk⟩:=nm hs.length;rw[hk] at hW hR hI hl;replace hW:k<=W:=by omega
 have hR':∀t,t<k+1->(if t=k then r else R t)∈ M:=fun t ht=>by
  by_cases he:t=k
  · rw[if_pos he];exact hr
  · rw[if_neg he];exact hR t (by omega)
 have hnum:∀t,t<k+1->∀i,(if t=k then r else R t) i*(D i:Rat)=((((if t=k then r else R t) i*(D i:Rat)).num:Int):Rat)/\(((if t=k then r else R t) i*(D i:Rat)).num).natAbs<=a:=fun t ht i=>by
  obtain⟨z,e,hz⟩:=hM _ (hR' t ht) i;rw[e,Rat.num_intCast];exact⟨rfl,hz⟩
 obtain⟨y,⟨j0,hj0,hy0⟩,hy,hyb⟩:=Sg.siegel k a ha (fun t i=>((if i=k then r else R i) (hs.getD t 0)*(D (hs.getD t 0):Rat)).num) (fun t i ht hi=>by
  have:=(hnum i hi (hs.getD t 0)).2
  omega)
 have hsum:∀i,dot (k+1) (fun t=>(y t:Rat)) (fun t=>(if t=k then r else R t) i)=dot k (fun t=>(y t:Rat)) (fun t=>R t i)+(y k:Rat)*r i:=fun i=>by
  simp only[dot];rw[Qae k _ _ (fun t=>(y t:Rat)) (fun t=>R t i) (fun t ht=>by rw[if_neg (by omega)])];simp
 have hint:∀i,((Sg.isum (k+1) (fun t=>((if t=k then r else R t) i*(D i:Rat)).num*y t):Int):Rat)=(dot k (fun t=>(y t:Rat)) (fun t=>R t i)+(y k:Rat)*r i)*(D i:Rat):=fun i=>by
  rw[Qfl,<-hsum,<-Qdy];exact Qae _ _ _ _ _ (fun t ht=>by rw[<-(hnum t ht i).1])
 have hDq:∀i,(D i:Rat)≠0:=fun i h=>by
  have h1:D i=0:=Rat.natCast_inj.1 (by rw[h];rfl);have:=(hD i).1;omega
 have hzero:∀h,h∈ hs->dot k (fun t=>(y t:Rat)) (fun t=>R t h)+(y k:Rat)*r h=0:=fun h hh=>by
  obtain⟨t,ht,e⟩:=List.mem_iff_getElem.1 hh;have h1:=hy t (by omega);have e2:hs.getD t 0=h:=by rw[List.getD_eq_getElem?_getD,gE ht,e];rfl
  simp only[e2] at h1;have h2:=hint h;rw[h1] at h2;rcases Rat.mul_eq_zero.1 h2.symm with h3|h3
  · exact h3
  · exact absurd h3 (hDq h)
 have hyk:y k≠0:=by
  intro h0;have hall:=hI (fun t=>(y t:Rat)) (fun h hh=>by
   have:=hzero h hh;rw[h0,show ((0:Int):Rat)=0 from rfl] at this
   grind)
  by_cases he:j0=k
  · rw[he] at hy0;exact hy0 h0
  · have:=hall j0 (by omega)
    exact hy0 (Rat.intCast_inj.1 (by rw[this];rfl))
 have hlam:∀i,dot k (fun t=>(y t:Rat)+l t*(y k:Rat)) (fun t=>R t i)=dot k (fun t=>(y t:Rat)) (fun t=>R t i)+dot k l (fun t=>R t i)*(y k:Rat):=fun i=>by rw[Qdx,Qcl]
 have hker:=hI (fun t=>(y t:Rat)+l t*(y k:Rat)) (fun h hh=>by
  rw[hlam];have e1:=hzero h hh;have e2:=hl h;rw[hz h hh] at e2
  grind)
 have hv0:dot k (fun t=>(y t:Rat)+l t*(y k:Rat)) (fun t=>R t j)=0:=Qam _ _ _ (fun t ht=>by rw[hker t ht];grind);rw[hlam] at hv0;have hvz:v j*((y k:Rat)*(D j:Rat))=((Sg.isum (k+1) (fun t=>((if t=k then r else R t) j*(D j:Rat)).num*y t):Int):Rat):=by
  rw[hint,hl j];grind
 have hpow:(2*((k+1)*a)) ^ k<=(2*((W+1)*a)) ^ W:=
  Nat.le_trans (Nat.pow_le_pow_left (Nat.mul_le_mul_left _ (Nat.mul_le_mul_right _ (by omega))) k) (Nat.pow_le_pow_right (Nat.mul_pos (by omega) (Nat.mul_pos (by omega) ha)) hW)
 obtain⟨Y,hY⟩:=nm ((2*((W+1)*a)) ^ W);rw[hY] at hpow hK;have hb:=Sg.isum_le (k+1) (fun t=>((if t=k then r else R t) j*(D j:Rat)).num*y t) (-((a*Y:Nat):Int)) ((a*Y:Nat):Int) (fun t ht=>by
  have h1:=(hnum t ht j).2;have h2:(((if t=k then r else R t) j*(D j:Rat)).num*y t).natAbs<=a*Y:=by
   rw[Int.natAbs_mul];exact Nat.mul_le_mul h1 (Nat.le_trans (hyb t) hpow)
  omega)
 have hle:(k+1)*(a*Y)<=(W+1)*(a*Y):=Nat.mul_le_mul_right _ (by omega);refine Qi1 hyk (hD j).1 hvz ?_ ?_ hK0
 · rw[Int.mul_neg,<-Int.natCast_mul] at hb
   omega
 ·
  have h1:(y k).natAbs*D j<=Y*a:=Nat.mul_le_mul (Nat.le_trans (hyb k) hpow) (hD j).2;have h2:a*Y<=(W+1)*(a*Y):=Nat.le_mul_of_pos_left _ (by omega);rw[Nat.mul_comm Y a] at h1;omega
theorem Span.less{k:Nat}{R:Nat->Vec}{v u:Vec}(h:Span k R v)(h':Span k R u)(q:Rat):Span k R (fun i=>v i - u i*q):=by
 obtain⟨l,e⟩:=h;obtain⟨l',e'⟩:=h';refine⟨fun t=>l t - l' t*q,fun j=>?_⟩
 show v j - u j*q=_
 rw[Qar,e j,e' j];grind
theorem Span.over{k:Nat}{R:Nat->Vec}{v:Vec}(h:Span k R v)(q:Rat):Span k R (fun i=>v i / q):=by
 obtain⟨l,e⟩:=h;refine⟨fun t=>l t / q,fun j=>?_⟩
 show v j / q=_
 rw[Qdq,e j]
theorem Qfm{k:Nat}{R:Nat->Vec}:∀(T:List Vec) (hs:List Nat) (r:Vec),Span k R r->(∀t,t∈ T->Span k R t)->Span k R (red r T hs)
 |t :: T,h :: hs,r,hr,hT=>by
  simp only[red];exact Qfm T hs _ (hr.less (hT t (by simp)) _) (fun t ht=>hT t (by simp[ht]))
 | [],_,r,hr,hT=>by unfold red;exact hr
 |_ :: _,[],r,hr,hT=>by unfold red;exact hr
theorem Qi2{k:Nat}{R:Nat->Vec}:∀(S:List Vec) (hs:List Nat),(∀s,s∈ S->Span k R s)->∀v,v∈ cln S hs->Span k R v
 |r :: S,h :: hs,hS,v,hv=>by
  have ih:=Qi2 S hs (fun s hs=>hS s (by simp[hs]));simp only[cln,List.mem_cons] at hv;rcases hv with rfl|hv
  · exact Qfm _ _ _ ((hS r (by simp)).over _) ih
  · exact ih v hv
 | [],_,_,v,hv=>by unfold cln at hv;cases hv
 |_ :: _,[],_,v,hv=>by unfold cln at hv;cases hv
theorem Qi3{W a K k:Nat}{M:List Vec}{D:Nat->Nat}{R:Nat->Vec}{H:List Nat}(ha:0<a)(hD:∀j,0<D j/\D j<=a)(hM:∀r,r∈ M->∀j,∃z:Int,r j*(D j:Rat)=(z:Rat)/\z.natAbs<=a)
 (hK:(W+1)*(a*(2*((W+1)*a)) ^ W)*a<2 ^ K) (hK0:0<K) (hHk:H.length=k) (hW:k<=W) (hR:∀i,i<k->R i∈ M)
 (hI:∀m:Vec,(∀h,h∈ H->dot k m (fun i=>R i h)=0)->∀i,i<k->m i=0) {v:Vec} (hv:Span k R v) {h:Nat} (hh:h∈ H) (h1:v h=1) (h0:∀x,x∈ H->x≠h->v x=0) (j:Nat):Fits (v j) K:=by
 obtain⟨H1,H2,hH⟩:=List.append_of_mem hh;obtain⟨n,hn⟩:=nm ((H1++H2).length);have hkn:k=n+1:=by rw[<-hHk,hH,<-hn];simp;omega
 subst hkn;obtain⟨l,hl⟩:=hv;have hnum:∀t,t<n+1->∀i,R t i*(D i:Rat)=(((R t i*(D i:Rat)).num:Int):Rat)/\((R t i*(D i:Rat)).num).natAbs<=a:=fun t ht i=>by
  obtain⟨z,e,hz⟩:=hM _ (hR t ht) i;rw[e,Rat.num_intCast];exact⟨rfl,hz⟩
 obtain⟨y,⟨j0,hj0,hy0⟩,hy,hyb⟩:=Sg.siegel n a ha (fun t i=>(R i ((H1++H2).getD t 0)*(D ((H1++H2).getD t 0):Rat)).num) (fun t i ht hi=>by
  have:=(hnum i hi ((H1++H2).getD t 0)).2
  omega)
 have hint:∀i,((Sg.isum (n+1) (fun t=>(R t i*(D i:Rat)).num*y t):Int):Rat)=dot (n+1) (fun t=>(y t:Rat)) (fun t=>R t i)*(D i:Rat):=fun i=>by
  rw[Qfl,<-Qdy];exact Qae _ _ _ _ _ (fun t ht=>by rw[<-(hnum t ht i).1])
 have hDq:∀i,(D i:Rat)≠0:=fun i h=>by
  have h1:D i=0:=Rat.natCast_inj.1 (by rw[h];rfl);have:=(hD i).1;omega
 have hzero:∀x,x∈ H1++H2->dot (n+1) (fun t=>(y t:Rat)) (fun t=>R t x)=0:=fun x hx=>by
  obtain⟨t,ht,e⟩:=List.mem_iff_getElem.1 hx;have h1:=hy t (by omega);have e2:(H1++H2).getD t 0=x:=by rw[List.getD_eq_getElem?_getD,gE ht,e];rfl
  simp only[e2] at h1;have h2:=hint x;rw[h1] at h2;rcases Rat.mul_eq_zero.1 h2.symm with h3|h3
  · exact h3
  · exact absurd h3 (hDq x)
 have hmem:∀x,x∈ H->x=h∨x∈ H1++H2:=fun x hx=>by
  rw[hH] at hx;simp only[List.mem_append,List.mem_cons] at hx ⊢;rcases hx with hx|hx|hx
  · exact .inr (.inl hx)
  · exact .inl hx
  · exact .inr (.inr hx)
 obtain⟨g,hg⟩:∃g:Vec,∀i,g i=dot (n+1) (fun t=>(y t:Rat)) (fun t=>R t i):=⟨fun i=>dot (n+1) (fun t=>(y t:Rat)) (fun t=>R t i),fun _=>rfl⟩;have hgh:g h≠0:=by
  intro e;have:=hI (fun t=>(y t:Rat)) (fun x hx=>by
   rcases hmem x hx with rfl|hx
   · rw[<-hg];exact e
   · exact hzero x hx) j0 hj0
  exact hy0 (Rat.intCast_inj.1 (by rw[this];rfl))
 have hker:=hI (fun t=>(y t:Rat) - l t*g h) (fun x hx=>by
  rw[Qar,<-hg,<-hl];by_cases he:x=h
  · rw[he,h1];grind
  ·
   rcases hmem x hx with hx'|hx'
   · exact absurd hx' he
   · rw[hg,hzero x hx',h0 x hx he];grind)
 have hvg:g j=v j*g h:=by
  have h3:dot (n+1) (fun t=>(y t:Rat) - l t*g h) (fun t=>R t j)=0:=Qam _ _ _ (fun t ht=>by rw[hker t ht];grind);rw[Qar,<-hg,<-hl] at h3;grind
 have hpow:(2*((n+1)*a)) ^ n<=(2*((W+1)*a)) ^ W:=
  Nat.le_trans (Nat.pow_le_pow_left (Nat.mul_le_mul_left _ (Nat.mul_le_mul_right _ (by omega))) n) (Nat.pow_le_pow_right (Nat.mul_pos (by omega) (Nat.mul_pos (by omega) ha)) (by omega))
 obtain⟨Y,hY⟩:=nm ((2*((W+1)*a)) ^ W);rw[hY] at hpow hK;have hb:∀i,(Sg.isum (n+1) (fun t=>(R t i*(D i:Rat)).num*y t)).natAbs<=(W+1)*(a*Y):=fun i=>by
  have hb:=Sg.isum_le (n+1) (fun t=>(R t i*(D i:Rat)).num*y t) (-((a*Y:Nat):Int)) ((a*Y:Nat):Int) (fun t ht=>by
   have h1:=(hnum t ht i).2;have h2:((R t i*(D i:Rat)).num*y t).natAbs<=a*Y:=by
    rw[Int.natAbs_mul];exact Nat.mul_le_mul h1 (Nat.le_trans (hyb t) hpow)
   omega)
  have hle:(n+1)*(a*Y)<=(W+1)*(a*Y):=Nat.mul_le_mul_right _ (by omega);rw[Int.mul_neg,<-Int.natCast_mul] at hb;omega
 have ej:=hint j;have eh:=hint h;rw[<-hg] at ej eh;have bj:=hb j;have bh:=hb h;obtain⟨Gj,hGj⟩:∃z,Sg.isum (n+1) (fun t=>(R t j*(D j:Rat)).num*y t)=z:=⟨_,rfl⟩;obtain⟨Gh,hGh⟩:∃z,Sg.isum (n+1) (fun t=>(R t h*(D h:Rat)).num*y t)=z:=⟨_,rfl⟩;rw[hGj] at ej bj;rw[hGh] at eh bh;have hGh0:Gh≠0:=by
  intro e;rw[e] at eh;rcases Rat.mul_eq_zero.1 eh.symm with h3|h3
  · exact hgh h3
  · exact hDq h h3
 have hlim:∀x d:Nat,x<=(W+1)*(a*Y)->d<=a->x*d<2 ^ K:=fun x d hx hd=>Nat.lt_of_le_of_lt (Nat.mul_le_mul hx hd) hK
 refine Qi1 (Z:=Gj*(D h:Int)) hGh0 (hD j).1 ?_ ?_ ?_ hK0
 · rw[Rat.intCast_mul,Rat.intCast_natCast,ej,eh,hvg]
   grind
 · rw[Int.natAbs_mul,Int.natAbs_natCast]
   exact hlim _ _ bj (hD h).2
 · exact hlim _ _ bh (hD j).2
theorem Qi4{K B j:Nat}(hB:0<B):∀{T:List Vec} {hs:List Nat} {J lo hi:Nat} {r:Vec},Cln lo hi T hs->(∀t,t∈ T->∀i,Fits (t i) B)->(∀i,Fits (r i) J)->(∀h,h∈ hs->Fits (r h) j)->J+T.length*(B+j+1)<=K->redFits K r T hs/\∀i,Fits (red r T hs i) (J+T.length*(B+j+1))
 | [],[],J,lo,hi,r,hc,hT,hr,hh,hK=>by
   simp only[List.length_nil,Nat.zero_mul,Nat.add_zero] at hK ⊢;unfold redFits red;exact⟨fun i=>(hr i).mono hK,hr⟩
 |t :: T,h :: hs,J,lo,hi,r,⟨c1,c2,c3,c4,c5⟩,hT,hr,hh,hK=>by
  have e1:(t :: T).length*(B+j+1)=T.length*(B+j+1)+(B+j+1):=by rw[List.length_cons,Nat.succ_mul]
  rw[e1] at hK ⊢;have h2:∀i,Fits (r i - t i*r h) (J+(B+j)+1):=fun i=>(hr i).sub ((hT t (by simp) i).mul (hh h (by simp)) hB)
  have ih:=Qi4 (K:=K) (j:=j) hB (J:=J+(B+j)+1) (r:=fun i=>r i - t i*r h) c5 (fun t ht=>hT t (by simp[ht])) h2 (fun x hx=>by
   have:r x - t x*r h=r x:=by rw[c4 x hx];grind
   rw[this]
   exact hh x (by simp[hx])) (by omega)
  refine⟨⟨fun i=>(hr i).mono (by omega),ih.1⟩,fun i=>?_⟩;have:=ih.2 i;rw[show J+(B+j)+1+T.length*(B+j+1)=J+(T.length*(B+j+1)+(B+j+1)) by omega] at this;exact this
 | [],_ :: _,_,_,_,_,hc,_,_,_,_=>absurd hc (by simp[Cln])
 |_ :: _,[],_,_,_,_,hc,_,_,_,_=>absurd hc (by simp[Cln])
theorem Qi5{K K2 k n:Nat}{R:Nat->Vec}{H:List Nat}(h2:0<K2)(hK:K2+n*(K2+K2+1)<=K)
 (hfit:∀(v:Vec) (h:Nat),Span k R v->h∈ H->v h=1->(∀x,x∈ H->x≠h->v x=0)->∀j,Fits (v j) K2):
 ∀{S:List Vec} {hs:List Nat} {lo hi:Nat} {P:List Nat},H=P++hs->(∀p,p∈ P->p<lo)->Ech lo hi S hs->S.length<=n->(∀s,s∈ S->Span k R s)->(∀(t:Nat) (s:Vec) (h:Nat),S[t]?=some s->hs[t]?=some h->∀i,Fits (s i / s h) K2)->
  clnFits K S hs/\∀v,v∈ cln S hs->∀i,Fits (v i) K2
 | [],[],lo,hi,P,hH,hP,he,hn,hS,hf=>by
   unfold clnFits cln;exact⟨trivial,fun v hv=>by cases hv⟩
 |r :: S,h :: hs,lo,hi,P,hH,hP,he,hn,hS,hf=>by
  have he':=he;obtain⟨e1,e2,e3,e4⟩:=he';have hn':S.length+1<=n:=by simpa using hn
  have ih:=Qi5 h2 hK hfit (P:=P++ [h]) (by rw[hH];simp) (fun p hp=>by
   rcases List.mem_append.1 hp with hp|hp
   · have:=hP p hp;omega
   · simp only[List.mem_singleton] at hp;omega) e4 (by omega) (fun s hs=>hS s (by simp[hs])) (fun t s x e e'=>hf (t+1) s x (by simpa using e) (by simpa using e'))
  have hc:=(Qdt 0 e4).1;have hca:=(Qdt 0 he).1;have hq:∀i,Fits (r i / r h) K2:=hf 0 r h rfl rfl;have hlen:=Qdu S hs e4.len;have hb:(cln S hs).length*(K2+K2+1)<=n*(K2+K2+1):=Nat.mul_le_mul_right _ (by omega);have hr:=Qi4 (K:=K) (j:=K2) h2 (J:=K2) (r:=fun i=>r i / r h) hc ih.2 hq (fun x _=>hq x) (by omega);refine⟨?_,fun v hv=>?_⟩
  · unfold clnFits
    exact⟨ih.1,hr.1⟩
  ·
   simp only[cln] at hca hv;obtain⟨a1,a2,a3,a4,a5⟩:=hca;rcases List.mem_cons.1 hv with hv|hv
   ·
    subst hv;refine hfit _ h (Qfm _ _ _ ((hS r (by simp)).over _) (Qi2 S hs (fun s hs=>hS s (by simp[hs])))) (by rw[hH];simp) a2 (fun x hx hne=>?_);rw[hH] at hx;rcases List.mem_append.1 hx with hx|hx
    · exact a3 x (by have:=hP x hx;omega)
    ·
     rcases List.mem_cons.1 hx with hx|hx
     · exact absurd hx hne
     · exact a4 x hx
   · exact ih.2 v hv
 | [],_ :: _,_,_,_,_,_,he,_,_,_=>absurd he (by simp[Ech])
 |_ :: _,[],_,_,_,_,_,he,_,_,_=>absurd he (by simp[Ech])
def MJ(W N K2:Nat)(M:List Vec)(c:Nat)(L S:List Vec)(hs:List Nat):Prop:=
 Elim W M c L S hs/\MI W N M c L S hs/\∀(t:Nat) (s:Vec) (h:Nat),S[t]?=some s->hs[t]?=some h->∀i,Fits (s i / s h) K2
theorem MJ.start(W N K2:Nat)(M:List Vec)(hM:∀v,v∈ M->∀i,W<=i->v i=0)(hN:M.length<=N∨W<=N):MJ W N K2 M 0 M [] []:=
 ⟨Elim.start W M,MI.start W N M hM hN,fun t s h e=>by simp at e⟩
theorem MJ.going{W0 W a K K2:Nat}{M:List Vec}{D:Nat->Nat}(ha:0<a)(hD:∀j,0<D j/\D j<=a)(hM:∀r,r∈ M->∀j,∃z:Int,r j*(D j:Rat)=(z:Rat)/\z.natAbs<=a)
 (hK:(W+1)*(a*(2*((W+1)*a)) ^ W)<2 ^ K) (hK0:0<K) (hK2:(W+1)*(a*(2*((W+1)*a)) ^ W)*a<2 ^ K2) (h2:0<K2):Going K (MJ W0 W K2 M) where
 fit:=fun h=>MI.fit ha hD hM hK hK0 h.2.1
 skip:=fun h h0=>⟨h.1.skip h0,h.2.1.skip,h.2.2⟩
 step:=fun {c j L S hs s} h hj h0=>by
  refine⟨h.1.step hj h0,h.2.1.step hj h0,fun t u x e e' i=>?_⟩;have hl:=h.1.1.len;by_cases ht:t<S.length
  ·
   rw[List.getElem?_append_left ht] at e;rw[List.getElem?_append_left (by omega)] at e';exact h.2.2 t u x e e' i
  ·
   have ht':t=S.length:=by
    have:=(gZ e).1;simp at this;omega
   subst ht';rw[List.getElem?_append_right (by omega)] at e;rw[List.getElem?_append_right (by omega)] at e';simp at e;rw[hl] at e';simp at e';subst e e';obtain⟨_,_,_,_,_,_,hL,_⟩:=h.2.1;obtain⟨_,_,_,_,hz⟩:=hL s (mO hj);obtain⟨_,hW,_,R,hR,hI,_,hS⟩:=h.2.1.step hj h0;refine Qi3 (H:=hs++ [c]) ha hD hM hK2 h2 rfl (by omega) hR hI ((hS s (by simp)).over (s c)) (h:=c) (by simp) ?_ (fun x hx hne=>?_) i
   · rw[Rat.div_def,Rat.mul_inv_cancel _ h0]
   ·
    rcases List.mem_append.1 hx with hx|hx
    ·
     show s x / s c=0
     rw[hz x hx,Rat.div_def];grind
    · simp only[List.mem_singleton] at hx
      exact absurd hx hne
theorem MJ.clean{W0 W a K K2:Nat}{M:List Vec}{D:Nat->Nat}(ha:0<a)(hD:∀j,0<D j/\D j<=a)(hM:∀r,r∈ M->∀j,∃z:Int,r j*(D j:Rat)=(z:Rat)/\z.natAbs<=a)
 (hK2:(W+1)*(a*(2*((W+1)*a)) ^ W)*a<2 ^ K2) (h2:0<K2) (hK:K2+W*(K2+K2+1)<=K) {c:Nat} {L S:List Vec} {hs:List Nat} (h:MJ W0 W K2 M c L S hs):clnFits K S hs/\∀v,v∈ cln S hs->∀i,Fits (v i) K2:=by
 obtain⟨hE,⟨_,hW,_,R,hR,hI,_,hS⟩,hf⟩:=h;exact Qi5 (H:=hs) (R:=R) (k:=hs.length) (n:=W) h2 hK (fun v x hv hx hv1 hv0 j=>Qi3 ha hD hM hK2 h2 rfl (by omega) hR hI hv hx hv1 hv0 j) (P:=[]) rfl (fun p hp=>by cases hp) hE.1 (by rw[hE.1.len];omega) hS hf
end Go.Proofs.YtfpcipgoedifaaaGreatDoor
