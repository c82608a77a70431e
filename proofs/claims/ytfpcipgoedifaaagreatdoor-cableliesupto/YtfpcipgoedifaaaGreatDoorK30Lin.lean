/- rows of numbers, plainly: stairs, what they leave free, and what cleans them. -/
import Derived.Test.YtfpcipgoedifaaaGreatDoorK09Shelf
namespace Go.Proofs.YtfpcipgoedifaaaGreatDoor
set_option linter.unusedVariables false
set_option linter.unusedSimpArgs false
abbrev Vec:=Nat->Rat
def dot:Nat->Vec->Vec->Rat
 |0,_,_=>0
 |n+1,r,x=>dot n r x+r n*x n
theorem Qae:∀(W:Nat) (r x s y:Vec),(∀c,c<W->r c*x c=s c*y c)->dot W r x=dot W s y
 |0,_,_,_,_,_=>rfl
 |n+1,r,x,s,y,h=>by
  simp only[dot];rw[Qae n r x s y (fun c hc=>h c (by omega)),h n (by omega)]
theorem Qam:∀(W:Nat) (r x:Vec),(∀c,c<W->r c*x c=0)->dot W r x=0
 |0,_,_,_=>rfl
 |n+1,r,x,h=>by
  simp only[dot];rw[Qam n r x (fun c hc=>h c (by omega)),h n (by omega)];grind
theorem Qar:∀(W:Nat) (r s x:Vec) (q:Rat),dot W (fun i=>r i - s i*q) x=dot W r x - q*dot W s x
 |0,_,_,_,_=>by simp only[dot];grind
 |n+1,r,s,x,q=>by
  simp only[dot];rw[Qar n r s x q];grind
theorem Qdq:∀(W:Nat) (r x:Vec) (q:Rat),dot W (fun i=>r i / q) x=dot W r x / q
 |0,_,_,_=>by simp only[dot];grind
 |n+1,r,x,q=>by
  simp only[dot];rw[Qdq n r x q];grind
theorem Qit:∀(W:Nat) (r x y:Vec),dot W r (fun i=>x i - y i)=dot W r x - dot W r y
 |0,_,_,_=>by simp only[dot];grind
 |n+1,r,x,y=>by
  simp only[dot];rw[Qit n r x y];grind
def upd(x:Vec)(h:Nat)(v:Rat):Vec:=fun c=>if c=h then v else x c
theorem Qdr(x:Vec)(h:Nat)(v:Rat):upd x h v h=v:=if_pos rfl
theorem Qb6(x:Vec){h c:Nat}(v:Rat)(hc:c≠h):upd x h v c=x c:=if_neg hc
theorem Qds:∀(W:Nat) (r x:Vec) (h:Nat) (v:Rat),h<W->dot W r (upd x h v)=dot W r x+r h*(v - x h)
 |0,_,_,_,_,hh=>by omega
 |n+1,r,x,h,v,hh=>by
  simp only[dot];by_cases e:h=n
  ·
   subst e;rw[Qae h r (upd x h v) r x (fun c hc=>by rw[Qb6 _ _ (by omega)]),Qdr];grind
  · rw[Qds n r x h v (by omega),Qb6 _ _ (Ne.symm e)]
    grind
theorem Qck(W:Nat)(r x:Vec)(h:Nat)(hh:h<W)(h0:∀c,c<W->c≠h->r c*x c=0):dot W r x=r h*x h:=by
 have h1:=Qds W r (upd x h 0) h (x h) hh;have h2:upd (upd x h 0) h (x h)=x:=by
  funext c;by_cases e:c=h
  · subst e;rw[Qdr]
  · rw[Qb6 _ _ e,Qb6 _ _ e]
 rw[h2,Qam W r (upd x h 0) (fun c hc=>?_),Qdr] at h1
 · rw[h1];grind
 ·
  by_cases e:c=h
  · subst e;rw[Qdr];grind
  · rw[Qb6 _ _ e];exact h0 c hc e
def Null(W:Nat)(S:List Vec)(x:Vec):Prop:=∀r,r∈ S->dot W r x=0
theorem Null.cons{W:Nat}{r:Vec}{S:List Vec}{x:Vec}:Null W (r :: S) x↔dot W r x=0/\Null W S x:=by
 unfold Null;simp
theorem Null.app{W:Nat}{S T:List Vec}{x:Vec}:Null W (S++T) x↔Null W S x/\Null W T x:=by
 unfold Null;simp only[List.mem_append];exact⟨fun h=>⟨fun r hr=>h r (.inl hr),fun r hr=>h r (.inr hr)⟩,fun h r hr=>hr.elim (h.1 r) (h.2 r)⟩
def Ech:Nat->Nat->List Vec->List Nat->Prop
 |lo,hi,[],[]=>lo<=hi
 |lo,hi,r :: S,h :: hs=>lo<=h/\r h≠0/\(∀c,c<h->r c=0)/\Ech (h+1) hi S hs
 |_,_,_,_=>False
theorem Ech.le:∀{S:List Vec} {hs:List Nat} {lo hi:Nat},Ech lo hi S hs->lo<=hi
 | [],[],_,_,h=>h
 |r :: S,h :: hs,lo,hi,⟨h1,_,_,h2⟩=>by have:=Ech.le h2;omega
 | [],_ :: _,_,_,h=>h.elim
 |r :: S,[],_,_,h=>h.elim
theorem Ech.len:∀{S:List Vec} {hs:List Nat} {lo hi:Nat},Ech lo hi S hs->S.length=hs.length
 | [],[],_,_,h=>rfl
 |r :: S,h :: hs,lo,hi,⟨_,_,_,h2⟩=>by have:=Ech.len h2;simp only[List.length_cons];omega
 | [],_ :: _,_,_,h=>h.elim
 |r :: S,[],_,_,h=>h.elim
theorem Ech.mono:∀{S:List Vec} {hs:List Nat} {lo hi hi':Nat},Ech lo hi S hs->hi<=hi'->Ech lo hi' S hs
 | [],[],_,_,_,h,k=>Nat.le_trans h k
 |r :: S,h :: hs,lo,hi,hi',⟨h1,h2,h3,h4⟩,k=>⟨h1,h2,h3,h4.mono k⟩
 | [],_ :: _,_,_,_,h,_=>h.elim
 |r :: S,[],_,_,_,h,_=>h.elim
theorem Ech.head:∀{S:List Vec} {hs:List Nat} {lo hi:Nat},Ech lo hi S hs->∀c,c∈ hs->lo<=c/\c<hi
 | [],[],_,_,h,c,hc=>by cases hc
 |r :: S,h :: hs,lo,hi,⟨h1,h2,h3,h4⟩,c,hc=>by
  rcases List.mem_cons.1 hc with rfl|hc
  · have:=h4.le;omega
  · have:=h4.head c hc;omega
 | [],_ :: _,_,_,h,_,_=>h.elim
 |r :: S,[],_,_,h,_,_=>h.elim
theorem Ech.zero:∀{S:List Vec} {hs:List Nat} {lo hi:Nat},Ech lo hi S hs->∀r,r∈ S->∀c,c<lo->r c=0
 | [],[],_,_,h,r,hr,_,_=>by cases hr
 |s :: S,h :: hs,lo,hi,⟨h1,h2,h3,h4⟩,r,hr,c,hc=>by
  rcases List.mem_cons.1 hr with rfl|hr
  · exact h3 c (by omega)
  · exact h4.zero r hr c (by omega)
 | [],_ :: _,_,_,h,_,_,_,_=>h.elim
 |r :: S,[],_,_,h,_,_,_,_=>h.elim
theorem Ech.snoc:∀{S:List Vec} {hs:List Nat} {lo hi c:Nat} {s:Vec},Ech lo hi S hs->hi<=c->s c≠0->(∀i,i<c->s i=0)->Ech lo (c+1) (S++ [s]) (hs++ [c])
 | [],[],lo,hi,c,s,h,k,h1,h2=>⟨Nat.le_trans h k,h1,h2,Nat.le_refl _⟩
 |r :: S,h :: hs,lo,hi,c,s,⟨h1,h2,h3,h4⟩,k,k1,k2=>⟨h1,h2,h3,h4.snoc k k1 k2⟩
 | [],_ :: _,_,_,_,_,h,_,_,_=>h.elim
 |r :: S,[],_,_,_,_,h,_,_,_=>h.elim
theorem Ech.solve(W:Nat)(f:Vec):∀{S:List Vec} {hs:List Nat} {lo hi:Nat},Ech lo hi S hs->hi<=W->∃x:Vec,(∀c,c ∉ hs->x c=f c)/\Null W S x
 | [],[],_,_,_,_=>⟨f,fun _ _=>rfl,fun r hr=>by cases hr⟩
 |r :: S,h :: hs,lo,hi,⟨h1,h2,h3,h4⟩,hW=>by
  obtain⟨x,hx,hn⟩:=h4.solve W f hW;have hh:h<W:=by have:=h4.le;omega
  refine⟨upd x h (x h - dot W r x / r h),fun c hc=>?_,Null.cons.2 ⟨?_,fun s hs=>?_⟩⟩
  ·
   simp only[List.mem_cons,not_or] at hc;rw[Qb6 _ _ hc.1];exact hx c hc.2
  · rw[Qds _ _ _ _ _ hh]
    grind
  · rw[Qds _ _ _ _ _ hh,hn s hs,h4.zero s hs h (by omega)]
    grind
 | [],_ :: _,_,_,h,_=>h.elim
 |r :: S,[],_,_,h,_=>h.elim
def lessBy(c:Nat)(s r:Vec):Vec:=fun i=>r i - s i*(r c / s c)
structure Elim (W:Nat) (M:List Vec) (c:Nat) (L S:List Vec) (hs:List Nat):Prop where
 ech:Ech 0 c S hs
 zero:∀r,r∈ L->∀i,i<c->r i=0
 null:∀x,Null W M x↔Null W L x/\Null W S x
theorem Elim.start(W:Nat)(M:List Vec):Elim W M 0 M [] []:=⟨Nat.le_refl _,fun _ _ i hi=>by omega,fun x=>⟨fun h=>⟨h,fun r hr=>by cases hr⟩,fun h=>h.1⟩⟩
theorem Elim.skip{W c:Nat}{M L S:List Vec}{hs:List Nat}(h:Elim W M c L S hs)(h0:∀r,r∈ L->r c=0):Elim W M (c+1) L S hs:=
 ⟨h.ech.mono (Nat.le_succ _),fun r hr i hi=>by
   rcases Nat.lt_or_ge i c with h1|h1
   · exact h.zero r hr i h1
   · obtain rfl:i=c:=by omega
     exact h0 r hr,h.null⟩
theorem Elim.step{W c j:Nat}{M L S:List Vec}{hs:List Nat}{s:Vec}(h:Elim W M c L S hs)(hj:L[j]?=some s)(h0:s c≠0):Elim W M (c+1) ((L.eraseIdx j).map (lessBy c s)) (S++ [s]) (hs++ [c]):=by
 have hs':s∈ L:=mO hj;have hz:∀i,i<c->s i=0:=h.zero s hs';refine⟨h.ech.snoc lZ h0 hz,fun r hr i hi=>?_,fun x=>?_⟩
 ·
  obtain⟨t,ht,rfl⟩:=List.mem_map.1 hr;have ht':=List.mem_of_mem_eraseIdx ht;unfold lessBy;rcases Nat.lt_or_ge i c with h1|h1
  · rw[hz i h1,h.zero t ht' i h1];grind
  · obtain rfl:i=c:=by omega
    grind
 ·
  rw[h.null x,Null.app];have hd:∀t:Vec,dot W s x=0->(dot W (lessBy c s t) x=0↔dot W t x=0):=fun t h1=>by
   unfold lessBy;rw[Qar,h1];grind
  constructor
  ·
   rintro⟨h1,h2⟩;refine⟨fun r hr=>?_,h2,fun r hr=>?_⟩
   · obtain⟨t,ht,rfl⟩:=List.mem_map.1 hr
     exact(hd t (h1 s hs')).2 (h1 t (List.mem_of_mem_eraseIdx ht))
   · obtain rfl:r=s:=by simpa using hr
     exact h1 r hs'
  ·
   rintro⟨h1,h2,h3⟩;have h4:dot W s x=0:=h3 s (by simp);refine⟨fun r hr=>?_,h2⟩;obtain⟨i,hi⟩:=List.mem_iff_getElem?.1 hr;by_cases e:i=j
   ·
    subst e;obtain rfl:=Option.some.inj (hj.symm.trans hi);exact h4
   · have hm:r∈ L.eraseIdx j:=List.mem_eraseIdx_iff_getElem?.2 ⟨i,e,hi⟩
     exact(hd r h4).1 (h1 _ (List.mem_map.2 ⟨r,hm,rfl⟩))
theorem Elim.done{W:Nat}{M L S:List Vec}{hs:List Nat}(h:Elim W M W L S hs):Ech 0 W S hs/\∀x,Null W M x↔Null W S x:=by
 refine⟨h.ech,fun x=>?_⟩;rw[h.null x];exact⟨fun k=>k.2,fun k=>⟨fun r hr=>Qam W r x fun c hc=>by rw[h.zero r hr c hc];grind,k⟩⟩
def red(r:Vec):List Vec->List Nat->Vec
 |t :: T,h :: hs=>red (fun i=>r i - t i*r h) T hs
 |_,_=>r
def cln:List Vec->List Nat->List Vec
 |r :: S,h :: hs=>red (fun i=>r i / r h) (cln S hs) hs :: cln S hs
 |_,_=>[]
def Cln:Nat->Nat->List Vec->List Nat->Prop
 |lo,hi,[],[]=>lo<=hi
 |lo,hi,r :: S,h :: hs=>lo<=h/\r h=1/\(∀c,c<h->r c=0)/\(∀c,c∈ hs->r c=0)/\Cln (h+1) hi S hs
 |_,_,_,_=>False
theorem Cln.ech:∀{S:List Vec} {hs:List Nat} {lo hi:Nat},Cln lo hi S hs->Ech lo hi S hs
 | [],[],_,_,h=>h
 |r :: S,h :: hs,lo,hi,⟨h1,h2,h3,_,h4⟩=>⟨h1,by rw[h2];decide,h3,Cln.ech h4⟩
 | [],_ :: _,_,_,h=>h.elim
 |r :: S,[],_,_,h=>h.elim
theorem Qiu(W:Nat):∀{T:List Vec} {hs:List Nat} {lo hi:Nat} (r:Vec),Cln lo hi T hs->(∀c,c<lo->red r T hs c=r c)/\(∀c,c∈ hs->red r T hs c=0)/\∀x,Null W T x->dot W (red r T hs) x=dot W r x
 | [],[],_,_,r,_=>⟨fun _ _=>rfl,fun c hc=>by(cases hc),fun _ _=>rfl⟩
 |t :: T,h :: hs,lo,hi,r,⟨h1,h2,h3,h4,h5⟩=>by
  obtain⟨k1,k2,k3⟩:=Qiu W (fun i=>r i - t i*r h) h5;refine⟨fun c hc=>?_,fun c hc=>?_,fun x hx=>?_⟩
  ·
   simp only[red];rw[k1 c (by omega),h3 c (by omega)];grind
  ·
   simp only[red];rcases List.mem_cons.1 hc with rfl|hc
   · rw[k1 c (by omega),h2]
     grind
   · exact k2 c hc
  ·
   obtain⟨hx1,hx2⟩:=Null.cons.1 hx;simp only[red];rw[k3 x hx2,Qar,hx1];grind
 | [],_ :: _,_,_,_,h=>h.elim
 |r :: S,[],_,_,_,h=>h.elim
theorem Qdt(W:Nat):∀{S:List Vec} {hs:List Nat} {lo hi:Nat},Ech lo hi S hs->Cln lo hi (cln S hs) hs/\∀x,Null W (cln S hs) x↔Null W S x
 | [],[],_,_,h=>⟨h,fun _=>Iff.rfl⟩
 |r :: S,h :: hs,lo,hi,⟨h1,h2,h3,h4⟩=>by
  obtain⟨k1,k2⟩:=Qdt W h4;obtain⟨j1,j2,j3⟩:=Qiu W (fun i=>r i / r h) k1;refine⟨⟨h1,?_,fun c hc=>?_,j2,k1⟩,fun x=>?_⟩
  · rw[j1 h (by omega)];grind
  · rw[j1 c (by omega),h3 c hc];grind
  ·
   simp only[cln];rw[Null.cons,Null.cons,k2 x];constructor
   ·
    rintro⟨e1,e2⟩;rw[j3 x ((k2 x).2 e2),Qdq] at e1;exact⟨by grind,e2⟩
   ·
    rintro⟨e1,e2⟩;rw[j3 x ((k2 x).2 e2),Qdq,e1];exact⟨by grind,e2⟩
 | [],_ :: _,_,_,h=>h.elim
 |r :: S,[],_,_,h=>h.elim
theorem Qdu:∀(S:List Vec) (hs:List Nat),S.length=hs.length->(cln S hs).length=S.length
 | [],_,_=>rfl
 |r :: S,h :: hs,k=>by simp only[cln,List.length_cons];rw[Qdu S hs (by simpa using k)]
 |r :: S,[],k=>by simp at k
theorem Ech.count:∀{S:List Vec} {hs:List Nat} {lo hi:Nat},Ech lo hi S hs->hs.length<=hi - lo
 | [],[],_,_,_=>Nat.zero_le _
 |r :: S,h :: hs,lo,hi,⟨h1,_,_,h4⟩=>by have:=h4.count;have:=h4.le;simp only[List.length_cons];omega
 | [],_ :: _,_,_,h=>h.elim
 |r :: S,[],_,_,h=>h.elim
theorem Ech.hole:∀{S:List Vec} {hs:List Nat} {lo hi:Nat},Ech lo hi S hs->hs.length<hi - lo->∃c,lo<=c/\c<hi/\c ∉ hs
 | [],[],lo,hi,_,k=>⟨lo,Nat.le_refl _,by simp at k;omega,by simp⟩
 |r :: S,h :: hs,lo,hi,⟨h1,_,_,h4⟩,k=>by
  have hle:=h4.le;simp only[List.length_cons] at k;rcases Nat.lt_or_ge lo h with h5|h5
  ·
   refine⟨lo,Nat.le_refl _,by omega,fun hc=>?_⟩;rcases List.mem_cons.1 hc with e|e
   · omega
   · have:=(h4.head lo e).1;omega
  ·
   obtain⟨c,c1,c2,c3⟩:=h4.hole (by omega);refine⟨c,by omega,c2,fun hc=>?_⟩;rcases List.mem_cons.1 hc with e|e
   · omega
   · exact c3 e
 | [],_ :: _,_,_,h,_=>h.elim
 |r :: S,[],_,_,h,_=>h.elim
theorem Ech.all:∀{S:List Vec} {hs:List Nat} {lo hi:Nat},Ech lo hi S hs->hs.length=hi - lo->∀i h,hs[i]?=some h->h=lo+i
 | [],[],lo,hi,_,k,i,h,e=>by simp at e
 |r :: S,h :: hs,lo,hi,⟨h1,_,_,h4⟩,k,i,g,e=>by
  have hle:=h4.le;have hct:=h4.count;simp only[List.length_cons] at k;obtain rfl:h=lo:=by omega
  match i,e with
  |0,e=>simp at e;omega
  |i+1,e=>
   have:=h4.all (by omega) i g (by simpa using e);omega
 | [],_ :: _,_,_,h,_,_,_,_=>h.elim
 |r :: S,[],_,_,h,_,_,_,_=>h.elim
theorem Ech.last:∀{S:List Vec} {hs:List Nat} {lo n:Nat},Ech lo (n+1) S hs->lo<=n->n ∉ hs->Ech lo n S hs
 | [],[],lo,n,_,k,_=>k
 |r :: S,h :: hs,lo,n,⟨h1,h2,h3,h4⟩,k,hn=>by
  have hle:=h4.le;simp only[List.mem_cons,not_or] at hn;exact⟨h1,h2,h3,h4.last (by omega) hn.2⟩
 | [],_ :: _,_,_,h,_,_=>h.elim
 |r :: S,[],_,_,h,_,_=>h.elim
theorem Ech.row:∀{S:List Vec} {hs:List Nat} {lo hi:Nat},Ech lo hi S hs->∀h,h∈ hs->∃r,r∈ S/\r h≠0/\∀c,c<h->r c=0
 | [],[],_,_,_,h,hh=>by cases hh
 |r :: S,k :: hs,lo,hi,⟨h1,h2,h3,h4⟩,h,hh=>by
  rcases List.mem_cons.1 hh with rfl|hh
  · exact⟨r,List.mem_cons_self,h2,h3⟩
  · obtain⟨s,s1,s2⟩:=h4.row h hh
    exact⟨s,List.mem_cons_of_mem _ s1,s2⟩
 | [],_ :: _,_,_,h,_,_=>h.elim
 |r :: S,[],_,_,h,_,_=>h.elim
theorem Cln.at:∀{S:List Vec} {hs:List Nat} {lo hi:Nat},Cln lo hi S hs->∀(i:Nat) (r:Vec) (h:Nat),S[i]?=some r->hs[i]?=some h->r h=1/\(∀c,c<h->r c=0)/\∀c,c∈ hs->h<c->r c=0
 | [],[],_,_,_,i,r,h,e,_=>by simp at e
 |s :: S,k :: hs,lo,hi,⟨h1,h2,h3,h4,h5⟩,i,r,h,e,e'=>by
  match i,e,e' with
  |0,e,e'=>
   simp at e e';subst e;subst e';refine⟨h2,h3,fun c hc hlt=>?_⟩;rcases List.mem_cons.1 hc with rfl|hc
   · omega
   · exact h4 c hc
  |i+1,e,e'=>
   obtain⟨a1,a2,a3⟩:=h5.at i r h (by simpa using e) (by simpa using e');refine⟨a1,a2,fun c hc hlt=>?_⟩;rcases List.mem_cons.1 hc with rfl|hc
   · have:=(h5.ech.head h (mO (by simpa using e'))).1
     omega
   · exact a3 c hc hlt
 | [],_ :: _,_,_,h,_,_,_,_,_=>h.elim
 |r :: S,[],_,_,h,_,_,_,_,_=>h.elim
def wider(wide:Nat)(r:Vec)(v:Rat):Vec:=fun c=>if c=wide then v else r c
theorem Qpr(wide:Nat)(r:Vec)(v:Rat)(y:Vec):dot (wide+1) (wider wide r v) y=dot wide r y+v*y wide:=by
 simp only[dot];rw[Qae wide (wider wide r v) y r y (fun c hc=>by unfold wider;rw[if_neg (by omega)])];unfold wider;rw[if_pos rfl]
def Sol(wide:Nat)(M:List Vec)(b:List Rat)(x:Vec):Prop:=∀(i:Nat) (r:Vec) (v:Rat),M[i]?=some r->b[i]?=some v->dot wide r x=v
theorem sol_null{wide:Nat}{M:List Vec}{b:List Rat}{x:Vec}:Sol wide M b x↔Null (wide+1) (List.zipWith (wider wide) M b) (wider wide x (-1)):=by
 have hd:∀(r:Vec) (v:Rat),dot (wide+1) (wider wide r v) (wider wide x (-1))=dot wide r x - v:=fun r v=>by
  rw[Qpr,Qae wide r (wider wide x (-1)) r x (fun c hc=>by unfold wider;rw[if_neg (by omega)])];unfold wider;rw[if_pos rfl];grind
 constructor
 ·
  intro h r hr;obtain⟨i,hi⟩:=List.mem_iff_getElem?.1 hr;rw[List.getElem?_zipWith] at hi
  match hm:M[i]?,hb:b[i]?,hi with
  |some m,some v,hi=>
   simp at hi;subst hi;rw[hd,h i m v hm hb];grind
  |none,_,hi=>simp at hi
  |some m,none,hi=>simp at hi
 ·
  intro h i r v hr hv;have:=h (wider wide r v) (List.mem_iff_getElem?.2 ⟨i,by rw[List.getElem?_zipWith,hr,hv]⟩);rw[hd] at this;grind
theorem Qiv{wide:Nat}{M:List Vec}{b:List Rat}{S:List Vec}{hs:List Nat}(h:Ech 0 (wide+1) S hs)(hn:∀x,Null (wide+1) (List.zipWith (wider wide) M b) x↔Null (wide+1) S x)(hw:wide∈ hs)(x:Vec):¬Sol wide M b x:=by
 intro hx;have h1:=(hn _).1 (sol_null.1 hx);obtain⟨r,r1,r2,r3⟩:=h.row wide hw;have h2:=h1 r r1;rw[Qck (wide+1) r _ wide (by omega) (fun c hc hne=>by rw[r3 c (by omega)];grind)] at h2;unfold wider at h2;rw[if_pos rfl] at h2;grind
theorem Qiw{wide:Nat}{M:List Vec}{b:List Rat}{S:List Vec}{hs:List Nat}(h:Ech 0 (wide+1) S hs)(hn:∀x,Null (wide+1) (List.zipWith (wider wide) M b) x↔Null (wide+1) S x)(hw:wide ∉ hs)(hl:hs.length<wide):
 ∃x y:Vec,Sol wide M b x/\Sol wide M b y/\∃c,c<wide/\x c≠y c:=by
 obtain⟨c,_,c2,c3⟩:=(h.last (Nat.zero_le _) hw).hole (by omega);have hs':∀f:Vec,∃x:Vec,(∀i,i ∉ hs->i≠wide->x i=f i)/\Sol wide M b x:=fun f=>by
  obtain⟨y,y1,y2⟩:=h.solve (wide+1) (wider wide f (-1)) lZ;refine⟨y,fun i hi hne=>?_,sol_null.2 ?_⟩
  · rw[y1 i hi];unfold wider;rw[if_neg hne]
  ·
   rw[hn];have e:wider wide y (-1)=y:=by
    funext i;unfold wider;by_cases e:i=wide
    ·
     subst e;rw[if_pos rfl,y1 i hw];unfold wider;rw[if_pos rfl]
    · rw[if_neg e]
   rw[e];exact y2
 obtain⟨x,x1,x2⟩:=hs' (fun _=>0);obtain⟨y,y1,y2⟩:=hs' (fun _=>1);refine⟨x,y,x2,y2,c,c2,?_⟩;rw[x1 c c3 (by omega),y1 c c3 (by omega)];decide
theorem Qix{wide:Nat}{M:List Vec}{b:List Rat}{S:List Vec}{hs:List Nat}(h:Ech 0 (wide+1) S hs)(hn:∀x,Null (wide+1) (List.zipWith (wider wide) M b) x↔Null (wide+1) S x)(hw:wide ∉ hs)(hl:¬hs.length<wide):
 hs.length=wide/\(∀i h:Nat,hs[i]?=some h->h=i)/\∀x:Vec,Sol wide M b x↔∀(i:Nat) (r:Vec),(cln S hs)[i]?=some r->x i=r wide:=by
 have h0:=h.last (Nat.zero_le _) hw;have hc:=h0.count;have hlen:hs.length=wide:=by omega
 have hall:∀i h:Nat,hs[i]?=some h->h=i:=fun i k e=>by have:=h0.all (by omega) i k e;omega
 refine⟨hlen,hall,fun x=>?_⟩;obtain⟨k1,k2⟩:=Qdt (wide+1) h;rw[sol_null,hn,<-k2];have hd:∀(i:Nat) (r:Vec),(cln S hs)[i]?=some r->dot (wide+1) r (wider wide x (-1))=x i - r wide:=fun i r hr=>by
  have hi:i<wide:=by
   have h1:=(gZ hr).1;rw[Qdu S hs h.len,h.len] at h1;omega
  obtain⟨g,hg⟩:∃g,hs[i]?=some g:=⟨hs[i]'(by omega),gE (by omega)⟩;obtain rfl:=hall i g hg;obtain⟨a1,a2,a3⟩:=k1.at _ r _ hr hg;simp only[dot];rw[Qck wide r _ g hi (fun c hc hne=>?_),a1]
  ·
   unfold wider;rw[if_pos rfl,if_neg (by omega)];grind
  ·
   have:r c=0:=by
    rcases Nat.lt_or_ge c g with h1|h1
    · exact a2 c h1
    ·
     refine a3 c ?_ (by omega);obtain⟨u,hu⟩:∃u,hs[c]?=some u:=⟨hs[c]'(by omega),gE (by omega)⟩;obtain rfl:=hall c u hu;exact mO hu
   rw[this];grind
 constructor
 ·
  intro hx i r hr;have:=hx r (mO hr);rw[hd i r hr] at this;grind
 ·
  intro hx r hr;obtain⟨i,hi⟩:=List.mem_iff_getElem?.1 hr;rw[hd i r hi,hx i r hi];grind
end Go.Proofs.YtfpcipgoedifaaaGreatDoor
