import Derived.Test.YtkkadnoecklepaaGreatDoorG12RowsG
namespace Go.Proofs.YtkkadnoecklepaaGreatDoor
open Go.RowKit
open Go.Proofs.Tryz
set_option linter.unusedSimpArgs false
set_option linter.unusedVariables false
set_option maxHeartbeats 8000000
set_option maxRecDepth 1000000
abbrev Vec:=Nat->Rat
def dot:Nat->Vec->Vec->Rat
 |0,_,_=>0
 |n+1,r,x=>dot n r x+r n*x n
theorem Qac:∀(W:Nat) (r x s y:Vec),(∀c,c<W->r c*x c=s c*y c)->dot W r x=dot W s y
 |0,_,_,_,_,_=>rfl
 |n+1,r,x,s,y,h=>by
  simp only[dot];rw[Qac n r x s y (fun c a=>h c (by omega)),h n (by omega)]
theorem Qbv:∀(W:Nat) (r x:Vec),(∀c,c<W->r c*x c=0)->dot W r x=0
 |0,_,_,_=>rfl
 |n+1,r,x,h=>by
  simp only[dot];rw[Qbv n r x (fun c a=>h c (by omega)),h n (by omega)];grind
theorem Qbw:∀(W:Nat) (r s x:Vec) (q:Rat),dot W (fun i=>r i - s i*q) x=dot W r x - q*dot W s x
 |0,_,_,_,_=>by simp only[dot];grind
 |n+1,r,s,x,q=>by
  simp only[dot];rw[Qbw n r s x q];grind
theorem Qd0:∀(W:Nat) (r x:Vec) (q:Rat),dot W (fun i=>r i / q) x=dot W r x / q
 |0,_,_,_=>by simp only[dot];grind
 |n+1,r,x,q=>by
  simp only[dot];rw[Qd0 n r x q];grind
theorem Qd1:∀(W:Nat) (r x y:Vec),dot W r (fun i=>x i - y i)=dot W r x - dot W r y
 |0,_,_,_=>by simp only[dot];grind
 |n+1,r,x,y=>by
  simp only[dot];rw[Qd1 n r x y];grind
def upd(x:Vec)(h:Nat)(v:Rat):Vec:=fun c=>if c=h then v else x c
theorem Qcc(x:Vec)(h:Nat)(v:Rat):upd x h v h=v:=if_pos rfl
theorem Qat(x:Vec){h c:Nat}(v:Rat)(a:c≠h):upd x h v c=x c:=if_neg a
theorem Qd2:∀(W:Nat) (r x:Vec) (h:Nat) (v:Rat),h<W->dot W r (upd x h v)=dot W r x+r h*(v - x h)
 |0,_,_,_,_,hh=>by omega
 |n+1,r,x,h,v,hh=>by
  simp only[dot];by_cases e:h=n
  .
   subst e;rw[Qac h r (upd x h v) r x (fun c a=>by rw[Qat _ _ (by omega)]),Qcc];grind
  . rw[Qd2 n r x h v (by omega),Qat _ _ (Ne.symm e)]
    grind
theorem Qjb(W:Nat)(r x:Vec)(h:Nat)(b:h<W)(d:∀c,c<W->c≠h->r c*x c=0):dot W r x=r h*x h:=by
 have a:=Qd2 W r (upd x h 0) h (x h) b;have f:upd (upd x h 0) h (x h)=x:=by
  funext c;by_cases e:c=h
  . subst e;rw[Qcc]
  . rw[Qat _ _ e,Qat _ _ e]
 rw[f,Qbv W r (upd x h 0) (fun c g=>?_),Qcc] at a
 . rw[a];grind
 .
  by_cases e:c=h
  . subst e;rw[Qcc];grind
  . rw[Qat _ _ e];exact d c g e
def Null(W:Nat)(S:List Vec)(x:Vec):Prop:=∀r,r∈ S->dot W r x=0
theorem Null.cons{W:Nat}{r:Vec}{S:List Vec}{x:Vec}:Null W (r :: S) x↔dot W r x=0/\Null W S x:=by
 unfold Null;simp
theorem Null.app{W:Nat}{S T:List Vec}{x:Vec}:Null W (S++T) x↔Null W S x/\Null W T x:=by
 unfold Null;simp only[List.mem_append];exact⟨fun h=>⟨fun r a=>h r (.inl a),fun r a=>h r (.inr a)⟩,fun h r a=>a.elim (h.1 r) (h.2 r)⟩
def Ech:Nat->Nat->List Vec->List Nat->Prop
 |lo,hi,[],[]=>lo<=hi
 |lo,hi,r :: S,h :: hs=>lo<=h/\r h≠0/\(∀c,c<h->r c=0)/\Ech (h+1) hi S hs
 |_,_,_,_=>False
theorem Ech.le:∀{S:List Vec} {b:Vy} {lo a:Nat},Ech lo a S b->lo<=a
 | [],[],_,_,h=>h
 |r :: S,h :: b,lo,a,⟨h1,_,_,h2⟩=>by have:=Ech.le h2;omega
 | [],_ :: _,_,_,h=>h.elim
 |r :: S,[],_,_,h=>h.elim
theorem Ech.len:∀{S:List Vec} {a:Vy} {lo b:Nat},Ech lo b S a->S.length=a.length
 | [],[],_,_,h=>rfl
 |r :: S,h :: a,lo,b,⟨_,_,_,h2⟩=>by have:=Ech.len h2;simp only[List.length_cons];omega
 | [],_ :: _,_,_,h=>h.elim
 |r :: S,[],_,_,h=>h.elim
theorem Ech.mono:∀{S:List Vec} {b:Vy} {lo c a:Nat},Ech lo c S b->c<=a->Ech lo a S b
 | [],[],_,_,_,h,k=>Nat.le_trans h k
 |r :: S,h :: b,lo,c,a,⟨h1,h2,h3,h4⟩,k=>⟨h1,h2,h3,h4.mono k⟩
 | [],_ :: _,_,_,_,h,_=>h.elim
 |r :: S,[],_,_,_,h,_=>h.elim
theorem Ech.head:∀{S:List Vec} {b:Vy} {lo d:Nat},Ech lo d S b->∀c,c∈ b->lo<=c/\c<d
 | [],[],_,_,h,c,a=>by cases a
 |r :: S,h :: b,lo,d,⟨h1,h2,h3,h4⟩,c,a=>by
  rcases List.mem_cons.1 a with rfl|a
  . have:=h4.le;omega
  . have:=h4.head c a;omega
 | [],_ :: _,_,_,h,_,_=>h.elim
 |r :: S,[],_,_,h,_,_=>h.elim
theorem Ech.zero:∀{S:List Vec} {b:Vy} {lo d:Nat},Ech lo d S b->∀r,r∈ S->∀c,c<lo->r c=0
 | [],[],_,_,h,r,a,_,_=>by cases a
 |s :: S,h :: b,lo,d,⟨h1,h2,h3,h4⟩,r,a,c,hc=>by
  rcases List.mem_cons.1 a with rfl|a
  . exact h3 c (by omega)
  . exact h4.zero r a c (by omega)
 | [],_ :: _,_,_,h,_,_,_,_=>h.elim
 |r :: S,[],_,_,h,_,_,_,_=>h.elim
theorem Ech.snoc:∀{S:List Vec} {b:Vy} {lo a c:Nat} {s:Vec},Ech lo a S b->a<=c->s c≠0->(∀i,i<c->s i=0)->Ech lo (c+1) (S++ [s]) (b++ [c])
 | [],[],lo,a,c,s,h,k,h1,h2=>⟨Nat.le_trans h k,h1,h2,Nat.le_refl _⟩
 |r :: S,h :: b,lo,a,c,s,⟨h1,h2,h3,h4⟩,k,k1,k2=>⟨h1,h2,h3,h4.snoc k k1 k2⟩
 | [],_ :: _,_,_,_,_,h,_,_,_=>h.elim
 |r :: S,[],_,_,_,_,h,_,_,_=>h.elim
theorem Ech.solve(W:Nat)(f:Vec):∀{S:List Vec} {a:Vy} {lo b:Nat},Ech lo b S a->b<=W->∃x:Vec,(∀c,c ∉ a->x c=f c)/\Null W S x
 | [],[],_,_,_,_=>⟨f,fun _ _=>rfl,fun r g=>by cases g⟩
 |r :: S,h :: a,lo,b,⟨h1,h2,h3,h4⟩,hW=>by
  obtain⟨x,i,j⟩:=h4.solve W f hW;have e:h<W:=by have:=h4.le;omega
  refine⟨upd x h (x h - dot W r x / r h),fun c d=>?_,Null.cons.2 ⟨?_,fun s a=>?_⟩⟩
  .
   simp only[List.mem_cons,not_or] at d;rw[Qat _ _ d.1];exact i c d.2
  . rw[Qd2 _ _ _ _ _ e]
    grind
  . rw[Qd2 _ _ _ _ _ e,j s a,h4.zero s a h (by omega)]
    grind
 | [],_ :: _,_,_,h,_=>h.elim
 |r :: S,[],_,_,h,_=>h.elim
def lessBy(c:Nat)(s r:Vec):Vec:=fun i=>r i - s i*(r c / s c)
structure Elim (W:Nat) (M:List Vec) (c:Nat) (L S:List Vec) (hs:Vy):Prop where
 ech:Ech 0 c S hs
 zero:∀r,r∈ L->∀i,i<c->r i=0
 null:∀x,Null W M x↔Null W L x/\Null W S x
theorem Elim.start(W:Nat)(M:List Vec):Elim W M 0 M [] []:=⟨Nat.le_refl _,fun _ _ i b=>by omega,fun x=>⟨fun h=>⟨h,fun r a=>by cases a⟩,fun h=>h.1⟩⟩
theorem Elim.skip{W c:Nat}{M L S:List Vec}{a:Vy}(h:Elim W M c L S a)(e:∀r,r∈ L->r c=0):Elim W M (c+1) L S a:=
 ⟨h.ech.mono (Nat.le_succ _),fun r b i f=>by
   rcases Nat.lt_or_ge i c with d|d
   . exact h.zero r b i d
   . obtain rfl:i=c:=by omega
     exact e r b,h.null⟩
theorem Elim.step{W c j:Nat}{M L S:List Vec}{m:Vy}{s:Vec}(h:Elim W M c L S m)(n:L[j]?=some s)(u:s c≠0):Elim W M (c+1) ((L.eraseIdx j).map (lessBy c s)) (S++ [s]) (m++ [c]):=by
 have b:s∈ L:=mO n;have o:∀i,i<c->s i=0:=h.zero s b;refine⟨h.ech.snoc lZ u o,fun r d i f=>?_,fun x=>?_⟩
 .
  obtain⟨t,g,rfl⟩:=List.mem_map.1 d;have k:=List.mem_of_mem_eraseIdx g;unfold lessBy;rcases Nat.lt_or_ge i c with a|a
  . rw[o i a,h.zero t k i a];grind
  . obtain rfl:i=c:=by omega
    grind
 .
  rw[h.null x,Null.app];have p:∀t:Vec,dot W s x=0->(dot W (lessBy c s t) x=0↔dot W t x=0):=fun t a=>by
   unfold lessBy;rw[Qbw,a];grind
  constructor
  .
   rintro⟨a,l⟩;refine⟨fun r d=>?_,l,fun r d=>?_⟩
   . obtain⟨t,g,rfl⟩:=List.mem_map.1 d
     exact(p t (a s b)).2 (a t (List.mem_of_mem_eraseIdx g))
   . obtain rfl:r=s:=by simpa using d
     exact a r b
  .
   rintro⟨a,l,v⟩;have q:dot W s x=0:=v s (by simp);refine⟨fun r d=>?_,l⟩;obtain⟨i,f⟩:=List.mem_iff_getElem?.1 d;by_cases e:i=j
   .
    subst e;obtain rfl:=Option.some.inj (n.symm.trans f);exact q
   . have w:r∈ L.eraseIdx j:=List.mem_eraseIdx_iff_getElem?.2 ⟨i,e,f⟩
     exact(p r q).1 (a _ (List.mem_map.2 ⟨r,w,rfl⟩))
theorem Elim.done{W:Nat}{M L S:List Vec}{a:Vy}(h:Elim W M W L S a):Ech 0 W S a/\∀x,Null W M x↔Null W S x:=by
 refine⟨h.ech,fun x=>?_⟩;rw[h.null x];exact⟨fun k=>k.2,fun k=>⟨fun r b=>Qbv W r x fun c d=>by rw[h.zero r b c d];grind,k⟩⟩
def red(r:Vec):List Vec->List Nat->Vec
 |t :: T,h :: hs=>red (fun i=>r i - t i*r h) T hs
 |_,_=>r
def cln:List Vec->List Nat->List Vec
 |r :: S,h :: hs=>red (fun i=>r i / r h) (cln S hs) hs :: cln S hs
 |_,_=>[]
def Cln:Nat->Nat->List Vec->List Nat->Prop
 |lo,hi,[],[]=>lo<=hi
 |lo,hi,r :: S,h :: hs=>lo<=h/\r h=1/\(∀c,c<h->r c=0)/\(∀c,c∈ hs->r c=0)/\Cln (h+1) hi S hs
 |_,_,_,_=>False
theorem Cln.ech:∀{S:List Vec} {a:Vy} {lo b:Nat},Cln lo b S a->Ech lo b S a
 | [],[],_,_,h=>h
 |r :: S,h :: a,lo,b,⟨h1,h2,h3,_,h4⟩=>⟨h1,by rw[h2];decide,h3,Cln.ech h4⟩
 | [],_ :: _,_,_,h=>h.elim
 |r :: S,[],_,_,h=>h.elim
theorem Qjc(W:Nat):∀{T:List Vec} {a:Vy} {lo f:Nat} (r:Vec),Cln lo f T a->(∀c,c<lo->red r T a c=r c)/\(∀c,c∈ a->red r T a c=0)/\∀x,Null W T x->dot W (red r T a) x=dot W r x
 | [],[],_,_,r,_=>⟨fun _ _=>rfl,fun c b=>by(cases b),fun _ _=>rfl⟩
 |t :: T,h :: a,lo,f,r,⟨h1,h2,h3,h4,h5⟩=>by
  obtain⟨k1,k2,g⟩:=Qjc W (fun i=>r i - t i*r h) h5;refine⟨fun c b=>?_,fun c b=>?_,fun x j=>?_⟩
  .
   simp only[red];rw[k1 c (by omega),h3 c (by omega)];grind
  .
   simp only[red];rcases List.mem_cons.1 b with rfl|b
   . rw[k1 c (by omega),h2]
     grind
   . exact k2 c b
  .
   obtain⟨d,e⟩:=Null.cons.1 j;simp only[red];rw[g x e,Qbw,d];grind
 | [],_ :: _,_,_,_,h=>h.elim
 |r :: S,[],_,_,_,h=>h.elim
theorem Qd3(W:Nat):∀{S:List Vec} {a:Vy} {lo d:Nat},Ech lo d S a->Cln lo d (cln S a) a/\∀x,Null W (cln S a) x↔Null W S x
 | [],[],_,_,h=>⟨h,fun _=>Iff.rfl⟩
 |r :: S,h :: a,lo,d,⟨h1,h2,h3,h4⟩=>by
  obtain⟨k1,k2⟩:=Qd3 W h4;obtain⟨f,j,g⟩:=Qjc W (fun i=>r i / r h) k1;refine⟨⟨h1,?_,fun c k=>?_,j,k1⟩,fun x=>?_⟩
  . rw[f h (by omega)];grind
  . rw[f c (by omega),h3 c k];grind
  .
   simp only[cln];rw[Null.cons,Null.cons,k2 x];constructor
   .
    rintro⟨e,b⟩;rw[g x ((k2 x).2 b),Qd0] at e;exact⟨by grind,b⟩
   .
    rintro⟨e,b⟩;rw[g x ((k2 x).2 b),Qd0,e];exact⟨by grind,b⟩
 | [],_ :: _,_,_,h=>h.elim
 |r :: S,[],_,_,h=>h.elim
theorem Qd4:∀(S:List Vec) (a:Vy),S.length=a.length->(cln S a).length=S.length
 | [],_,_=>rfl
 |r :: S,h :: a,k=>by simp only[cln,List.length_cons];rw[Qd4 S a (by simpa using k)]
 |r :: S,[],k=>by simp at k
theorem Ech.count:∀{S:List Vec} {a:Vy} {lo b:Nat},Ech lo b S a->a.length<=b - lo
 | [],[],_,_,_=>Nat.zero_le _
 |r :: S,h :: a,lo,b,⟨h1,_,_,h4⟩=>by have:=h4.count;have:=h4.le;simp only[List.length_cons];omega
 | [],_ :: _,_,_,h=>h.elim
 |r :: S,[],_,_,h=>h.elim
theorem Ech.hole:∀{S:List Vec} {b:Vy} {lo a:Nat},Ech lo a S b->b.length<a - lo->∃c,lo<=c/\c<a/\c ∉ b
 | [],[],lo,a,_,k=>⟨lo,Nat.le_refl _,by simp at k;omega,by simp⟩
 |r :: S,h :: b,lo,a,⟨h1,_,_,h4⟩,k=>by
  have f:=h4.le;simp only[List.length_cons] at k;rcases Nat.lt_or_ge lo h with g|g
  .
   refine⟨lo,Nat.le_refl _,by omega,fun d=>?_⟩;rcases List.mem_cons.1 d with e|e
   . omega
   . have:=(h4.head lo e).1;omega
  .
   obtain⟨c,c1,c2,c3⟩:=h4.hole (by omega);refine⟨c,by omega,c2,fun d=>?_⟩;rcases List.mem_cons.1 d with e|e
   . omega
   . exact c3 e
 | [],_ :: _,_,_,h,_=>h.elim
 |r :: S,[],_,_,h,_=>h.elim
theorem Ech.all:∀{S:List Vec} {a:Vy} {lo b:Nat},Ech lo b S a->a.length=b - lo->∀i h,a[i]?=some h->h=lo+i
 | [],[],lo,b,_,k,i,h,e=>by simp at e
 |r :: S,h :: a,lo,b,⟨h1,_,_,h4⟩,k,i,g,e=>by
  have c:=h4.le;have d:=h4.count;simp only[List.length_cons] at k;obtain rfl:h=lo:=by omega
  match i,e with
  |0,e=>simp at e;omega
  |i+1,e=>
   have:=h4.all (by omega) i g (by simpa using e);omega
 | [],_ :: _,_,_,h,_,_,_,_=>h.elim
 |r :: S,[],_,_,h,_,_,_,_=>h.elim
theorem Ech.last:∀{S:List Vec} {a:Vy} {lo n:Nat},Ech lo (n+1) S a->lo<=n->n ∉ a->Ech lo n S a
 | [],[],lo,n,_,k,_=>k
 |r :: S,h :: a,lo,n,⟨h1,h2,h3,h4⟩,k,hn=>by
  have b:=h4.le;simp only[List.mem_cons,not_or] at hn;exact⟨h1,h2,h3,h4.last (by omega) hn.2⟩
 | [],_ :: _,_,_,h,_,_=>h.elim
 |r :: S,[],_,_,h,_,_=>h.elim
theorem Ech.row:∀{S:List Vec} {b:Vy} {lo d:Nat},Ech lo d S b->∀h,h∈ b->∃r,r∈ S/\r h≠0/\∀c,c<h->r c=0
 | [],[],_,_,_,h,a=>by cases a
 |r :: S,k :: b,lo,d,⟨h1,h2,h3,h4⟩,h,a=>by
  rcases List.mem_cons.1 a with rfl|a
  . exact⟨r,List.mem_cons_self,h2,h3⟩
  . obtain⟨s,e,f⟩:=h4.row h a
    exact⟨s,List.mem_cons_of_mem _ e,f⟩
 | [],_ :: _,_,_,h,_,_=>h.elim
 |r :: S,[],_,_,h,_,_=>h.elim
theorem Cln.at:∀{S:List Vec} {d:Vy} {lo f:Nat},Cln lo f S d->∀(i:Nat) (r:Vec) (h:Nat),S[i]?=some r->d[i]?=some h->r h=1/\(∀c,c<h->r c=0)/\∀c,c∈ d->h<c->r c=0
 | [],[],_,_,_,i,r,h,e,_=>by simp at e
 |s :: S,k :: d,lo,f,⟨h1,h2,h3,h4,h5⟩,i,r,h,e,e'=>by
  match i,e,e' with
  |0,e,e'=>
   simp at e e';subst e;subst e';refine⟨h2,h3,fun c a b=>?_⟩;rcases List.mem_cons.1 a with rfl|a
   . omega
   . exact h4 c a
  |i+1,e,e'=>
   obtain⟨g,j,l⟩:=h5.at i r h (by simpa using e) (by simpa using e');refine⟨g,j,fun c a b=>?_⟩;rcases List.mem_cons.1 a with rfl|a
   . have:=(h5.ech.head h (mO (by simpa using e'))).1
     omega
   . exact l c a b
 | [],_ :: _,_,_,h,_,_,_,_,_=>h.elim
 |r :: S,[],_,_,h,_,_,_,_,_=>h.elim
def wider(wide:Nat)(r:Vec)(v:Rat):Vec:=fun c=>if c=wide then v else r c
theorem Qqe(wide:Nat)(r:Vec)(v:Rat)(y:Vec):dot (wide+1) (wider wide r v) y=dot wide r y+v*y wide:=by
 simp only[dot];rw[Qac wide (wider wide r v) y r y (fun c a=>by unfold wider;rw[if_neg (by omega)])];unfold wider;rw[if_pos rfl]
def Sol(wide:Nat)(M:List Vec)(b:List Rat)(x:Vec):Prop:=∀(i:Nat) (r:Vec) (v:Rat),M[i]?=some r->b[i]?=some v->dot wide r x=v
theorem sol_null{wide:Nat}{M:List Vec}{b:List Rat}{x:Vec}:Sol wide M b x↔Null (wide+1) (List.zipWith (wider wide) M b) (wider wide x (-1)):=by
 have e:∀(r:Vec) (v:Rat),dot (wide+1) (wider wide r v) (wider wide x (-1))=dot wide r x - v:=fun r v=>by
  rw[Qqe,Qac wide r (wider wide x (-1)) r x (fun c g=>by unfold wider;rw[if_neg (by omega)])];unfold wider;rw[if_pos rfl];grind
 constructor
 .
  intro h r d;obtain⟨i,a⟩:=List.mem_iff_getElem?.1 d;rw[List.getElem?_zipWith] at a
  match hm:M[i]?,hb:b[i]?,a with
  |some m,some v,a=>
   simp at a;subst a;rw[e,h i m v hm hb];grind
  |none,_,a=>simp at a
  |some m,none,a=>simp at a
 .
  intro h i r v d f;have:=h (wider wide r v) (List.mem_iff_getElem?.2 ⟨i,by rw[List.getElem?_zipWith,d,f]⟩);rw[e] at this;grind
theorem Qjd{wide:Nat}{M:List Vec}{b:List Rat}{S:List Vec}{d:Vy}(h:Ech 0 (wide+1) S d)(e:∀x,Null (wide+1) (List.zipWith (wider wide) M b) x↔Null (wide+1) S x)(f:wide∈ d)(x:Vec):¬Sol wide M b x:=by
 intro g;have i:=(e _).1 (sol_null.1 g);obtain⟨r,j,m,k⟩:=h.row wide f;have a:=i r j;rw[Qjb (wide+1) r _ wide (by omega) (fun c n l=>by rw[k c (by omega)];grind)] at a;unfold wider at a;rw[if_pos rfl] at a;grind
theorem Qje{wide:Nat}{M:List Vec}{b:List Rat}{S:List Vec}{d:Vy}(h:Ech 0 (wide+1) S d)(k:∀x,Null (wide+1) (List.zipWith (wider wide) M b) x↔Null (wide+1) S x)(j:wide ∉ d)(hl:d.length<wide):
 ∃x y:Vec,Sol wide M b x/\Sol wide M b y/\∃c,c<wide/\x c≠y c:=by
 obtain⟨c,_,c2,c3⟩:=(h.last (Nat.zero_le _) j).hole (by omega);have a:∀f:Vec,∃x:Vec,(∀i,i ∉ d->i≠wide->x i=f i)/\Sol wide M b x:=fun f=>by
  obtain⟨y,y1,y2⟩:=h.solve (wide+1) (wider wide f (-1)) lZ;refine⟨y,fun i l g=>?_,sol_null.2 ?_⟩
  . rw[y1 i l];unfold wider;rw[if_neg g]
  .
   rw[k];have e:wider wide y (-1)=y:=by
    funext i;unfold wider;by_cases e:i=wide
    .
     subst e;rw[if_pos rfl,y1 i j];unfold wider;rw[if_pos rfl]
    . rw[if_neg e]
   rw[e];exact y2
 obtain⟨x,x1,x2⟩:=a (fun _=>0);obtain⟨y,y1,y2⟩:=a (fun _=>1);refine⟨x,y,x2,y2,c,c2,?_⟩;rw[x1 c c3 (by omega),y1 c c3 (by omega)];decide
theorem Qjf{wide:Nat}{M:List Vec}{b:List Rat}{S:List Vec}{a:Vy}(h:Ech 0 (wide+1) S a)(t:∀x,Null (wide+1) (List.zipWith (wider wide) M b) x↔Null (wide+1) S x)(v:wide ∉ a)(hl:¬a.length<wide):
 a.length=wide/\(∀i h:Nat,a[i]?=some h->h=i)/\∀x:Vec,Sol wide M b x↔∀(i:Nat) (r:Vec),(cln S a)[i]?=some r->x i=r wide:=by
 have o:=h.last (Nat.zero_le _) v;have w:=o.count;have j:a.length=wide:=by omega
 have d:∀i h:Nat,a[i]?=some h->h=i:=fun i k e=>by have:=o.all (by omega) i k e;omega
 refine⟨j,d,fun x=>?_⟩;obtain⟨k1,k2⟩:=Qd3 (wide+1) h;rw[sol_null,t,<-k2];have p:∀(i:Nat) (r:Vec),(cln S a)[i]?=some r->dot (wide+1) r (wider wide x (-1))=x i - r wide:=fun i r f=>by
  have l:i<wide:=by
   have m:=(gZ f).1;rw[Qd4 S a h.len,h.len] at m;omega
  obtain⟨g,q⟩:∃g,a[i]?=some g:=⟨a[i]'(by omega),gE (by omega)⟩;obtain rfl:=d i g q;obtain⟨y,z,A⟩:=k1.at _ r _ f q;simp only[dot];rw[Qjb wide r _ g l (fun c w B=>?_),y]
  .
   unfold wider;rw[if_pos rfl,if_neg (by omega)];grind
  .
   have:r c=0:=by
    rcases Nat.lt_or_ge c g with m|m
    . exact z c m
    .
     refine A c ?_ (by omega);obtain⟨u,s⟩:∃u,a[c]?=some u:=⟨a[c]'(by omega),gE (by omega)⟩;obtain rfl:=d c u s;exact mO s
   rw[this];grind
 constructor
 .
  intro n i r f;have:=n r (mO f);rw[p i r f] at this;grind
 .
  intro n r f;obtain⟨i,l⟩:=List.mem_iff_getElem?.1 f;rw[p i r l,n i r l];grind
namespace Sg
theorem Qln:∀(M N:Nat) (f:Nat→Nat),M<N→(∀n,n<N→f n<M)→∃a b,a<b∧b<N∧f a=f b
 |0,N,f,h,hf=>absurd (hf 0 (by omega)) (by omega)
 |M+1,0,f,h,hf=>absurd h (by omega)
 |M+1,N+1,f,h,hf=>by
  by_cases i:∃a,a<N∧f a=f N
  · obtain⟨a,j,e⟩:=i
    exact⟨a,N,j,by omega,e⟩
  ·
   have c:∀n,n<N→f n≠f N:=fun n d e=>i ⟨n,d,e⟩
   obtain⟨a,b,g,k,e⟩:=Qln M N (fun n=>if f N<f n then f n - 1 else f n) (by omega) (fun n d=>by
    have l:=hf n (by omega);have m:=hf N (by omega);have o:=c n d
    show (if f N<f n then f n - 1 else f n)<M
    split<;>omega)
   refine⟨a,b,g,by omega,?_⟩;have l:=c a (by omega);have m:=c b k
   split at e<;>split at e<;>omega
def isum:Nat→(Nat→Int)→Int
 |0,_=>0
 |n+1,f=>isum n f+f n
theorem Qlo:∀(n:Nat) (f g:Nat→Int),isum n (fun j=>f j - g j)=isum n f - isum n g
 |0,_,_=>by simp[isum]
 |n+1,f,g=>by simp only[isum,Qlo n f g];omega
theorem Qlp:∀(n:Nat) (f g:Nat→Int),(∀j,j<n→f j=g j)→isum n f=isum n g
 |0,_,_,_=>rfl
 |n+1,f,g,h=>by simp only[isum];rw[Qlp n f g (fun j a=>h j (by omega)),h n (by omega)]
theorem isum_le:∀(n:Nat) (f:Nat→Int) (l u:Int),(∀j,j<n→l≤f j∧f j≤u)→n*l≤isum n f∧isum n f≤n*u
 |0,_,_,_,_=>by simp[isum]
 |n+1,f,l,u,h=>by
  have c:=isum_le n f l u (fun j d=>h j (by omega));have e:=h n (by omega);simp only[isum];have a:((n+1:Nat):Int)*l=n*l+l:=by rw[Int.natCast_add,Int.add_mul];simp
  have b:((n+1:Nat):Int)*u=n*u+u:=by rw[Int.natCast_add,Int.add_mul];simp
  rw[a,b];omega
def dig(B n j:Nat):Nat:=n / B ^ j % B
theorem Qg0{B:Nat}(hB:0<B)(n j:Nat):dig B n j<B:=Nat.mod_lt _ hB
theorem Qlq{B:Nat}(hB:0<B):∀(k m n:Nat),m<B ^ k→n<B ^ k→(∀j,j<k→dig B m j=dig B n j)→m=n
 |0,m,n,hm,hn,_=>by simp at hm hn;omega
 |k+1,m,n,hm,hn,h=>by
  have a:m % B=n % B:=by have:=h 0 (by omega);simpa [dig] using this
  have b:m / B=n / B:=Qlq hB k (m / B) (n / B) (by rw[Nat.div_lt_iff_lt_mul hB];rwa [Nat.pow_succ] at hm) (by rw[Nat.div_lt_iff_lt_mul hB];rwa [Nat.pow_succ] at hn) (fun j c=>by
   have:=h (j+1) (by omega);simp only[dig] at this ⊢;rw[Nat.div_div_eq_div_mul,Nat.div_div_eq_div_mul,←Nat.pow_succ']
   exact this)
  rw[←Nat.div_add_mod m B,←Nat.div_add_mod n B,a,b]
def code(D:Nat)(v:Nat→Nat):Nat→Nat
 |0=>0
 |k+1=>code D v k+v k*D ^ k
theorem Qeu{D:Nat}{v:Nat→Nat}:∀(k:Nat),(∀i,i<k→v i<D)→code D v k<D ^ k
 |0,_=>by simp[code]
 |k+1,h=>by
  have b:=Qeu k (fun i c=>h i (by omega));have a:=h k (by omega);simp only[code,Nat.pow_succ];have d:v k*D ^ k+D ^ k≤D ^ k*D:=by
   rw[Nat.mul_comm (D ^ k) D,←Nat.succ_mul];exact Nat.mul_le_mul_right _ a
  omega
theorem Qlr{D:Nat}{v u:Nat→Nat}:∀(k:Nat),(∀i,i<k→v i<D)→(∀i,i<k→u i<D)→code D v k=code D u k→∀i,i<k→v i=u i
 |0,_,_,_,i,a=>absurd a (by omega)
 |k+1,hv,hu,e,i,a=>by
  have d:=Qeu k (fun i a=>hv i (by omega));have f:=Qeu k (fun i a=>hu i (by omega));simp only[code] at e;have c:v k=u k:=by
   have g:(code D v k+v k*D ^ k) / D ^ k=v k:=by
    rw[Nat.add_mul_div_right _ _ (by omega),Nat.div_eq_of_lt d,Nat.zero_add]
   have h:(code D u k+u k*D ^ k) / D ^ k=u k:=by
    rw[Nat.add_mul_div_right _ _ (by omega),Nat.div_eq_of_lt f,Nat.zero_add]
   rw[←g,e,h]
  rw[c] at e;by_cases b:i=k
  · rw[b];exact c
  · exact Qlr k (fun i a=>hv i (by omega)) (fun i a=>hu i (by omega)) (by omega) i (by omega)
theorem Qvi{a B:Nat}{z:Int}{x:Nat}(h: -(a:Int)≤z∧z≤a)(b:x≤B): -((a*B:Nat):Int)≤z*x∧z*x≤((a*B:Nat):Int):=by
 have c:z.natAbs≤a:=by omega
 have d:(z*x).natAbs≤a*B:=by
  rw[Int.natAbs_mul,Int.natAbs_natCast];exact Nat.mul_le_mul c b
 omega
theorem siegel(k a:Nat)(s:0<a)(A:Nat→Nat→Int)(t:∀i j,i<k→j<k+1→ -(a:Int)≤A i j∧A i j≤a):
 ∃y:Nat→Int,(∃j,j<k+1∧y j≠0)∧(∀i,i<k→isum (k+1) (fun j=>A i j*y j)=0)∧∀j,(y j).natAbs≤(2*((k+1)*a)) ^ k:=by
 obtain⟨E,d⟩:∃E,2*((k+1)*a)=E:=⟨_,rfl⟩;have u:0<E:=by rw[←d];exact Nat.mul_pos (by omega) (Nat.mul_pos (by omega) s)
 rw[d];obtain⟨B,hB⟩:∃B,E ^ k=B:=⟨_,rfl⟩;rw[hB];have c:0<B+1:=by omega
 obtain⟨H,o⟩:∃H,(k+1)*(a*B)=H:=⟨_,rfl⟩;have v:E*B=2*H:=by rw[←d,←o,Nat.mul_assoc,Nat.mul_assoc]
 have f:∀n i,i<k→ -(H:Int)≤isum (k+1) (fun j=>A i j*(dig (B+1) n j:Int))∧isum (k+1) (fun j=>A i j*(dig (B+1) n j:Int))≤H:=fun n i b=>by
  have:=isum_le (k+1) (fun j=>A i j*(dig (B+1) n j:Int)) (-((a*B:Nat):Int)) ((a*B:Nat):Int) (fun j g=>Qvi (t i j b g) (by have:=Qg0 c n j;omega));rw[Int.mul_neg,←Int.natCast_mul,o] at this;exact this
 have h:∀n i,i<k→(isum (k+1) (fun j=>A i j*(dig (B+1) n j:Int))+H).toNat<E*B+1:=fun n i b=>by
  have:=f n i b;omega
 obtain⟨m,n,w,x,e⟩:=Qln ((E*B+1) ^ k) ((B+1) ^ (k+1)) (fun n=>code (E*B+1) (fun i=>(isum (k+1) (fun j=>A i j*(dig (B+1) n j:Int))+H).toNat) k)
  (by
    have l:(E*B+1) ^ k≤(E*(B+1)) ^ k:=Nat.pow_le_pow_left (by rw[Nat.mul_add];omega) k;rw[Nat.mul_pow,hB] at l;have p:0<(B+1) ^ k:=Nat.pow_pos c;have q:(B+1) ^ k*(B+1)=B*(B+1) ^ k+(B+1) ^ k:=by rw[Nat.mul_add,Nat.mul_one,Nat.mul_comm]
    rw[Nat.pow_succ,q]
    omega)
  (fun n _=>Qeu k (fun i b=>h n i b))
 have z:=Qlr k (fun i b=>h m i b) (fun i b=>h n i b) e;refine⟨fun j=>(dig (B+1) m j:Int) - (dig (B+1) n j:Int),?_,fun i b=>?_,fun j=>?_⟩
 ·
  by_cases r:∃j,j<k+1∧(dig (B+1) m j:Int) - (dig (B+1) n j:Int)≠0
  · exact r
  ·
   exfalso
   have:=Qlq c (k+1) m n (by omega) x (fun j g=>by
    by_cases C:(dig (B+1) m j:Int) - (dig (B+1) n j:Int)=0
    · omega
    · exact absurd ⟨j,g,C⟩ r)
   omega
 ·
  have l:=z i b;have p:=f m i b;have q:=f n i b;have D:=Qlo (k+1) (fun j=>A i j*(dig (B+1) m j:Int)) (fun j=>A i j*(dig (B+1) n j:Int));rw[Qlp (k+1) _ (fun j=>A i j*(dig (B+1) m j:Int) - A i j*(dig (B+1) n j:Int)) (fun j _=>Int.mul_sub _ _ _),D];omega
 ·
  have l:=Qg0 c m j;have p:=Qg0 c n j
  show ((dig (B+1) m j:Int) - (dig (B+1) n j:Int)).natAbs≤B
  omega
end Sg
def vec(l:List Rat):Vec:=fun i=>l.getD i 0
structure Fr (w w':Vz):Prop where
 size:w.heap.size<=w'.heap.size
 keep:∀b i u,w.cell? ⟨b,i,none⟩=some u->((∃x,u=Value.bool x)∨∃n,u=Value.int .u64 n)->w'.heap[b]?=w.heap[b]?
theorem Fr.cell{w a:Vz}(h:Fr w a){b i:Nat}{u:Value}(c:w.cell? ⟨b,i,none⟩=some u)(hk:(∃x,u=Value.bool x)∨∃n,u=Value.int .u64 n)(j:Nat):a.cell? ⟨b,j,none⟩=w.cell? ⟨b,j,none⟩:=
 World.cell?_of_block (w:=w) (h.keep b i u c hk)
theorem Fr.trans{u v w:Vz}(h:Fr u v)(k:Fr v w):Fr u w:=
 ⟨Nat.le_trans h.size k.size,fun b i x a hk=>(k.keep b i x ((h.cell a hk i).trans a) hk).trans (h.keep b i x a hk)⟩
theorem Fr.of_below{w a:Vz}(h:Bl w a):Fr w a:=⟨h.size,fun b i u c _=>h.block b (World.block_lt_of_cell? _ _ c)⟩
def Plain(C:Vw):Prop:=∀u,u∈ C.toList->(∀x,u≠Value.bool x)/\∀n,u≠Value.int .u64 n
theorem Fr.of_only{w c:Vz}{g:Nat}{t:Vr}{C:Vw}(d:Only g w c)(f:SB w g t C)(hC:Plain C):Fr w c:=by
 refine⟨d.size,fun b i u a hk=>d.block b (World.block_lt_of_cell? _ _ a) ?_⟩;rintro rfl;rw[f.cell] at a;obtain⟨h,j⟩:=hC u (mO (by rw[Array.getElem?_toList];exact a));rcases hk with ⟨x,e⟩|⟨n,e⟩
 . exact h x e
 . exact j n e
theorem Row.fr{w g:Vz}{a:Vx}{c:Nat}{l:Vy}(h:Row .u64 w a c l)(d:Fr w g):Row .u64 g a c l:=by
 refine⟨h.fit,?_,fun i k=>?_⟩
 .
  rcases h.shape with e|⟨f,b,rfl,m⟩
  . exact .inl e
  . exact .inr ⟨f,b,rfl,by have:=d.size;omega⟩
 . obtain⟨f,b,e,m,j⟩:=h.cell i k
   exact⟨f,b,e,by have:=d.size;omega,(d.cell j (.inr ⟨_,rfl⟩) _).trans j⟩
theorem NumV.fr{w b:Vz}{a:Vx}{n c x:Nat}(h:NumV w a n c x)(d:Fr w b):NumV b a n c x:=by
 obtain⟨l,hl,h⟩:=h;exact⟨l,hl,h.row.fr d,h.num,h.short⟩
theorem FracV.fr{w g:Vz}{v:Value}{q:Rat}(h:FracV w v q)(i:Fr w g):FracV g v q:=by
 obtain⟨neg,a,n,c,b,m,d,e,h⟩:=h;refine⟨neg,a,n,c,b,m,d,e,h.neg,h.top.fr i,?_⟩;rcases h.low with f|⟨f,j⟩
 . exact .inl f
 . exact .inr ⟨f,j.fr i⟩
theorem QRow.fr{w k:Vz}{a:Vx}{c:Nat}{ts:List FE}(h:QRow w a c ts)(f:Fr w k):QRow k a c ts:=by
 refine⟨⟨h.row.fit,⟨fun j u l=>?_⟩⟩,fun t m=>⟨(h.ts t m).1.fr f,(h.ts t m).2⟩⟩;obtain⟨b,g,o,v,A⟩:=h.row.row.cell j u l;have i:j<(ts.flatMap FE.cells).length:=(gZ l).1;rw[Qas (sz:=3) (fun _=>rfl)] at i;obtain⟨e,p⟩:∃e,ts[j / 3]?=some e:=⟨ts[j / 3]'(by omega),gE (by omega)⟩;obtain⟨B,q,d,_,r,_⟩:=h.at p;rw[o] at d;cases d;obtain⟨n,x,y,z,C,D,E,s,_⟩:=(h.get p).1;simp at s;rw[s.1] at r;refine⟨b,g,o,Nat.lt_of_lt_of_le v f.size,?_⟩;rw[f.cell r (.inl ⟨_,rfl⟩)];exact A
structure Grow (w:Vz) (B:Nat) (e:Vr) (sz:Nat) (K:Value->Prop) (v:Value) (n:Nat) (xs:Vv):Prop where
 own:w.ownsRow B e sz v n xs
 all:∀g,v.ownBlock=some g->∃C,w.heap[g]?=some (.cells C e (0,0))/\∀u,u∈ C.toList->K u
theorem Grow.nil(w:Vz)(B:Nat)(e:Vr)(sz:Nat)(K:Value->Prop):Grow w B e sz K (.slice none 0 0) 0 []:=⟨World.ownsRow_nil w B e sz,fun g a=>by simp[Value.ownBlock] at a⟩
theorem Grow.keep{w i:Vz}{B:Nat}{e:Vr}{sz:Nat}{K:Value->Prop}{v:Value}{n:Nat}{xs:Vv}(h:Grow w B e sz K v n xs)(hk:∀g,v.ownBlock=some g->i.heap[g]?=w.heap[g]?):Grow i B e sz K v n xs:=by
 refine⟨⟨h.own.1,?_⟩,fun g a=>?_⟩
 .
  rcases h.own.2 with b|⟨g,c,d,rfl,j,a,f⟩
  . exact .inl b
  . exact .inr ⟨g,c,d,rfl,j,by rw[hk g rfl];exact a,f⟩
 . obtain⟨C,b,f⟩:=h.all g a
   exact⟨C,by rw[hk g a];exact b,f⟩
theorem Qlj{z:Vw}{n:Nat}{u:Value}(a:u∈ (Builtin.zeroCells z n).toList):u∈ z.toList:=by
 simp[Builtin.zeroCells] at a;obtain⟨j,b,e⟩:=a;have c:0<z.size:=by
  rcases Nat.eq_zero_or_pos z.size with h|h
  . rw[h] at b;omega
  . exact h
 rw[getElem!_pos z (j % z.size) (Nat.mod_lt _ c)] at e;rw[<-e];exact Array.getElem_mem_toList _
theorem Grow.app{P:Program}{w:Vz}{B:Nat}{t ty e:Vr}{i:TypeInfo}{z:Value}{sz bytes:Nat}{K:Value->Prop}{v:Value}{n:Nat}{xs:Vv}(h:Grow w B e sz K v n xs)
 (T:P.underlying t=some (.slice e)) (U:P.info? e=some i) (V:i.zero=some z) (f:i.size=sz) (r:i.bytes=bytes) (W:z.cells.size=sz) (X:0<sz) (J:∀u,u∈ z.cells.toList->K u)
 (a:Addr) (m c:Nat) (b:Vv) (hl:b.length=m*sz) (k:∀j u,b[j]?=some u->w.cell? (a.add j)=some u) (h1:∀u,u∈ b->u.oneCell'=true) (Y:∀u,u∈ b->K u)
 (Z:n+m<=1048576) (L:bytes<=1000) (s:B<=w.heap.size):
 ∃I M,(Builtin.append_ #[t,t] ty #[v,.slice (some a) m c]).run P w=.ok I M/\Grow M B e sz K I (n+m) (xs++b)/\w.grownBy M v.ownBlock/\(I.ownBlock=v.ownBlock∨I.ownBlock=some w.heap.size):=by
 have aa:(n+m)*bytes<=1048576*1000:=Nat.mul_le_mul Z L;obtain⟨I,M,x,N,y,O,ab⟩:=run_append_own_at (P:=P) w B t ty e i z sz bytes T U V f r W X v n xs h.own a m c b hl k h1 (by unfold maxLen;omega) (by omega) s;refine⟨I,M,x,⟨N,?_⟩,y,ab⟩;have p:b.length=m*i.size:=by rw[f];exact hl
 have ad:xs.length=n*i.size:=by rw[f];exact h.own.1
 have q:∀(C:Vw) (w1:Vz) (n l:Nat),(∀u,u∈ C.toList->K u)->∀g,(Value.slice (some ⟨w1.heap.size,0,none⟩) n l).ownBlock=some g->∃D,(w1.drew.alloc (.cells C e)).heap[g]?=some (.cells D e (0,0))/\∀u,u∈ D.toList->K u:=fun C w1 n l hC g A=>by
  have e:w1.heap.size=g:=by simpa [Value.ownBlock] using A
  subst e;exact⟨C,heap_alloc_new w1.drew _,hC⟩
 rcases h.own.2 with ⟨rfl,rfl⟩|⟨g,l,E,rfl,ag,A,ah,ai,ae,F⟩
 .
  by_cases hm:m=0
  . rw[O.2 ⟨rfl,hm⟩]
    exact fun g A=>by simp[Value.ownBlock] at A
  rw[run_append_nil (P:=P) w t ty e i z T U V a m c b p k (by omega) (by omega) (by rw[r];simp only[Nat.zero_add] at aa;omega)] at x;injection x with Q R
  subst Q;subst R;refine q _ w _ _ fun u d=>?_
  simp only[Array.toList_append,List.mem_append] at d;rcases d with d|d
  . exact Y u d
  . exact J u (Qlj d)
 .
  obtain⟨C,hC,G⟩:=h.all g rfl;rw[A] at hC;injection hC with hC
  injection hC with hC _ _
  subst hC;by_cases o:n+m<=l
  .
   have S:n*i.size+b.length<=E.size:=by rw[p,ae,f,<-Nat.add_mul];exact Nat.mul_le_mul_right _ o
   rw[run_append_room (P:=P) w t ty e i T U g n l E A a m c b p k h1 o S] at x;injection x with Q R
   subst Q;subst R;intro g' af;have e:g=g':=by simpa [Value.ownBlock] using af
   subst e;refine⟨_,setRow_heap w g E _ e _ A,fun u d=>?_⟩;simp only[List.toList_toArray,List.mem_append] at d;rcases d with (d|d)|d
   . exact G u (List.mem_of_mem_take d)
   . exact Y u d
   . exact G u (List.mem_of_mem_drop d)
  .
   have H:∀j u,xs[j]?=some u->w.cell? ((⟨g,0,none⟩:Addr).add j)=some u:=h.own.cells (g:=g) rfl;rw[run_append_grow (P:=P) w t ty e i z T U V ⟨g,0,none⟩ n l xs ad H a m c b p k (by omega) (by omega) (by rw[r];exact growslice_fits (by omega) (by omega))] at x;injection x with Q R
   subst Q;subst R;refine q _ w _ _ fun u d=>?_
   simp only[Array.toList_append,List.mem_append] at d;rcases d with (d|d)|d
   . rw[<-F] at d
     exact G u (List.mem_of_mem_take d)
   . exact Y u d
   . exact J u (Qlj d)
def MR.val(r:MR):Value:=.slice r.a r.ts.length r.cap
theorem Qet(rs:List MR):rs.flatMap MR.cells=rs.map MR.val:=by
 induction rs with
 |nil=>rfl
 |cons r l a=>rw[List.flatMap_cons,a];rfl
def IsSl(u:Value):Prop:=∃a n c,u=Value.slice a n c
theorem Quo(rs:List MR):∀u,u∈ rs.map MR.val->IsSl u:=fun u a=>by
 obtain⟨r,_,rfl⟩:=List.mem_map.1 a;exact⟨_,_,_,rfl⟩
theorem Qup(rs:List MR):∀u,u∈ rs.map MR.val->u.oneCell'=true:=fun u a=>by
 obtain⟨r,_,rfl⟩:=List.mem_map.1 a;rfl
theorem IsSl.plain{C:Vw}(h:∀u,u∈ C.toList->IsSl u):Plain C:=fun u b=>by
 obtain⟨a,n,c,rfl⟩:=h u b;exact⟨fun x=>by simp,fun n=>by simp⟩
def FE.re(K:Nat)(t:FE):FE:=⟨t.x,t.y,t.z,t.q,K⟩
theorem Quq(K:Nat)(ts:List FE):(ts.map (FE.re K)).flatMap FE.cells=ts.flatMap FE.cells:=by
 induction ts with
 |nil=>rfl
 |cons t l a=>rw[List.map_cons,List.flatMap_cons,a,List.flatMap_cons];rfl
theorem QRow.re{w:Vz}{a:Vx}{b K:Nat}{ts:List FE}(h:QRow w a b ts)(d:0<K)(e:∀t,t∈ ts->Fits t.q K):QRow w a b (ts.map (FE.re K)):=by
 refine⟨⟨by rw[List.length_map];exact h.row.fit,by rw[Quq];exact h.row.row⟩,fun t f=>?_⟩;obtain⟨u,c,rfl⟩:=List.mem_map.1 f;exact⟨(h.ts u c).1,e u c,d⟩
structure MOk (w:Vz) (W K:Nat) (r:MR):Prop where
 row:QRow w r.a r.cap r.ts
 len:r.ts.length=W
 sz:∀t,t∈ r.ts->t.k<=K
theorem MOk.fr{w a:Vz}{W K:Nat}{r:MR}(h:MOk w W K r)(b:Fr w a):MOk a W K r:=⟨h.row.fr b,h.len,h.sz⟩
def Oks(w:Vz)(W K:Nat)(rs:List MR):Prop:=∀r,r∈ rs->MOk w W K r
theorem Oks.fr{w a:Vz}{W K:Nat}{rs:List MR}(h:Oks w W K rs)(b:Fr w a):Oks a W K rs:=fun r c=>(h r c).fr b
theorem MR.q_beyond{r:MR}{i:Nat}(h:r.ts.length<=i):r.q i=0:=by
 unfold MR.q;rw[List.getD_eq_getElem?_getD,List.getElem?_eq_none (by simpa using h)];rfl
theorem qAt_q(r:MR):qAt r.ts=r.q:=rfl
theorem MOk.made{w:Vz}{g W K B:Nat}{us:List FE}{r:MR}{f:Nat->Rat->Rat}{v:Vec}(o:QBlk w g us)(p:r.ts.length=W)(m:Made f B r.ts us r.ts.length)(s:0<K)(x:∀i,i<W->f i (r.q i)=v i)(y:∀i,W<=i->v i=0)(b:∀i,i<W->Fits (v i) K):
 ∃k:MR,k.val=.slice (some ⟨g,0,none⟩) W W/\MOk w W K k/\k.q=v:=by
 have a:us.length=W:=by rw[m.1];exact p
 have c:∀i u,us[i]?=some u->u.q=v i:=fun i u d=>by
  have j:i<W:=by rw[<-a];exact(gZ d).1
  obtain⟨e,n⟩:∃e,r.ts[i]?=some e:=⟨r.ts[i]'(by omega),gE (by omega)⟩;obtain⟨C,z,A,_⟩:=m.2 i e (by omega) n;obtain rfl:=Option.some.inj (d.symm.trans z);rw[A,<-MR.q_at n];exact x i j
 refine⟨⟨some ⟨g,0,none⟩,us.length,us.map (FE.re K)⟩,?_,⟨?_,by simp[a],fun t l=>?_⟩,?_⟩
 . simp[MR.val,a]
 .
  refine o.row.re s fun t l=>?_
  obtain⟨i,j⟩:=List.mem_iff_getElem?.1 l;rw[c i t j];exact b i (by rw[<-a];exact(gZ j).1)
 . obtain⟨u,_,rfl⟩:=List.mem_map.1 l
   exact Nat.le_refl _
 .
  funext i;rcases Nat.lt_or_ge i W with h|h
  .
   obtain⟨u,d⟩:∃u,us[i]?=some u:=⟨us[i]'(by omega),gE (by omega)⟩;rw[MR.q_at (e:=FE.re K u) (by simp[d])];exact c i u d
  . rw[MR.q_beyond (by simpa [a] using h),y i h]
theorem Qlk:∀u,u∈ (Value.slice none 0 0).cells.toList->IsSl u:=fun u a=>by
 have e:(Value.slice none 0 0).cells=#[.slice none 0 0]:=by rfl
 rw[e] at a;obtain rfl:u=_:=by simpa using a
 exact⟨_,_,_,rfl⟩
theorem Grow.made(w:Vz)(e:Vr)(sz:Nat)(K:Value->Prop):Grow (w.alloc (.cells #[] e)) w.heap.size e sz K (.slice (some ⟨w.heap.size,0,none⟩) 0 0) 0 []:=
 ⟨World.ownsRow_made w #[] 0 lZ (Nat.zero_le _) (by simp),fun g a=>by
   have e:w.heap.size=g:=by simpa [Value.ownBlock] using a
   subst e
   exact⟨#[],SB.new w _ _,fun u b=>by simp at b⟩⟩
theorem Qur(a:Vx)(f:Nat)(rs:List MR)(w:Vz)(h:ARow MR.cells w a f rs)(hl:rs.length<=1000):
 Calls prog 204 #[.slice a rs.length f] w fun e t=>(∃v,e=.returned v/\Grow t w.heap.size 98 1 IsSl v rs.length (rs.map MR.val))/\Below w.heap.size w t:=by
 obtain⟨K,x,g,m,hz2⟩:=info_parts Qc5;have L:∀(w:Vz) (a:Vx) (n c n' y:Nat),(binOp .eql 148 (.slice a n c) (.slice none n' y)).run prog w=.ok (.bool a.isNone) w:=fun w a n c n' y=>Lib.run_eql_slice_nil w _ _ a n c n' y underlying148
 have H:=Hi h;clear h;cases a with
 |none=>
  have z:rs= []:=by
   cases rs with
   |nil=>rfl
   |cons r l=>
    obtain⟨b,A,e,_⟩:=H.o.at (sz:=1) (fun _=>rfl) (by decide) (i:=0) (e:=r) rfl;cases e
  subst z;clear x g m hz2;go_enter func204,ntmps204;go_wp2;go_ret;exact⟨⟨_,rfl,Grow.nil _ _ _ _ _⟩,Below.refl _ _⟩
 |some ad=>
  obtain⟨W,hW⟩:=nm (w.alloc (.cells #[] 98));have d:Bl w W:=by rw[<-hW];exact(Below.refl _ _).alloc lZ _
  have p:Grow W w.heap.size 98 1 IsSl (.slice (some ⟨w.heap.size,0,none⟩) 0 0) 0 []:=by rw[<-hW];exact Grow.made w _ _ _
  obtain⟨M,t,B,q,s,C⟩:=p.app (P:=prog) (ty:=148) underlying148 x g m hz2 rfl (by decide) Qlk ad rs.length f (rs.map MR.val) (by simp) (fun j u D=>by
   rw[<-Qet] at D;obtain⟨b,A,e,E,F⟩:=H.o.row.cell j u D;cases e;rw[Qao]
   exact ce d E F) (Qup rs) (Quo rs) (by omega) (by decide) d.size
  rw[<-hW] at B;obtain⟨G,I,J⟩:=Ib B q (d.grown s d.size (fun k hk=>by simp[Value.ownBlock] at hk;omega));clear B q s C p d hW x g m hz2;go_enter func204,ntmps204;go_wp2_with (at_builtin;refine Qbl _ rfl _ _ 148 148 rfl (.slice (some ⟨w.heap.size,0,none⟩) 0 0) (.slice (some ad) rs.length f) _ _ rfl rfl G.o ?_);go_wp2;go_ret;refine⟨⟨_,rfl,?_⟩,J.o⟩;have:=I.o;rw[Nat.zero_add,List.nil_append] at this;exact this
def layCells(C:Vw):Nat->List Value->Array Value
 |_,[]=>C
 |o,v :: r=>layCells (C.setIfInBounds o v) (o+1) r
theorem Qc6:∀(vs:Vv) (o:Nat) (C:Vw),(layCells C o vs).size=C.size
 | [],_,_=>rfl
 |v :: r,o,C=>by rw[layCells,Qc6 r];simp
theorem Qgy:∀(vs:Vv) (o:Nat) (C:Vw) (i:Nat),o+vs.length<=C.size->(layCells C o vs)[i]?=if o<=i/\i<o+vs.length then vs[i - o]? else C[i]?
 | [],o,C,i,_=>by rw[if_neg (by simp only[List.length_nil];omega)];rfl
 |v :: r,o,C,i,h=>by
  simp only[List.length_cons] at h;rw[layCells,Qgy r (o+1) _ i (by simp;omega),Array.getElem?_setIfInBounds];by_cases a:i=o
  .
   subst a;rw[if_neg (by omega),if_pos rfl,if_pos (by omega),if_pos (by simp only[List.length_cons];omega)];simp
  .
   by_cases b:o+1<=i/\i<o+1+r.length
   . rw[if_pos b,if_pos (by simp only[List.length_cons];omega),show i - o=(i - (o+1))+1 by omega]
     simp
   . rw[if_neg b,if_neg (Ne.symm a),if_neg (by simp only[List.length_cons];omega)]
theorem SB.cells{t:Vr}{g:Nat}:∀(vs:Vv) (o:Nat) {w:Vz} {C:Vw},SB w g t C->SB (w.setCells g o vs) g t (layCells C o vs)/\Only g w (w.setCells g o vs)
 | [],_,w,_,h=>⟨h,Only.refl _ _⟩
 |v :: r,o,w,C,h=>by
  obtain⟨a,b⟩:=SB.cells r (o+1) (h.set o v);exact⟨a,((Only.refl g w).setCell o v).trans b⟩
theorem Qus:∀w,(zeroValue 98).run prog w=.ok (.slice none 0 0) w:=by
 intro w;obtain⟨i,a,h⟩:=Option.map_eq_some_iff.1 Qc5;simp only[Prod.mk.injEq] at h;simp[zeroValue,typeInfo,a,h.1]
theorem Qut(g b c i j n:Nat)(C:Vw)(w:Vz)(D:SB w g 98 C)(q:b=0)(y:∀u,u∈ C.toList->IsSl u)(V:n<=c)(E:C.size=c)(z:c<=maxLen)(K:i<j)(W:j<=n):
 Calls prog 206 #[.slice (some ⟨g,b,none⟩) n c,.int .i64 i,.int .i64 j] w fun e L=>e=.returned (.slice (some ⟨g,b,none⟩) (i+(n - j)) c)/\
  L=(w.drew.setCells g (b+i*1) ((C.toList.take n).drop j)).setCells g (b+(i+(n - j))) (List.replicate (n - (i+(n - j))) (.slice none 0 0)):=by
 obtain⟨M,F,G,H,hz2⟩:=info_parts Qc5;have J:c<=9223372036854775807:=by simpa [maxLen] using z
 have f:∀k,w.cell? ⟨g,b+k,none⟩=C[k]?:=fun k=>by rw[q,Nat.zero_add];exact D.cell k
 have l:∀k,w.frozen? ⟨g,b+k,none⟩=false:=fun k=>D.free _
 obtain⟨a,d⟩:∃a,a=(C.toList.take n).drop j:=⟨_,rfl⟩;have r:a.length=n - j:=by rw[d];simp;omega
 have s:∀t u,a[t]?=some u->C[j+t]?=some u:=fun t u p=>by
  have I:=(gZ p).1;rw[d,List.getElem?_drop,List.getElem?_take_of_lt (by omega),Array.getElem?_toList] at p;exact p
 obtain⟨A,X,B⟩:∃A:Addr,(if c=j then some (⟨g,b,none⟩:Addr) else some ⟨g,b+j,none⟩)=some A/\O (∀t u,a[t]?=some u->w.drew.cell? (A.add t)=some u):=by
  by_cases h:c=j
  .
   refine⟨⟨g,b,none⟩,by simp[h],Hi fun t u p=>?_⟩;have:=(gZ p).1;omega
  .
   refine⟨⟨g,b+j,none⟩,by simp[h],Hi fun t u p=>?_⟩;rw[Qao,Nat.add_assoc];exact(f (j+t)).trans (s t u p)
 have N:O (a.length=(n - j)*1):=Hi (by rw[Nat.mul_one];exact r);have P:O (∀u∈ a,u.oneCell'=true):=Hi fun u p=>by
  rw[d] at p;obtain⟨_,_,_,rfl⟩:=y u (List.mem_of_mem_take (List.mem_of_mem_drop p));rfl
 have Q:O (∀t,t<a.length->(w.drew.cell? ⟨g,b+i*1+t,none⟩).isSome=true/\w.drew.frozen? ⟨g,b+i*1+t,none⟩=false):=Hi fun t I=>by
  rw[Nat.mul_one,Nat.add_assoc];refine⟨?_,l _⟩
  show (w.cell? _).isSome=true
  rw[f,Array.getElem?_eq_getElem (by omega)];rfl
 obtain⟨v,x⟩:∃v,v=w.drew.setCells g (b+i*1) a:=⟨_,rfl⟩;have m:SB v g 98 (layCells C (b+i*1) a):=by rw[x];exact(SB.cells a _ D.drew).1
 have R:∀ty,(Builtin.clear_ #[148] ty #[.slice (some ⟨g,b+(i+(n - j)),none⟩) (n - (i+(n - j))) (c - (i+(n - j)))]).run prog v=.ok (.tuple #[]) (v.setCells g (b+(i+(n - j))) (List.replicate (n - (i+(n - j))) (.slice none 0 0))):=
  fun ty=>Lib.run_clear_slice v _ _ ty _ underlying148 Qus rfl rfl g (b+(i+(n - j))) _ _ (by omega) (fun t I=>by
   rw[m.cell,Array.getElem?_eq_getElem (by rw[Qc6];omega)]
   rfl) (fun t I=>m.free _)
 have hW:O (v=w.drew.setCells g (b+i*1) a):=Hi x;have S:O (a=(C.toList.take n).drop j):=Hi d;have T:i<=c:=by omega
 have U:j<=c:=by omega
 clear x m D s d r f l y G hz2 q E z;go_enter func206,ntmps206;go_wp2_with fail;go_region_law (refine step_append_room rfl (.tmp 22) (.tmp 25) 148 rfl 98 M 1 underlying148 F H g b i c (by simp[Act.eval,Act.put]) A (n - j) (c - j) a (by simp[Act.eval,Act.put]) N.o B.o P.o (by omega) Q.o ?_;rw[<-hW.o]);go_wp2;go_ret;exact⟨rfl,by rw[<-S.o,<-hW.o]⟩
theorem Quu(w:Vz)(B i j n:Nat)(v:Value)(xs:Vv)(h:Grow w B 98 1 IsSl v n xs)(H:j=i+1)(O:i<n):
 Calls prog 206 #[v,.int .i64 i,.int .i64 j] w fun e q=>∃g r,v.ownBlock=some g/\r.ownBlock=some g/\e=.returned r/\Grow q B 98 1 IsSl r (n - 1) (xs.eraseIdx i)/\Only g w q:=by
 obtain⟨l,m⟩:=h.own;rcases m with ⟨_,P⟩|⟨g,d,b,rfl,hB,s,x,o,f,a⟩
 . omega
 obtain⟨C,hC,c⟩:=h.all g rfl;rw[s] at hC;injection hC with hC
 injection hC with hC _ _
 subst hC;rw[Nat.mul_one] at f a l;refine(Qut g 0 d i j n b w s rfl c x f o (by omega) (by omega)).mono ?_;rintro e q ⟨rfl,rfl⟩;have I:i+(n - j)=n - 1:=by omega
 have J:n - (n - 1)=1:=by omega
 simp only[Nat.zero_add,Nat.mul_one,I,J,a];obtain⟨k1,k2⟩:=SB.cells (t:=98) (g:=g) (xs.drop j) i (w:=w.drew) (C:=b) s;obtain⟨E,K⟩:=SB.cells (List.replicate 1 (.slice none 0 0)) (n - 1) k1;have y:(xs.drop j).length=n - j:=by simp;omega
 have z:(layCells (layCells b i (xs.drop j)) (n - 1) (List.replicate 1 (.slice none 0 0))).size=d:=by rw[Qc6,Qc6];exact f
 have p:∀k,(layCells (layCells b i (xs.drop j)) (n - 1) (List.replicate 1 (.slice none 0 0)))[k]?=if n - 1<=k/\k<n - 1+1 then (List.replicate 1 (Value.slice none 0 0))[k - (n - 1)]? else if i<=k/\k<i+(n - j) then (xs.drop j)[k - i]? else b[k]?:=fun k=>by
  rw[Qgy _ _ _ _ (by rw[Qc6];simp;omega),Qgy _ _ _ _ (by omega),y];simp
 have A:∀k,k<n->b[k]?=xs[k]?:=fun k hk=>by rw[<-a,List.getElem?_take_of_lt hk,Array.getElem?_toList]
 refine⟨g,_,rfl,rfl,rfl,⟨⟨?_,.inr ⟨g,d,_,rfl,hB,E,by omega,o,by rw[Nat.mul_one];exact z,?_⟩⟩,fun L D=>?_⟩,?_⟩
 . rw[List.length_eraseIdx,if_pos (by omega),Nat.mul_one];omega
 .
  rw[Nat.mul_one];apply List.ext_getElem?;intro k;by_cases hk:k<n - 1
  .
   rw[List.getElem?_take_of_lt hk,Array.getElem?_toList,p k,if_neg (by omega),List.getElem?_eraseIdx];by_cases F:k<i
   . rw[if_neg (by omega),if_pos F]
     exact A k (by omega)
   .
    rw[if_pos (by omega),if_neg F,List.getElem?_drop]
    congr 1
    omega
  . rw[List.getElem?_eq_none (by rw[List.length_take];omega),List.getElem?_eq_none (by rw[List.length_eraseIdx,if_pos (by omega)];omega)]
 .
  have M:g=L:=by simpa [Value.ownBlock] using D
  subst M;refine⟨_,E,fun u N=>?_⟩;obtain⟨k,hk⟩:=List.mem_iff_getElem?.1 N;rw[Array.getElem?_toList,p k] at hk
  split at hk
  . obtain rfl:=List.eq_of_mem_replicate (mO hk)
    exact⟨_,_,_,rfl⟩
  .
   split at hk
   .
    have G:=List.mem_of_mem_drop (mO hk);rw[<-a] at G;exact c u (List.mem_of_mem_take G)
   . exact c u (mO (by rw[Array.getElem?_toList];exact hk))
 . have:=k2.trans K
   exact⟨this.os,this.tape,this.output,this.size,this.block⟩
end Go.Proofs.YtkkadnoecklepaaGreatDoor
