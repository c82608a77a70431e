import Derived.Test.YtppkmifkpjkgpaaGreatDoorC26RowsG
namespace Go.Proofs.YtppkmifkpjkgpaaGreatDoor
open Go.Proofs.Tryz
set_option linter.unusedSimpArgs false
set_option linter.unusedVariables false
set_option maxHeartbeats 8000000
set_option maxRecDepth 1000000
abbrev Vec:=Nat->Rat
def dot:Nat->Vec->Vec->Rat
 |0,_,_=>0
 |n+1,r,x=>dot n r x+r n*x n
theorem Qau:∀(W:Nat) (r x s y:Vec),(∀c,c<W->r c*x c=s c*y c)->dot W r x=dot W s y
 |0,_,_,_,_,_=>rfl
 |n+1,r,x,s,y,h=>by
  simp only[dot];rw[Qau n r x s y (fun c a=>h c (by omega)),h n (by omega)]
theorem Qbq:∀(W:Nat) (r x:Vec),(∀c,c<W->r c*x c=0)->dot W r x=0
 |0,_,_,_=>rfl
 |n+1,r,x,h=>by
  simp only[dot];rw[Qbq n r x (fun c a=>h c (by omega)),h n (by omega)];grind
theorem Qbr:∀(W:Nat) (r s x:Vec) (q:Rat),dot W (fun i=>r i - s i*q) x=dot W r x - q*dot W s x
 |0,_,_,_,_=>by simp only[dot];grind
 |n+1,r,s,x,q=>by
  simp only[dot];rw[Qbr n r s x q];grind
theorem Qc1:∀(W:Nat) (r x:Vec) (q:Rat),dot W (fun i=>r i / q) x=dot W r x / q
 |0,_,_,_=>by simp only[dot];grind
 |n+1,r,x,q=>by
  simp only[dot];rw[Qc1 n r x q];grind
def upd(x:Vec)(h:Nat)(v:Rat):Vec:=fun c=>if c=h then v else x c
theorem Qar(x:Vec)(h:Nat)(v:Rat):upd x h v h=v:=if_pos rfl
theorem Qad(x:Vec){h c:Nat}(v:Rat)(a:c≠h):upd x h v c=x c:=if_neg a
theorem Qd2:∀(W:Nat) (r x:Vec) (h:Nat) (v:Rat),h<W->dot W r (upd x h v)=dot W r x+r h*(v - x h)
 |0,_,_,_,_,hh=>by omega
 |n+1,r,x,h,v,hh=>by
  simp only[dot];by_cases e:h=n
  .
   subst e;rw[Qau h r (upd x h v) r x (fun c a=>by rw[Qad _ _ (by omega)]),Qar];grind
  . rw[Qd2 n r x h v (by omega),Qad _ _ (Ne.symm e)]
    grind
theorem Qd3(W:Nat)(r x:Vec)(h:Nat)(b:h<W)(d:∀c,c<W->c≠h->r c*x c=0):dot W r x=r h*x h:=by
 have a:=Qd2 W r (upd x h 0) h (x h) b;have f:upd (upd x h 0) h (x h)=x:=by
  funext c;by_cases e:c=h
  . subst e;rw[Qar]
  . rw[Qad _ _ e,Qad _ _ e]
 rw[f,Qbq W r (upd x h 0) (fun c g=>?_),Qar] at a
 . rw[a];grind
 .
  by_cases e:c=h
  . subst e;rw[Qar];grind
  . rw[Qad _ _ e];exact d c g e
def Null(W:Nat)(S:List Vec)(x:Vec):Prop:=∀r,r∈ S->dot W r x=0
theorem Null.cons{W:Nat}{r:Vec}{S:List Vec}{x:Vec}:Null W (r :: S) x↔dot W r x=0/\Null W S x:=by
 unfold Null;simp
theorem Null.app{W:Nat}{S T:List Vec}{x:Vec}:Null W (S++T) x↔Null W S x/\Null W T x:=by
 unfold Null;simp only[List.mem_append];exact⟨fun h=>⟨fun r a=>h r (.inl a),fun r a=>h r (.inr a)⟩,fun h r a=>a.elim (h.1 r) (h.2 r)⟩
def Ech:Nat->Nat->List Vec->List Nat->Prop
 |lo,hi,[],[]=>lo<=hi
 |lo,hi,r :: S,h :: hs=>lo<=h/\r h≠0/\(∀c,c<h->r c=0)/\Ech (h+1) hi S hs
 |_,_,_,_=>False
theorem Ech.le:∀{S:List Vec} {b:Vy} {lo a:Nat},Ech lo a S b->lo<=a
 | [],[],_,_,h=>h
 |r :: S,h :: b,lo,a,⟨h1,_,_,h2⟩=>by have:=Ech.le h2;omega
 | [],_ :: _,_,_,h=>h.elim
 |r :: S,[],_,_,h=>h.elim
theorem Ech.len:∀{S:List Vec} {a:Vy} {lo b:Nat},Ech lo b S a->S.length=a.length
 | [],[],_,_,h=>rfl
 |r :: S,h :: a,lo,b,⟨_,_,_,h2⟩=>by have:=Ech.len h2;simp only[List.length_cons];omega
 | [],_ :: _,_,_,h=>h.elim
 |r :: S,[],_,_,h=>h.elim
theorem Ech.mono:∀{S:List Vec} {b:Vy} {lo c a:Nat},Ech lo c S b->c<=a->Ech lo a S b
 | [],[],_,_,_,h,k=>Nat.le_trans h k
 |r :: S,h :: b,lo,c,a,⟨h1,h2,h3,h4⟩,k=>⟨h1,h2,h3,h4.mono k⟩
 | [],_ :: _,_,_,_,h,_=>h.elim
 |r :: S,[],_,_,_,h,_=>h.elim
theorem Ech.head:∀{S:List Vec} {b:Vy} {lo d:Nat},Ech lo d S b->∀c,c∈ b->lo<=c/\c<d
 | [],[],_,_,h,c,a=>by cases a
 |r :: S,h :: b,lo,d,⟨h1,h2,h3,h4⟩,c,a=>by
  rcases List.mem_cons.1 a with rfl|a
  . have:=h4.le;omega
  . have:=h4.head c a;omega
 | [],_ :: _,_,_,h,_,_=>h.elim
 |r :: S,[],_,_,h,_,_=>h.elim
theorem Ech.zero:∀{S:List Vec} {b:Vy} {lo d:Nat},Ech lo d S b->∀r,r∈ S->∀c,c<lo->r c=0
 | [],[],_,_,h,r,a,_,_=>by cases a
 |s :: S,h :: b,lo,d,⟨h1,h2,h3,h4⟩,r,a,c,hc=>by
  rcases List.mem_cons.1 a with rfl|a
  . exact h3 c (by omega)
  . exact h4.zero r a c (by omega)
 | [],_ :: _,_,_,h,_,_,_,_=>h.elim
 |r :: S,[],_,_,h,_,_,_,_=>h.elim
theorem Ech.snoc:∀{S:List Vec} {b:Vy} {lo a c:Nat} {s:Vec},Ech lo a S b->a<=c->s c≠0->(∀i,i<c->s i=0)->Ech lo (c+1) (S++ [s]) (b++ [c])
 | [],[],lo,a,c,s,h,k,h1,h2=>⟨Nat.le_trans h k,h1,h2,Nat.le_refl _⟩
 |r :: S,h :: b,lo,a,c,s,⟨h1,h2,h3,h4⟩,k,k1,k2=>⟨h1,h2,h3,h4.snoc k k1 k2⟩
 | [],_ :: _,_,_,_,_,h,_,_,_=>h.elim
 |r :: S,[],_,_,_,_,h,_,_,_=>h.elim
theorem Ech.solve(W:Nat)(f:Vec):∀{S:List Vec} {a:Vy} {lo b:Nat},Ech lo b S a->b<=W->∃x:Vec,(∀c,c ∉ a->x c=f c)/\Null W S x
 | [],[],_,_,_,_=>⟨f,fun _ _=>rfl,fun r g=>by cases g⟩
 |r :: S,h :: a,lo,b,⟨h1,h2,h3,h4⟩,hW=>by
  obtain⟨x,i,j⟩:=h4.solve W f hW;have e:h<W:=by have:=h4.le;omega
  refine⟨upd x h (x h - dot W r x / r h),fun c d=>?_,Null.cons.2 ⟨?_,fun s a=>?_⟩⟩
  .
   simp only[List.mem_cons,not_or] at d;rw[Qad _ _ d.1];exact i c d.2
  . rw[Qd2 _ _ _ _ _ e]
    grind
  . rw[Qd2 _ _ _ _ _ e,j s a,h4.zero s a h (by omega)]
    grind
 | [],_ :: _,_,_,h,_=>h.elim
 |r :: S,[],_,_,h,_=>h.elim
def lessBy(c:Nat)(s r:Vec):Vec:=fun i=>r i - s i*(r c / s c)
structure Elim (W:Nat) (M:List Vec) (c:Nat) (L S:List Vec) (hs:Vy):Prop where
 ech:Ech 0 c S hs
 zero:∀r,r∈ L->∀i,i<c->r i=0
 null:∀x,Null W M x↔Null W L x/\Null W S x
theorem Elim.start(W:Nat)(M:List Vec):Elim W M 0 M [] []:=⟨Nat.le_refl _,fun _ _ i b=>by omega,fun x=>⟨fun h=>⟨h,fun r a=>by cases a⟩,fun h=>h.1⟩⟩
theorem Elim.skip{W c:Nat}{M L S:List Vec}{a:Vy}(h:Elim W M c L S a)(e:∀r,r∈ L->r c=0):Elim W M (c+1) L S a:=
 ⟨h.ech.mono (Nat.le_succ _),fun r b i f=>by
   rcases Nat.lt_or_ge i c with d|d
   . exact h.zero r b i d
   . obtain rfl:i=c:=by omega
     exact e r b,h.null⟩
theorem Elim.step{W c j:Nat}{M L S:List Vec}{m:Vy}{s:Vec}(h:Elim W M c L S m)(n:L[j]?=some s)(u:s c≠0):Elim W M (c+1) ((L.eraseIdx j).map (lessBy c s)) (S++ [s]) (m++ [c]):=by
 have b:s∈ L:=mO n;have o:∀i,i<c->s i=0:=h.zero s b;refine⟨h.ech.snoc lZ u o,fun r d i f=>?_,fun x=>?_⟩
 .
  obtain⟨t,g,rfl⟩:=List.mem_map.1 d;have k:=List.mem_of_mem_eraseIdx g;unfold lessBy;rcases Nat.lt_or_ge i c with a|a
  . rw[o i a,h.zero t k i a];grind
  . obtain rfl:i=c:=by omega
    grind
 .
  rw[h.null x,Null.app];have p:∀t:Vec,dot W s x=0->(dot W (lessBy c s t) x=0↔dot W t x=0):=fun t a=>by
   unfold lessBy;rw[Qbr,a];grind
  constructor
  .
   rintro⟨a,l⟩;refine⟨fun r d=>?_,l,fun r d=>?_⟩
   . obtain⟨t,g,rfl⟩:=List.mem_map.1 d
     exact(p t (a s b)).2 (a t (List.mem_of_mem_eraseIdx g))
   . obtain rfl:r=s:=by simpa using d
     exact a r b
  .
   rintro⟨a,l,v⟩;have q:dot W s x=0:=v s (by simp);refine⟨fun r d=>?_,l⟩;obtain⟨i,f⟩:=List.mem_iff_getElem?.1 d;by_cases e:i=j
   .
    subst e;obtain rfl:=Option.some.inj (n.symm.trans f);exact q
   . have w:r∈ L.eraseIdx j:=List.mem_eraseIdx_iff_getElem?.2 ⟨i,e,f⟩
     exact(p r q).1 (a _ (List.mem_map.2 ⟨r,w,rfl⟩))
theorem Elim.done{W:Nat}{M L S:List Vec}{a:Vy}(h:Elim W M W L S a):Ech 0 W S a/\∀x,Null W M x↔Null W S x:=by
 refine⟨h.ech,fun x=>?_⟩;rw[h.null x];exact⟨fun k=>k.2,fun k=>⟨fun r b=>Qbq W r x fun c d=>by rw[h.zero r b c d];grind,k⟩⟩
def red(r:Vec):List Vec->List Nat->Vec
 |t :: T,h :: hs=>red (fun i=>r i - t i*r h) T hs
 |_,_=>r
def cln:List Vec->List Nat->List Vec
 |r :: S,h :: hs=>red (fun i=>r i / r h) (cln S hs) hs :: cln S hs
 |_,_=>[]
def Cln:Nat->Nat->List Vec->List Nat->Prop
 |lo,hi,[],[]=>lo<=hi
 |lo,hi,r :: S,h :: hs=>lo<=h/\r h=1/\(∀c,c<h->r c=0)/\(∀c,c∈ hs->r c=0)/\Cln (h+1) hi S hs
 |_,_,_,_=>False
theorem Cln.ech:∀{S:List Vec} {a:Vy} {lo b:Nat},Cln lo b S a->Ech lo b S a
 | [],[],_,_,h=>h
 |r :: S,h :: a,lo,b,⟨h1,h2,h3,_,h4⟩=>⟨h1,by rw[h2];decide,h3,Cln.ech h4⟩
 | [],_ :: _,_,_,h=>h.elim
 |r :: S,[],_,_,h=>h.elim
theorem Qi9(W:Nat):∀{T:List Vec} {a:Vy} {lo f:Nat} (r:Vec),Cln lo f T a->(∀c,c<lo->red r T a c=r c)/\(∀c,c∈ a->red r T a c=0)/\∀x,Null W T x->dot W (red r T a) x=dot W r x
 | [],[],_,_,r,_=>⟨fun _ _=>rfl,fun c b=>by(cases b),fun _ _=>rfl⟩
 |t :: T,h :: a,lo,f,r,⟨h1,h2,h3,h4,h5⟩=>by
  obtain⟨g,j,k⟩:=Qi9 W (fun i=>r i - t i*r h) h5;refine⟨fun c b=>?_,fun c b=>?_,fun x l=>?_⟩
  .
   simp only[red];rw[g c (by omega),h3 c (by omega)];grind
  .
   simp only[red];rcases List.mem_cons.1 b with rfl|b
   . rw[g c (by omega),h2]
     grind
   . exact j c b
  .
   obtain⟨d,e⟩:=Null.cons.1 l;simp only[red];rw[k x e,Qbr,d];grind
 | [],_ :: _,_,_,_,h=>h.elim
 |r :: S,[],_,_,_,h=>h.elim
theorem Qd4(W:Nat):∀{S:List Vec} {a:Vy} {lo d:Nat},Ech lo d S a->Cln lo d (cln S a) a/\∀x,Null W (cln S a) x↔Null W S x
 | [],[],_,_,h=>⟨h,fun _=>Iff.rfl⟩
 |r :: S,h :: a,lo,d,⟨h1,h2,h3,h4⟩=>by
  obtain⟨g,e⟩:=Qd4 W h4;obtain⟨j,l,k⟩:=Qi9 W (fun i=>r i / r h) g;refine⟨⟨h1,?_,fun c m=>?_,l,g⟩,fun x=>?_⟩
  . rw[j h (by omega)];grind
  . rw[j c (by omega),h3 c m];grind
  .
   simp only[cln];rw[Null.cons,Null.cons,e x];constructor
   .
    rintro⟨f,b⟩;rw[k x ((e x).2 b),Qc1] at f;exact⟨by grind,b⟩
   .
    rintro⟨f,b⟩;rw[k x ((e x).2 b),Qc1,f];exact⟨by grind,b⟩
 | [],_ :: _,_,_,h=>h.elim
 |r :: S,[],_,_,h=>h.elim
theorem Qfv:∀(S:List Vec) (a:Vy),S.length=a.length->(cln S a).length=S.length
 | [],_,_=>rfl
 |r :: S,h :: a,k=>by simp only[cln,List.length_cons];rw[Qfv S a (by simpa using k)]
 |r :: S,[],k=>by simp at k
theorem Ech.count:∀{S:List Vec} {a:Vy} {lo b:Nat},Ech lo b S a->a.length<=b - lo
 | [],[],_,_,_=>Nat.zero_le _
 |r :: S,h :: a,lo,b,⟨h1,_,_,h4⟩=>by have:=h4.count;have:=h4.le;simp only[List.length_cons];omega
 | [],_ :: _,_,_,h=>h.elim
 |r :: S,[],_,_,h=>h.elim
theorem Ech.hole:∀{S:List Vec} {b:Vy} {lo a:Nat},Ech lo a S b->b.length<a - lo->∃c,lo<=c/\c<a/\c ∉ b
 | [],[],lo,a,_,k=>⟨lo,Nat.le_refl _,by simp at k;omega,by simp⟩
 |r :: S,h :: b,lo,a,⟨h1,_,_,h4⟩,k=>by
  have f:=h4.le;simp only[List.length_cons] at k;rcases Nat.lt_or_ge lo h with g|g
  .
   refine⟨lo,Nat.le_refl _,by omega,fun d=>?_⟩;rcases List.mem_cons.1 d with e|e
   . omega
   . have:=(h4.head lo e).1;omega
  .
   obtain⟨c,c1,c2,c3⟩:=h4.hole (by omega);refine⟨c,by omega,c2,fun d=>?_⟩;rcases List.mem_cons.1 d with e|e
   . omega
   . exact c3 e
 | [],_ :: _,_,_,h,_=>h.elim
 |r :: S,[],_,_,h,_=>h.elim
theorem Ech.all:∀{S:List Vec} {a:Vy} {lo b:Nat},Ech lo b S a->a.length=b - lo->∀i h,a[i]?=some h->h=lo+i
 | [],[],lo,b,_,k,i,h,e=>by simp at e
 |r :: S,h :: a,lo,b,⟨h1,_,_,h4⟩,k,i,g,e=>by
  have c:=h4.le;have d:=h4.count;simp only[List.length_cons] at k;obtain rfl:h=lo:=by omega
  match i,e with
  |0,e=>simp at e;omega
  |i+1,e=>
   have:=h4.all (by omega) i g (by simpa using e);omega
 | [],_ :: _,_,_,h,_,_,_,_=>h.elim
 |r :: S,[],_,_,h,_,_,_,_=>h.elim
theorem Ech.last:∀{S:List Vec} {a:Vy} {lo n:Nat},Ech lo (n+1) S a->lo<=n->n ∉ a->Ech lo n S a
 | [],[],lo,n,_,k,_=>k
 |r :: S,h :: a,lo,n,⟨h1,h2,h3,h4⟩,k,hn=>by
  have b:=h4.le;simp only[List.mem_cons,not_or] at hn;exact⟨h1,h2,h3,h4.last (by omega) hn.2⟩
 | [],_ :: _,_,_,h,_,_=>h.elim
 |r :: S,[],_,_,h,_,_=>h.elim
theorem Ech.row:∀{S:List Vec} {b:Vy} {lo d:Nat},Ech lo d S b->∀h,h∈ b->∃r,r∈ S/\r h≠0/\∀c,c<h->r c=0
 | [],[],_,_,_,h,a=>by cases a
 |r :: S,k :: b,lo,d,⟨h1,h2,h3,h4⟩,h,a=>by
  rcases List.mem_cons.1 a with rfl|a
  . exact⟨r,List.mem_cons_self,h2,h3⟩
  . obtain⟨s,e,f⟩:=h4.row h a
    exact⟨s,List.mem_cons_of_mem _ e,f⟩
 | [],_ :: _,_,_,h,_,_=>h.elim
 |r :: S,[],_,_,h,_,_=>h.elim
theorem Cln.at:∀{S:List Vec} {d:Vy} {lo f:Nat},Cln lo f S d->∀(i:Nat) (r:Vec) (h:Nat),S[i]?=some r->d[i]?=some h->r h=1/\(∀c,c<h->r c=0)/\∀c,c∈ d->h<c->r c=0
 | [],[],_,_,_,i,r,h,e,_=>by simp at e
 |s :: S,k :: d,lo,f,⟨h1,h2,h3,h4,h5⟩,i,r,h,e,e'=>by
  match i,e,e' with
  |0,e,e'=>
   simp at e e';subst e;subst e';refine⟨h2,h3,fun c a b=>?_⟩;rcases List.mem_cons.1 a with rfl|a
   . omega
   . exact h4 c a
  |i+1,e,e'=>
   obtain⟨g,j,l⟩:=h5.at i r h (by simpa using e) (by simpa using e');refine⟨g,j,fun c a b=>?_⟩;rcases List.mem_cons.1 a with rfl|a
   . have:=(h5.ech.head h (mO (by simpa using e'))).1
     omega
   . exact l c a b
 | [],_ :: _,_,_,h,_,_,_,_,_=>h.elim
 |r :: S,[],_,_,h,_,_,_,_,_=>h.elim
theorem Ech.full{W:Nat}{S:List Vec}{a:Vy}(h:Ech 0 W S a)(b:∀x,Null W S x->∀c,c<W->x c=0):a.length=W:=by
 apply bC;intro d;have e:=h.count;obtain⟨c,_,c2,c3⟩:=h.hole (by omega);obtain⟨x,x1,x2⟩:=h.solve W (fun i=>if i=c then 1 else 0) lZ;have:=b x x2 c c2;rw[x1 c c3,if_pos rfl] at this;revert this;decide
def wider(wide:Nat)(r:Vec)(v:Rat):Vec:=fun c=>if c=wide then v else r c
theorem Qpo(wide:Nat)(r:Vec)(v:Rat)(y:Vec):dot (wide+1) (wider wide r v) y=dot wide r y+v*y wide:=by
 simp only[dot];rw[Qau wide (wider wide r v) y r y (fun c a=>by unfold wider;rw[if_neg (by omega)])];unfold wider;rw[if_pos rfl]
def Sol(wide:Nat)(M:List Vec)(b:List Rat)(x:Vec):Prop:=∀(i:Nat) (r:Vec) (v:Rat),M[i]?=some r->b[i]?=some v->dot wide r x=v
theorem sol_null{wide:Nat}{M:List Vec}{b:List Rat}{x:Vec}:Sol wide M b x↔Null (wide+1) (List.zipWith (wider wide) M b) (wider wide x (-1)):=by
 have e:∀(r:Vec) (v:Rat),dot (wide+1) (wider wide r v) (wider wide x (-1))=dot wide r x - v:=fun r v=>by
  rw[Qpo,Qau wide r (wider wide x (-1)) r x (fun c g=>by unfold wider;rw[if_neg (by omega)])];unfold wider;rw[if_pos rfl];grind
 constructor
 .
  intro h r d;obtain⟨i,a⟩:=List.mem_iff_getElem?.1 d;rw[List.getElem?_zipWith] at a
  match hm:M[i]?,hb:b[i]?,a with
  |some m,some v,a=>
   simp at a;subst a;rw[e,h i m v hm hb];grind
  |none,_,a=>simp at a
  |some m,none,a=>simp at a
 .
  intro h i r v d f;have:=h (wider wide r v) (List.mem_iff_getElem?.2 ⟨i,by rw[List.getElem?_zipWith,d,f]⟩);rw[e] at this;grind
theorem Qpp{wide:Nat}{M:List Vec}{b:List Rat}{S:List Vec}{d:Vy}(h:Ech 0 (wide+1) S d)(e:∀x,Null (wide+1) (List.zipWith (wider wide) M b) x↔Null (wide+1) S x)(f:wide∈ d)(x:Vec):¬Sol wide M b x:=by
 intro g;have i:=(e _).1 (sol_null.1 g);obtain⟨r,j,m,k⟩:=h.row wide f;have a:=i r j;rw[Qd3 (wide+1) r _ wide (by omega) (fun c n l=>by rw[k c (by omega)];grind)] at a;unfold wider at a;rw[if_pos rfl] at a;grind
theorem Qpq{wide:Nat}{M:List Vec}{b:List Rat}{S:List Vec}{d:Vy}(h:Ech 0 (wide+1) S d)(k:∀x,Null (wide+1) (List.zipWith (wider wide) M b) x↔Null (wide+1) S x)(j:wide ∉ d)(hl:d.length<wide):
 ∃x y:Vec,Sol wide M b x/\Sol wide M b y/\∃c,c<wide/\x c≠y c:=by
 obtain⟨c,_,c2,c3⟩:=(h.last (Nat.zero_le _) j).hole (by omega);have a:∀f:Vec,∃x:Vec,(∀i,i ∉ d->i≠wide->x i=f i)/\Sol wide M b x:=fun f=>by
  obtain⟨y,y1,y2⟩:=h.solve (wide+1) (wider wide f (-1)) lZ;refine⟨y,fun i l g=>?_,sol_null.2 ?_⟩
  . rw[y1 i l];unfold wider;rw[if_neg g]
  .
   rw[k];have e:wider wide y (-1)=y:=by
    funext i;unfold wider;by_cases e:i=wide
    .
     subst e;rw[if_pos rfl,y1 i j];unfold wider;rw[if_pos rfl]
    . rw[if_neg e]
   rw[e];exact y2
 obtain⟨x,x1,x2⟩:=a (fun _=>0);obtain⟨y,y1,y2⟩:=a (fun _=>1);refine⟨x,y,x2,y2,c,c2,?_⟩;rw[x1 c c3 (by omega),y1 c c3 (by omega)];decide
theorem Qpr{wide:Nat}{M:List Vec}{b:List Rat}{S:List Vec}{a:Vy}(h:Ech 0 (wide+1) S a)(t:∀x,Null (wide+1) (List.zipWith (wider wide) M b) x↔Null (wide+1) S x)(v:wide ∉ a)(hl:¬a.length<wide):
 a.length=wide/\(∀i h:Nat,a[i]?=some h->h=i)/\∀x:Vec,Sol wide M b x↔∀(i:Nat) (r:Vec),(cln S a)[i]?=some r->x i=r wide:=by
 have o:=h.last (Nat.zero_le _) v;have w:=o.count;have j:a.length=wide:=by omega
 have d:∀i h:Nat,a[i]?=some h->h=i:=fun i k e=>by have:=o.all (by omega) i k e;omega
 refine⟨j,d,fun x=>?_⟩;obtain⟨y,z⟩:=Qd4 (wide+1) h;rw[sol_null,t,<-z];have p:∀(i:Nat) (r:Vec),(cln S a)[i]?=some r->dot (wide+1) r (wider wide x (-1))=x i - r wide:=fun i r f=>by
  have l:i<wide:=by
   have m:=(gZ f).1;rw[Qfv S a h.len,h.len] at m;omega
  obtain⟨g,q⟩:∃g,a[i]?=some g:=⟨a[i]'(by omega),gE (by omega)⟩;obtain rfl:=d i g q;obtain⟨A,B,C⟩:=y.at _ r _ f q;simp only[dot];rw[Qd3 wide r _ g l (fun c w D=>?_),A]
  .
   unfold wider;rw[if_pos rfl,if_neg (by omega)];grind
  .
   have:r c=0:=by
    rcases Nat.lt_or_ge c g with m|m
    . exact B c m
    .
     refine C c ?_ (by omega);obtain⟨u,s⟩:∃u,a[c]?=some u:=⟨a[c]'(by omega),gE (by omega)⟩;obtain rfl:=d c u s;exact mO s
   rw[this];grind
 constructor
 .
  intro n i r f;have:=n r (mO f);rw[p i r f] at this;grind
 .
  intro n r f;obtain⟨i,l⟩:=List.mem_iff_getElem?.1 f;rw[p i r l,n i r l];grind
end Go.Proofs.YtppkmifkpjkgpaaGreatDoor
namespace Go.Proofs.YtppkmifkpjkgpaaGreatDoor
set_option linter.unusedSimpArgs false
set_option linter.unusedVariables false
set_option maxHeartbeats 8000000
set_option maxRecDepth 1000000
namespace Sg
theorem Qlc:∀(M N:Nat) (f:Nat→Nat),M<N→(∀n,n<N→f n<M)→∃a b,a<b∧b<N∧f a=f b
 |0,N,f,h,hf=>absurd (hf 0 (by omega)) (by omega)
 |M+1,0,f,h,hf=>absurd h (by omega)
 |M+1,N+1,f,h,hf=>by
  by_cases i:∃a,a<N∧f a=f N
  · obtain⟨a,j,e⟩:=i
    exact⟨a,N,j,by omega,e⟩
  ·
   have c:∀n,n<N→f n≠f N:=fun n d e=>i ⟨n,d,e⟩
   obtain⟨a,b,g,k,e⟩:=Qlc M N (fun n=>if f N<f n then f n - 1 else f n) (by omega) (fun n d=>by
    have l:=hf n (by omega);have m:=hf N (by omega);have o:=c n d
    show (if f N<f n then f n - 1 else f n)<M
    split<;>omega)
   refine⟨a,b,g,by omega,?_⟩;have l:=c a (by omega);have m:=c b k
   split at e<;>split at e<;>omega
def isum:Nat→(Nat→Int)→Int
 |0,_=>0
 |n+1,f=>isum n f+f n
theorem Qld:∀(n:Nat) (f g:Nat→Int),isum n (fun j=>f j - g j)=isum n f - isum n g
 |0,_,_=>by simp[isum]
 |n+1,f,g=>by simp only[isum,Qld n f g];omega
theorem Qle:∀(n:Nat) (f g:Nat→Int),(∀j,j<n→f j=g j)→isum n f=isum n g
 |0,_,_,_=>rfl
 |n+1,f,g,h=>by simp only[isum];rw[Qle n f g (fun j a=>h j (by omega)),h n (by omega)]
theorem isum_le:∀(n:Nat) (f:Nat→Int) (l u:Int),(∀j,j<n→l≤f j∧f j≤u)→n*l≤isum n f∧isum n f≤n*u
 |0,_,_,_,_=>by simp[isum]
 |n+1,f,l,u,h=>by
  have c:=isum_le n f l u (fun j d=>h j (by omega));have e:=h n (by omega);simp only[isum];have a:((n+1:Nat):Int)*l=n*l+l:=by rw[Int.natCast_add,Int.add_mul];simp
  have b:((n+1:Nat):Int)*u=n*u+u:=by rw[Int.natCast_add,Int.add_mul];simp
  rw[a,b];omega
def dig(B n j:Nat):Nat:=n / B ^ j % B
theorem Qgy{B:Nat}(hB:0<B)(n j:Nat):dig B n j<B:=Nat.mod_lt _ hB
theorem Qlf{B:Nat}(hB:0<B):∀(k m n:Nat),m<B ^ k→n<B ^ k→(∀j,j<k→dig B m j=dig B n j)→m=n
 |0,m,n,hm,hn,_=>by simp at hm hn;omega
 |k+1,m,n,hm,hn,h=>by
  have a:m % B=n % B:=by have:=h 0 (by omega);simpa [dig] using this
  have b:m / B=n / B:=Qlf hB k (m / B) (n / B) (by rw[Nat.div_lt_iff_lt_mul hB];rwa [Nat.pow_succ] at hm) (by rw[Nat.div_lt_iff_lt_mul hB];rwa [Nat.pow_succ] at hn) (fun j c=>by
   have:=h (j+1) (by omega);simp only[dig] at this ⊢;rw[Nat.div_div_eq_div_mul,Nat.div_div_eq_div_mul,←Nat.pow_succ']
   exact this)
  rw[←Nat.div_add_mod m B,←Nat.div_add_mod n B,a,b]
def code(D:Nat)(v:Nat→Nat):Nat→Nat
 |0=>0
 |k+1=>code D v k+v k*D ^ k
theorem Qer{D:Nat}{v:Nat→Nat}:∀(k:Nat),(∀i,i<k→v i<D)→code D v k<D ^ k
 |0,_=>by simp[code]
 |k+1,h=>by
  have b:=Qer k (fun i c=>h i (by omega));have a:=h k (by omega);simp only[code,Nat.pow_succ];have d:v k*D ^ k+D ^ k≤D ^ k*D:=by
   rw[Nat.mul_comm (D ^ k) D,←Nat.succ_mul];exact Nat.mul_le_mul_right _ a
  omega
theorem Qlg{D:Nat}{v u:Nat→Nat}:∀(k:Nat),(∀i,i<k→v i<D)→(∀i,i<k→u i<D)→code D v k=code D u k→∀i,i<k→v i=u i
 |0,_,_,_,i,a=>absurd a (by omega)
 |k+1,hv,hu,e,i,a=>by
  have d:=Qer k (fun i a=>hv i (by omega));have f:=Qer k (fun i a=>hu i (by omega));simp only[code] at e;have c:v k=u k:=by
   have g:(code D v k+v k*D ^ k) / D ^ k=v k:=by
    rw[Nat.add_mul_div_right _ _ (by omega),Nat.div_eq_of_lt d,Nat.zero_add]
   have h:(code D u k+u k*D ^ k) / D ^ k=u k:=by
    rw[Nat.add_mul_div_right _ _ (by omega),Nat.div_eq_of_lt f,Nat.zero_add]
   rw[←g,e,h]
  rw[c] at e;by_cases b:i=k
  · rw[b];exact c
  · exact Qlg k (fun i a=>hv i (by omega)) (fun i a=>hu i (by omega)) (by omega) i (by omega)
theorem Qvf{a B:Nat}{z:Int}{x:Nat}(h: -(a:Int)≤z∧z≤a)(b:x≤B): -((a*B:Nat):Int)≤z*x∧z*x≤((a*B:Nat):Int):=by
 have c:z.natAbs≤a:=by omega
 have d:(z*x).natAbs≤a*B:=by
  rw[Int.natAbs_mul,Int.natAbs_natCast];exact Nat.mul_le_mul c b
 omega
theorem siegel(k a:Nat)(s:0<a)(A:Nat→Nat→Int)(t:∀i j,i<k→j<k+1→ -(a:Int)≤A i j∧A i j≤a):
 ∃y:Nat→Int,(∃j,j<k+1∧y j≠0)∧(∀i,i<k→isum (k+1) (fun j=>A i j*y j)=0)∧∀j,(y j).natAbs≤(2*((k+1)*a)) ^ k:=by
 obtain⟨E,d⟩:∃E,2*((k+1)*a)=E:=⟨_,rfl⟩;have u:0<E:=by rw[←d];exact Nat.mul_pos (by omega) (Nat.mul_pos (by omega) s)
 rw[d];obtain⟨B,hB⟩:∃B,E ^ k=B:=⟨_,rfl⟩;rw[hB];have c:0<B+1:=by omega
 obtain⟨H,o⟩:∃H,(k+1)*(a*B)=H:=⟨_,rfl⟩;have v:E*B=2*H:=by rw[←d,←o,Nat.mul_assoc,Nat.mul_assoc]
 have f:∀n i,i<k→ -(H:Int)≤isum (k+1) (fun j=>A i j*(dig (B+1) n j:Int))∧isum (k+1) (fun j=>A i j*(dig (B+1) n j:Int))≤H:=fun n i b=>by
  have:=isum_le (k+1) (fun j=>A i j*(dig (B+1) n j:Int)) (-((a*B:Nat):Int)) ((a*B:Nat):Int) (fun j g=>Qvf (t i j b g) (by have:=Qgy c n j;omega));rw[Int.mul_neg,←Int.natCast_mul,o] at this;exact this
 have h:∀n i,i<k→(isum (k+1) (fun j=>A i j*(dig (B+1) n j:Int))+H).toNat<E*B+1:=fun n i b=>by
  have:=f n i b;omega
 obtain⟨m,n,w,x,e⟩:=Qlc ((E*B+1) ^ k) ((B+1) ^ (k+1)) (fun n=>code (E*B+1) (fun i=>(isum (k+1) (fun j=>A i j*(dig (B+1) n j:Int))+H).toNat) k)
  (by
    have l:(E*B+1) ^ k≤(E*(B+1)) ^ k:=Nat.pow_le_pow_left (by rw[Nat.mul_add];omega) k;rw[Nat.mul_pow,hB] at l;have p:0<(B+1) ^ k:=Nat.pow_pos c;have q:(B+1) ^ k*(B+1)=B*(B+1) ^ k+(B+1) ^ k:=by rw[Nat.mul_add,Nat.mul_one,Nat.mul_comm]
    rw[Nat.pow_succ,q]
    omega)
  (fun n _=>Qer k (fun i b=>h n i b))
 have z:=Qlg k (fun i b=>h m i b) (fun i b=>h n i b) e;refine⟨fun j=>(dig (B+1) m j:Int) - (dig (B+1) n j:Int),?_,fun i b=>?_,fun j=>?_⟩
 ·
  by_cases r:∃j,j<k+1∧(dig (B+1) m j:Int) - (dig (B+1) n j:Int)≠0
  · exact r
  ·
   exfalso
   have:=Qlf c (k+1) m n (by omega) x (fun j g=>by
    by_cases C:(dig (B+1) m j:Int) - (dig (B+1) n j:Int)=0
    · omega
    · exact absurd ⟨j,g,C⟩ r)
   omega
 ·
  have l:=z i b;have p:=f m i b;have q:=f n i b;have D:=Qld (k+1) (fun j=>A i j*(dig (B+1) m j:Int)) (fun j=>A i j*(dig (B+1) n j:Int));rw[Qle (k+1) _ (fun j=>A i j*(dig (B+1) m j:Int) - A i j*(dig (B+1) n j:Int)) (fun j _=>Int.mul_sub _ _ _),D];omega
 ·
  have l:=Qgy c m j;have p:=Qgy c n j
  show ((dig (B+1) m j:Int) - (dig (B+1) n j:Int)).natAbs≤B
  omega
end Sg
open Go.Proofs.Tryz
def vec(l:List Rat):Vec:=fun i=>l.getD i 0
def cornerM:List Vec:=[vec [1,0,0,1,0,0],vec [0,0,1,0,1,0],vec [-1,-1,0,0,0,0],vec [0,1,0,0,0,1],vec [0,1,0,0,0,0],vec [0,-1,-1,0,0,0]]
theorem Qh0(x:Vec):dot 6 (vec [1,0,0,1,0,0]) x=x 0+x 3/\dot 6 (vec [0,0,1,0,1,0]) x=x 2+x 4/\dot 6 (vec [-1,-1,0,0,0,0]) x= - x 0 - x 1/\dot 6 (vec [0,1,0,0,0,1]) x=x 1+x 5/\dot 6 (vec [0,1,0,0,0,0]) x=x 1/\dot 6 (vec [0,-1,-1,0,0,0]) x= - x 1 - x 2:=by
 simp only[dot,vec,List.getD_cons_zero,List.getD_cons_succ];refine⟨?_,?_,?_,?_,?_,?_⟩<;>grind
theorem Qnt(x:Vec)(h:Null 6 cornerM x)(c:Nat)(a:c<6):x c=0:=by
 obtain⟨d0,d1,d2,d3,d4,d5⟩:=Qh0 x;have b:=h (vec [1,0,0,1,0,0]) (by simp[cornerM]);have d:=h (vec [0,0,1,0,1,0]) (by simp[cornerM]);have f:=h (vec [-1,-1,0,0,0,0]) (by simp[cornerM]);have g:=h (vec [0,1,0,0,0,1]) (by simp[cornerM]);have i:=h (vec [0,1,0,0,0,0]) (by simp[cornerM]);have j:=h (vec [0,-1,-1,0,0,0]) (by simp[cornerM]);have e:c=0∨c=1∨c=2∨c=3∨c=4∨c=5:=by omega
 rcases e with rfl|rfl|rfl|rfl|rfl|rfl<;>grind
theorem Qe9(x:Vec):Sol 6 cornerM [0,0,0,0,-1,0] x↔x 0=1/\x 1= -1/\x 2=1/\x 3= -1/\x 4= -1/\x 5=1:=by
 obtain⟨d0,d1,d2,d3,d4,d5⟩:=Qh0 x;constructor
 .
  intro h;have c:=h 0 _ _ rfl rfl;have d:=h 1 _ _ rfl rfl;have e:=h 2 _ _ rfl rfl;have f:=h 3 _ _ rfl rfl;have g:=h 4 _ _ rfl rfl;have j:=h 5 _ _ rfl rfl;grind
 .
  rintro⟨k,l,m,n,o,p⟩ i r v a b
  match i,a,b with
  |0,a,b=>cases a;cases b;grind
  |1,a,b=>cases a;cases b;grind
  |2,a,b=>cases a;cases b;grind
  |3,a,b=>cases a;cases b;grind
  |4,a,b=>cases a;cases b;grind
  |5,a,b=>cases a;cases b;grind
  |i+6,a,b=>simp[cornerM] at a
open Go.RowKit
structure Fr (w w':Vz):Prop where
 size:w.heap.size<=w'.heap.size
 keep:∀b i u,w.cell? ⟨b,i,none⟩=some u->((∃x,u=Value.bool x)∨∃n,u=Value.int .u64 n)->w'.heap[b]?=w.heap[b]?
theorem Fr.cell{w w':Vz}(h:Fr w w'){b i:Nat}{u:Value}(a:w.cell? ⟨b,i,none⟩=some u)(hk:(∃x,u=Value.bool x)∨∃n,u=Value.int .u64 n)(j:Nat):w'.cell? ⟨b,j,none⟩=w.cell? ⟨b,j,none⟩:=
 World.cell?_of_block (w:=w) (h.keep b i u a hk)
theorem Fr.trans{u v w:Vz}(h:Fr u v)(k:Fr v w):Fr u w:=
 ⟨Nat.le_trans h.size k.size,fun b i x a hk=>(k.keep b i x ((h.cell a hk i).trans a) hk).trans (h.keep b i x a hk)⟩
theorem Fr.of_below{w w':Vz}(h:Below w.heap.size w w'):Fr w w':=⟨h.size,fun b i u a _=>h.block b (World.block_lt_of_cell? _ _ a)⟩
def Plain(C:Vw):Prop:=∀u,u∈ C.toList->(∀x,u≠Value.bool x)/\∀n,u≠Value.int .u64 n
theorem Fr.of_only{w w':Vz}{g:Nat}{t:Vr}{C:Vw}(c:Only g w w')(d:SB w g t C)(hC:Plain C):Fr w w':=by
 refine⟨c.size,fun b i u a hk=>c.block b (World.block_lt_of_cell? _ _ a) ?_⟩;rintro rfl;rw[d.cell] at a;obtain⟨f,h⟩:=hC u (mO (by rw[Array.getElem?_toList];exact a));rcases hk with ⟨x,e⟩|⟨n,e⟩
 . exact f x e
 . exact h n e
theorem Row.fr{w w':Vz}{a:Vx}{cap:Nat}{l:Vy}(h:Row .u64 w a cap l)(c:Fr w w'):Row .u64 w' a cap l:=by
 refine⟨h.fit,?_,fun i g=>?_⟩
 .
  rcases h.shape with d|⟨e,b,rfl,j⟩
  . exact .inl d
  . exact .inr ⟨e,b,rfl,by have:=c.size;omega⟩
 . obtain⟨e,b,d,j,f⟩:=h.cell i g
   exact⟨e,b,d,by have:=c.size;omega,(c.cell f (.inr ⟨_,rfl⟩) _).trans f⟩
theorem NumV.fr{w w':Vz}{a:Vx}{n c x:Nat}(h:NumV w a n c x)(b:Fr w w'):NumV w' a n c x:=by
 obtain⟨l,hl,h⟩:=h;exact⟨l,hl,h.row.fr b,h.num,h.short⟩
theorem FracV.fr{w w':Vz}{v:Value}{q:Rat}(h:FracV w v q)(g:Fr w w'):FracV w' v q:=by
 obtain⟨neg,a,n,c,b,m,d,e,h⟩:=h;refine⟨neg,a,n,c,b,m,d,e,h.neg,h.top.fr g,?_⟩;rcases h.low with f|⟨f,i⟩
 . exact .inl f
 . exact .inr ⟨f,i.fr g⟩
theorem QRow.fr{w w':Vz}{a:Vx}{cap:Nat}{ts:List FE}(h:QRow w a cap ts)(d:Fr w w'):QRow w' a cap ts:=by
 refine⟨⟨h.row.fit,⟨fun j u i=>?_⟩⟩,fun t k=>⟨(h.ts t k).1.fr d,(h.ts t k).2⟩⟩;obtain⟨b,f,l,r,s⟩:=h.row.row.cell j u i;have g:j<(ts.flatMap FE.cells).length:=(gZ i).1;rw[Qbb (sz:=3) (fun _=>rfl)] at g;obtain⟨e,m⟩:∃e,ts[j / 3]?=some e:=⟨ts[j / 3]'(by omega),gE (by omega)⟩;obtain⟨v,o,c,_,p,_⟩:=h.at m;rw[l] at c;cases c;obtain⟨n,x,y,z,A,B,C,q,_⟩:=(h.get m).1;simp at q;rw[q.1] at p;refine⟨b,f,l,Nat.lt_of_lt_of_le r d.size,?_⟩;rw[d.cell p (.inl ⟨_,rfl⟩)];exact s
structure Grow (w:Vz) (B:Nat) (e:Vr) (sz:Nat) (K:Value->Prop) (v:Value) (n:Nat) (xs:Vv):Prop where
 own:w.ownsRow B e sz v n xs
 all:∀g,v.ownBlock=some g->∃C,w.heap[g]?=some (.cells C e (0,0))/\∀u,u∈ C.toList->K u
theorem Grow.nil(w:Vz)(B:Nat)(e:Vr)(sz:Nat)(K:Value->Prop):Grow w B e sz K (.slice none 0 0) 0 []:=⟨World.ownsRow_nil w B e sz,fun g a=>by simp[Value.ownBlock] at a⟩
theorem Grow.keep{w w':Vz}{B:Nat}{e:Vr}{sz:Nat}{K:Value->Prop}{v:Value}{n:Nat}{xs:Vv}(h:Grow w B e sz K v n xs)(hk:∀g,v.ownBlock=some g->w'.heap[g]?=w.heap[g]?):Grow w' B e sz K v n xs:=by
 refine⟨⟨h.own.1,?_⟩,fun g a=>?_⟩
 .
  rcases h.own.2 with b|⟨g,cap,c,rfl,f,a,d⟩
  . exact .inl b
  . exact .inr ⟨g,cap,c,rfl,f,by rw[hk g rfl];exact a,d⟩
 . obtain⟨C,b,d⟩:=h.all g a
   exact⟨C,by rw[hk g a];exact b,d⟩
theorem Qk5{z:Vw}{n:Nat}{u:Value}(a:u∈ (Builtin.zeroCells z n).toList):u∈ z.toList:=by
 simp[Builtin.zeroCells] at a;obtain⟨j,b,e⟩:=a;have c:0<z.size:=by
  rcases Nat.eq_zero_or_pos z.size with h|h
  . rw[h] at b;omega
  . exact h
 rw[getElem!_pos z (j % z.size) (Nat.mod_lt _ c)] at e;rw[<-e];exact Array.getElem_mem_toList _
theorem Grow.app{P:Program}{w:Vz}{B:Nat}{t ty e:Vr}{i:TypeInfo}{z:Value}{sz bytes:Nat}{K:Value->Prop}{v:Value}{n:Nat}{xs:Vv}(h:Grow w B e sz K v n xs)
 (Q:P.underlying t=some (.slice e)) (R:P.info? e=some i) (S:i.zero=some z) (d:i.size=sz) (p:i.bytes=bytes) (T:z.cells.size=sz) (U:0<sz) (H:∀u,u∈ z.cells.toList->K u)
 (a:Addr) (m c:Nat) (news:Vv) (hl:news.length=m*sz) (f:∀j u,news[j]?=some u->w.cell? (a.add j)=some u) (h1:∀u,u∈ news->u.oneCell'=true) (V:∀u,u∈ news->K u)
 (W:n+m<=1048576) (I:bytes<=1000) (q:B<=w.heap.size):
 ∃G w',(Builtin.append_ #[t,t] ty #[v,.slice (some a) m c]).run P w=.ok G w'/\Grow w' B e sz K G (n+m) (xs++news)/\w.grownBy w' v.ownBlock/\(G.ownBlock=v.ownBlock∨G.ownBlock=some w.heap.size):=by
 have X:(n+m)*bytes<=1048576*1000:=Nat.mul_le_mul W I;obtain⟨G,w',r,J,s,L,Y⟩:=run_append_own_at (P:=P) w B t ty e i z sz bytes Q R S d p T U v n xs h.own a m c news hl f h1 (by unfold maxLen;omega) (by omega) q;refine⟨G,w',r,⟨J,?_⟩,s,Y⟩;have l:news.length=m*i.size:=by rw[d];exact hl
 have Z:xs.length=n*i.size:=by rw[d];exact h.own.1
 have o:∀(C:Vw) (w1:Vz) (n cap:Nat),(∀u,u∈ C.toList->K u)->∀g,(Value.slice (some ⟨w1.heap.size,0,none⟩) n cap).ownBlock=some g->∃D,(w1.drew.alloc (.cells C e)).heap[g]?=some (.cells D e (0,0))/\∀u,u∈ D.toList->K u:=fun C w1 n cap hC g x=>by
  have e:w1.heap.size=g:=by simpa [Value.ownBlock] using x
  subst e;exact⟨C,heap_alloc_new w1.drew _,hC⟩
 rcases h.own.2 with ⟨rfl,rfl⟩|⟨g,cap,y,rfl,ad,x,ae,af,aa,A⟩
 .
  by_cases hm:m=0
  . rw[L.2 ⟨rfl,hm⟩]
    exact fun g x=>by simp[Value.ownBlock] at x
  rw[run_append_nil (P:=P) w t ty e i z Q R S a m c news l f (by omega) (by omega) (by rw[p];simp only[Nat.zero_add] at X;omega)] at r;injection r with M N
  subst M;subst N;refine o _ w _ _ fun u b=>?_
  simp only[Array.toList_append,List.mem_append] at b;rcases b with b|b
  . exact V u b
  . exact H u (Qk5 b)
 .
  obtain⟨C,hC,E⟩:=h.all g rfl;rw[x] at hC;injection hC with hC
  injection hC with hC _ _
  subst hC;by_cases k:n+m<=cap
  .
   have O:n*i.size+news.length<=y.size:=by rw[l,aa,d,<-Nat.add_mul];exact Nat.mul_le_mul_right _ k
   rw[run_append_room (P:=P) w t ty e i Q R g n cap y x a m c news l f h1 k O] at r;injection r with M N
   subst M;subst N;intro g' ab;have e:g=g':=by simpa [Value.ownBlock] using ab
   subst e;refine⟨_,setRow_heap w g y _ e _ x,fun u b=>?_⟩;simp only[List.toList_toArray,List.mem_append] at b;rcases b with (b|b)|b
   . exact E u (List.mem_of_mem_take b)
   . exact V u b
   . exact E u (List.mem_of_mem_drop b)
  .
   have F:∀j u,xs[j]?=some u->w.cell? ((⟨g,0,none⟩:Addr).add j)=some u:=h.own.cells (g:=g) rfl;rw[run_append_grow (P:=P) w t ty e i z Q R S ⟨g,0,none⟩ n cap xs Z F a m c news l f (by omega) (by omega) (by rw[p];exact growslice_fits (by omega) (by omega))] at r;injection r with M N
   subst M;subst N;refine o _ w _ _ fun u b=>?_
   simp only[Array.toList_append,List.mem_append] at b;rcases b with (b|b)|b
   . rw[<-A] at b
     exact E u (List.mem_of_mem_take b)
   . exact V u b
   . exact H u (Qk5 b)
def MR.val(r:MR):Value:=.slice r.a r.ts.length r.cap
theorem Qeq(rs:List MR):rs.flatMap MR.cells=rs.map MR.val:=by
 induction rs with
 |nil=>rfl
 |cons r l a=>rw[List.flatMap_cons,a];rfl
def IsSl(u:Value):Prop:=∃a n c,u=Value.slice a n c
theorem Qum(rs:List MR):∀u,u∈ rs.map MR.val->IsSl u:=fun u a=>by
 obtain⟨r,_,rfl⟩:=List.mem_map.1 a;exact⟨_,_,_,rfl⟩
theorem Qun(rs:List MR):∀u,u∈ rs.map MR.val->u.oneCell'=true:=fun u a=>by
 obtain⟨r,_,rfl⟩:=List.mem_map.1 a;rfl
theorem IsSl.plain{C:Vw}(h:∀u,u∈ C.toList->IsSl u):Plain C:=fun u b=>by
 obtain⟨a,n,c,rfl⟩:=h u b;exact⟨fun x=>by simp,fun n=>by simp⟩
def FE.re(K:Nat)(t:FE):FE:=⟨t.x,t.y,t.z,t.q,K⟩
theorem Quo(K:Nat)(ts:List FE):(ts.map (FE.re K)).flatMap FE.cells=ts.flatMap FE.cells:=by
 induction ts with
 |nil=>rfl
 |cons t l a=>rw[List.map_cons,List.flatMap_cons,a,List.flatMap_cons];rfl
theorem QRow.re{w:Vz}{a:Vx}{cap K:Nat}{ts:List FE}(h:QRow w a cap ts)(c:0<K)(d:∀t,t∈ ts->Fits t.q K):QRow w a cap (ts.map (FE.re K)):=by
 refine⟨⟨by rw[List.length_map];exact h.row.fit,by rw[Quo];exact h.row.row⟩,fun t e=>?_⟩;obtain⟨u,b,rfl⟩:=List.mem_map.1 e;exact⟨(h.ts u b).1,d u b,c⟩
structure MOk (w:Vz) (W K:Nat) (r:MR):Prop where
 row:QRow w r.a r.cap r.ts
 len:r.ts.length=W
 sz:∀t,t∈ r.ts->t.k<=K
theorem MOk.fr{w w':Vz}{W K:Nat}{r:MR}(h:MOk w W K r)(a:Fr w w'):MOk w' W K r:=⟨h.row.fr a,h.len,h.sz⟩
def Oks(w:Vz)(W K:Nat)(rs:List MR):Prop:=∀r,r∈ rs->MOk w W K r
theorem Oks.fr{w w':Vz}{W K:Nat}{rs:List MR}(h:Oks w W K rs)(a:Fr w w'):Oks w' W K rs:=fun r b=>(h r b).fr a
theorem MR.q_beyond{r:MR}{i:Nat}(h:r.ts.length<=i):r.q i=0:=by
 unfold MR.q;rw[List.getD_eq_getElem?_getD,List.getElem?_eq_none (by simpa using h)];rfl
theorem qAt_q(r:MR):qAt r.ts=r.q:=rfl
theorem MOk.made{w:Vz}{g W K B:Nat}{us:List FE}{r:MR}{f:Nat->Rat->Rat}{v:Vec}(o:QBlk w g us)(p:r.ts.length=W)(m:Made f B r.ts us r.ts.length)(s:0<K)(x:∀i,i<W->f i (r.q i)=v i)(y:∀i,W<=i->v i=0)(b:∀i,i<W->Fits (v i) K):
 ∃k:MR,k.val=.slice (some ⟨g,0,none⟩) W W/\MOk w W K k/\k.q=v:=by
 have a:us.length=W:=by rw[m.1];exact p
 have c:∀i u,us[i]?=some u->u.q=v i:=fun i u d=>by
  have j:i<W:=by rw[<-a];exact(gZ d).1
  obtain⟨e,n⟩:∃e,r.ts[i]?=some e:=⟨r.ts[i]'(by omega),gE (by omega)⟩;obtain⟨C,z,A,_⟩:=m.2 i e (by omega) n;obtain rfl:=Option.some.inj (d.symm.trans z);rw[A,<-MR.q_at n];exact x i j
 refine⟨⟨some ⟨g,0,none⟩,us.length,us.map (FE.re K)⟩,?_,⟨?_,by simp[a],fun t l=>?_⟩,?_⟩
 . simp[MR.val,a]
 .
  refine o.row.re s fun t l=>?_
  obtain⟨i,j⟩:=List.mem_iff_getElem?.1 l;rw[c i t j];exact b i (by rw[<-a];exact(gZ j).1)
 . obtain⟨u,_,rfl⟩:=List.mem_map.1 l
   exact Nat.le_refl _
 .
  funext i;rcases Nat.lt_or_ge i W with h|h
  .
   obtain⟨u,d⟩:∃u,us[i]?=some u:=⟨us[i]'(by omega),gE (by omega)⟩;rw[MR.q_at (e:=FE.re K u) (by simp[d])];exact c i u d
  . rw[MR.q_beyond (by simpa [a] using h),y i h]
end Go.Proofs.YtppkmifkpjkgpaaGreatDoor
