import Derived.Test.YtppkmifkpjkgpaaGreatDoorC36Common
import Derived.BigRegion
import Derived.Test.YtppkmifkpjkgpaaGreatDoorCards
import Derived.Test.YtppkmifkpjkgpaaGreatDoorTie
import Derived.Deep.DeepHandedRow
namespace Go.Proofs.YtppkmifkpjkgpaaGreatDoor
open Go.RowKit
open Go.Proofs.Tryz
set_option linter.unusedSimpArgs false
set_option linter.unusedVariables false
set_option maxHeartbeats 8000000
set_option maxRecDepth 1000000
def down(c:Nat)(p v:Vec):Vec:=fun i=>v i - v c*p i
def overAt(c:Nat)(s:Vec):Vec:=fun i=>s i / s c
theorem Qr0{c:Nat}{s v:Vec}:down c (overAt c s) v=lessBy c s v:=by
 funext i;simp only[down,overAt,lessBy];grind
theorem Qr1{c:Nat}{s:Vec}(h:s c≠0):overAt c s c=1:=by
 simp only[overAt];grind
def plStep(c k b:Nat)(s t:Vec)(L:List Vec):List Vec:=((L.set k s).set b t).mapIdx fun j v=>if j=k then overAt c s else down c (overAt c s) v
theorem Qec(c k b:Nat)(s t:Vec)(L:List Vec):(plStep c k b s t L).length=L.length:=by simp[plStep]
theorem Qed{c k b:Nat}{s t:Vec}{L:List Vec}(d:L[b]?=some s)(a:L[k]?=some t):(plStep c k b s t L)[k]?=some (overAt c s):=by
 have hk:=(gZ a).1;simp only[plStep,List.getElem?_mapIdx];rw[gE (by simpa using hk)];simp
theorem Qj6{c k b:Nat}{s t:Vec}{L:List Vec}(d:L[b]?=some s)(f:L[k]?=some t)(a:b≠k):(plStep c k b s t L)[b]?=some (down c (overAt c s) t):=by
 have e:=(gZ d).1;simp only[plStep,List.getElem?_mapIdx];rw[List.getElem?_set_self (by simpa using e)];simp[a]
theorem Qgf{c k b j:Nat}{s t v:Vec}{L:List Vec}(d:L[j]?=some v)(a:j≠k)(e:j≠b):(plStep c k b s t L)[j]?=some (down c (overAt c s) v):=by
 simp only[plStep,List.getElem?_mapIdx];rw[List.getElem?_set_ne (Ne.symm e),List.getElem?_set_ne (Ne.symm a),d];simp[a]
theorem Qgg{c k b j:Nat}{s t v:Vec}{L:List Vec}(f:L[b]?=some s)(g:L[k]?=some t)(a:(plStep c k b s t L)[j]?=some v):
 (j=k/\v=overAt c s)∨(j≠k/\∃u,v=down c (overAt c s) u/\((j=b/\u=t)∨(j≠b/\L[j]?=some u))):=by
 by_cases d:j=k
 .
  subst d;rw[Qed f g] at a;exact .inl ⟨rfl,(Option.some.inj a).symm⟩
 .
  refine .inr ⟨d,?_⟩;by_cases e:j=b
  .
   subst e;rw[Qj6 f g d] at a;exact⟨t,(Option.some.inj a).symm,.inl ⟨rfl,rfl⟩⟩
  .
   have hl:j<L.length:=by
    have:=(gZ a).1;rw[Qec] at this;exact this
   obtain⟨u,h⟩:∃u,L[j]?=some u:=⟨_,gE hl⟩;rw[Qgf h d e] at a;exact⟨u,(Option.some.inj a).symm,.inr ⟨e,h⟩⟩
theorem Qgh(W c:Nat)(p v x:Vec):dot W (down c p v) x=dot W v x - v c*dot W p x:=by
 have e:down c p v=fun i=>v i - p i*v c:=by
  funext i;simp only[down];grind
 rw[e,Qbr]
theorem Qj7(W c:Nat)(s x:Vec):dot W (overAt c s) x=dot W s x / s c:=by
 unfold overAt;rw[Qc1]
theorem Qr2{W c k b:Nat}{s t:Vec}{L:List Vec}(d:L[b]?=some s)(e:L[k]?=some t)(p:s c≠0)(x:Vec):Null W L x↔Null W (plStep c k b s t L) x:=by
 constructor
 .
  intro h v g;obtain⟨j,f⟩:=List.mem_iff_getElem?.1 g;have a:dot W (overAt c s) x=0:=by
   rw[Qj7,h s (mO d)];grind
  rcases Qgg d e f with ⟨_,rfl⟩|⟨_,u,rfl,i⟩
  . exact a
  .
   have o:u∈ L:=by
    rcases i with ⟨_,rfl⟩|⟨_,i⟩
    . exact mO e
    . exact mO i
   rw[Qgh,a,h u o];grind
 .
  intro h v g;have a:=h _ (mO (Qed (c:=c) d e));have l:dot W s x=0:=by
   rw[Qj7] at a;have:dot W s x=dot W s x / s c*s c:=by grind
   rw[this,a];grind
  obtain⟨j,f⟩:=List.mem_iff_getElem?.1 g;by_cases m:j=b
  .
   subst m;obtain rfl:=Option.some.inj (d.symm.trans f);exact l
  .
   by_cases n:j=k
   .
    subst n;obtain rfl:=Option.some.inj (e.symm.trans f);have:=h _ (mO (Qj6 (c:=c) d e (Ne.symm m)));rw[Qgh,a] at this;grind
   .
    have:=h _ (mO (Qgf (c:=c) (s:=s) (t:=t) f n m));rw[Qgh,a] at this;grind
theorem Cln.snoc{c:Nat}{p:Vec}(f:p c=1)(b:∀i,i<c->p i=0):∀{S:List Vec} {g:Vy} {lo e:Nat},Cln lo e S g->e<=c->Cln lo (c+1) (S.map (down c p)++ [p]) (g++ [c])
 | [],[],lo,e,h,hc=>⟨Nat.le_trans h hc,f,b,fun d a=>(by cases a),Nat.le_refl _⟩
 |r :: S,h :: g,lo,e,⟨k1,k2,k3,k4,k5⟩,hc=>by
  have j:h<c:=by have:=(Cln.ech k5).le;omega
  refine⟨k1,?_,fun d a=>?_,fun d a=>?_,Cln.snoc f b k5 hc⟩
  .
   simp only[down];rw[k2,b h j];grind
  .
   simp only[down];rw[k3 d a,b d (by omega)];grind
  .
   simp only[down];rcases List.mem_append.1 a with a|a
   .
    have:=((Cln.ech k5).head d a).2;rw[k4 d a,b d (by omega)];grind
   . rw[List.mem_singleton.1 a,f]
     grind
 | [],_ :: _,_,_,h,_=>h.elim
 |r :: S,[],_,_,h,_=>h.elim
theorem Cln.mono:∀{S:List Vec} {b:Vy} {lo c a:Nat},Cln lo c S b->c<=a->Cln lo a S b
 | [],[],_,_,_,h,k=>Nat.le_trans h k
 |r :: S,h :: b,_,_,_,⟨k1,k2,k3,k4,k5⟩,k=>⟨k1,k2,k3,k4,Cln.mono k5 k⟩
 | [],_ :: _,_,_,_,h,_=>h.elim
 |r :: S,[],_,_,_,h,_=>h.elim
theorem MI.other{W N:Nat}{M:List Vec}{c:Nat}{L b S f:List Vec}{a:Vy}(h:MI W N M c L S a)(hl:b.length=L.length)(g:∀v,v∈ b->v∈ L)(i:∀(R:Nat->Vec),(∀s,s∈ S->Span a.length R s)->∀s,s∈ f->Span a.length R s):MI W N M c b f a:=by
 obtain⟨j,k,l,R,m,n,o,d⟩:=h;exact⟨j,by rw[hl];exact k,fun v e=>l v (g v e),R,m,n,fun v e=>o v (g v e),i R d⟩
structure Pl (W N:Nat) (M:List Vec) (c:Nat) (L:List Vec) (hs:Vy):Prop where
 len:L.length=M.length
 null:∀x,Null W M x↔Null W L x
 cln:Cln 0 c (L.take hs.length) hs
 rest:∀(j:Nat) (v:Vec),L[j]?=some v->hs.length<=j->∀d,d<c->v d=0
 mi:MI W N M c (L.drop hs.length) (L.take hs.length) hs
theorem Pl.start(W N:Nat)(M:List Vec)(a:∀v,v∈ M->∀i,W<=i->v i=0)(b:M.length<=N∨W<=N):Pl W N M 0 M []:=
 ⟨rfl,fun x=>Iff.rfl,Nat.le_refl _,fun _ _ _ _ d c=>by omega,MI.start W N M a b⟩
theorem Pl.skip{W N c:Nat}{M L:List Vec}{a:Vy}(h:Pl W N M c L a)(f:∀(j:Nat) (v:Vec),L[j]?=some v->a.length<=j->v c=0):Pl W N M (c+1) L a:=
 ⟨h.len,h.null,h.cln.mono (Nat.le_succ _),fun j v b hk d g=>by
   rcases Nat.lt_or_ge d c with e|e
   . exact h.rest j v b hk d e
   . obtain rfl:d=c:=by omega
     exact f j v b hk,h.mi.skip⟩
theorem Pl.le{W N c:Nat}{M L:List Vec}{a:Vy}(h:Pl W N M c L a):a.length<=L.length:=by
 have:=(Cln.ech h.cln).len;rw[List.length_take] at this;omega
theorem Pl.step{W N c b:Nat}{M L:List Vec}{a:Vy}{s t:Vec}(h:Pl W N M c L a)(D:a.length<=b)(f:L[b]?=some s)(o:L[a.length]?=some t)(A:s c≠0):Pl W N M (c+1) (plStep c a.length b s t L) (a++ [c]):=by
 have E:∀i,i<c->s i=0:=h.rest b s f D;have p:=Qr1 A;have q:∀i,i<c->overAt c s i=0:=fun i y=>by
  simp only[overAt];rw[E i y];grind
 have F:=(gZ o).1;have k:(plStep c a.length b s t L).take (a.length+1)=(L.take a.length).map (down c (overAt c s))++ [overAt c s]:=by
  apply List.ext_getElem?;intro j;rcases Nat.lt_trichotomy j a.length with m|m|m
  .
   rw[List.getElem?_take_of_lt (by omega),List.getElem?_append_left (by rw[List.length_map,List.length_take];omega),List.getElem?_map,List.getElem?_take_of_lt m];obtain⟨u,g⟩:∃u,L[j]?=some u:=⟨_,gE (by omega)⟩;rw[Qgf g (by omega) (by omega),g];rfl
  .
   subst m;rw[List.getElem?_take_of_lt (by omega),Qed f o,List.getElem?_append_right (by rw[List.length_map,List.length_take];omega)];rw[List.length_map,List.length_take,Nat.min_eq_left (by omega),Nat.sub_self];rfl
  . rw[List.getElem?_eq_none (by rw[List.length_take];omega),List.getElem?_eq_none (by rw[List.length_append,List.length_map,List.length_take];simp;omega)]
 have l:(a++ [c]).length=a.length+1:=by simp
 refine⟨by rw[Qec];exact h.len,fun x=>(h.null x).trans (Qr2 f o A x),?_,?_,?_⟩
 . rw[l,k]
   exact Cln.snoc p q h.cln lZ
 .
  intro j v z hk d H;rw[l] at hk;rcases Qgg f o z with ⟨m,_⟩|⟨m,u,rfl,g⟩
  . omega
  .
   have B:∀i,i<c->u i=0:=by
    rcases g with ⟨_,rfl⟩|⟨_,g⟩
    . exact h.rest _ _ o lZ
    . exact h.rest _ _ g (by omega)
   simp only[down];rcases Nat.lt_or_ge d c with r|r
   . rw[B d r,q d r]
     grind
   .
    obtain rfl:d=c:=by omega
    rw[p];grind
 .
  have z:(L.drop a.length)[b - a.length]?=some s:=by
   rw[List.getElem?_drop,show a.length+(b - a.length)=b by omega];exact f
  have G:=h.mi.step z A;rw[l];refine G.other ?_ ?_ ?_
  . rw[List.length_drop,Qec,List.length_map,List.length_eraseIdx_of_lt (gZ z).1,List.length_drop]
    omega
  .
   intro v n;obtain⟨i,y⟩:=List.mem_iff_getElem?.1 n;rw[List.getElem?_drop] at y;rcases Qgg f o y with ⟨m,_⟩|⟨m,u,rfl,g⟩
   . omega
   .
    rw[Qr0];refine List.mem_map.2 ⟨u,List.mem_eraseIdx_iff_getElem?.2 ?_,rfl⟩;rcases g with ⟨r,rfl⟩|⟨r,g⟩
    . exact⟨0,by omega,by rw[List.getElem?_drop];exact o⟩
    . exact⟨i+1,by omega,by rw[List.getElem?_drop,<-Nat.add_assoc,Nat.add_right_comm];exact g⟩
  .
   intro R C v n;rw[k] at n;have w:Span (a++ [c]).length R (overAt c s):=(C s (by simp)).over _;rcases List.mem_append.1 n with n|n
   .
    obtain⟨u,g,rfl⟩:=List.mem_map.1 n;have e:down c (overAt c s) u=fun i=>u i - overAt c s i*u c:=by
     funext i;simp only[down];grind
    rw[e];exact(C u (List.mem_append.2 (.inl g))).less w _
   . rw[List.mem_singleton.1 n]
     exact w
theorem Pl.fits{W N c P b:Nat}{M L:List Vec}{a:Vy}(h:Pl W N M c L a)(u:0<P)(f:P<=2 ^ b)(n:∀r,r∈ M->∀j,Wh P b (r j)){K:Nat}(o:(N+1)*(2 ^ b*(2*((N+1)*2 ^ b)) ^ N)*2 ^ b<2 ^ K)(d:0<K)(j:Nat)(v:Vec)(p:L[j]?=some v)(i:Nat):Fits (v i) K:=by
 have k:0<2 ^ b:=Nat.pow_pos (by decide);have q:∀B:Nat,0<P/\P<=2 ^ b:=fun _=>⟨u,f⟩
 rcases Nat.lt_or_ge j a.length with l|l
 .
  obtain⟨C,E,F,R,w,y,G,z⟩:=h.mi;have s:(L.take a.length)[j]?=some v:=by rw[List.getElem?_take_of_lt l];exact p
  obtain⟨g,t⟩:∃g,a[j]?=some g:=⟨_,gE l⟩;obtain⟨c1,c2,c3⟩:=h.cln.at j v g s t;refine Qf4 (W:=N) (H:=a) (D:=fun _=>P) k q n o d rfl (by omega) w y (z v (mO s)) (mO t) c1 (fun x A m=>?_) i;rcases Nat.lt_trichotomy x g with e|e|e
  . exact c2 x e
  . exact absurd e m
  . exact c3 x A e
 .
  refine h.mi.fit (D:=fun _=>P) k q n (Nat.lt_of_le_of_lt ?_ o) d v ?_ i
  . exact Nat.le_mul_of_pos_right _ k
  . exact mO (i:=j - a.length) (by rw[List.getElem?_drop,show a.length+(j - a.length)=j by omega];exact p)
theorem Qj8(n:Nat)(r x:Vec):dot (n+1) r x=dot n r x+r n*x n:=rfl
theorem Qj9{n:Nat}{M:List Vec}{x:Vec}:(∀r,r∈ M->dot n r x=r n)↔Null (n+1) M (upd x n (-1)):=by
 have e:∀r:Vec,dot (n+1) r (upd x n (-1))=dot n r x - r n:=fun r=>by
  rw[Qj8,Qar,Qau n r (upd x n (-1)) r x (fun c b=>by rw[Qad _ _ (by omega)])];grind
 constructor
 .
  intro h r a;rw[e,h r a];grind
 .
  intro h r a;have:=h r a;rw[e] at this;grind
theorem Pl.sol{n N:Nat}{M L:List Vec}{a:Vy}(h:Pl (n+1) N M n L a)(x:Vec):(∀r,r∈ M->dot n r x=r n)↔∀r,r∈ L->dot n r x=r n:=by
 rw[Qj9,Qj9];exact h.null _
theorem Pl.none{n N:Nat}{M L:List Vec}{a:Vy}(h:Pl (n+1) N M n L a){i:Nat}{v:Vec}(d:a.length<=i)(b:L[i]?=some v)(e:v n≠0)(x:Vec):¬∀r,r∈ M->dot n r x=r n:=by
 rw[h.sol];intro k;have:=k v (mO b);rw[Qbq n v x (fun c f=>by rw[h.rest i v b d c f];grind)] at this;exact e this.symm
theorem Pl.row{n N:Nat}{M L:List Vec}{a:Vy}(h:Pl (n+1) N M n L a)(f:∀(i:Nat) (v:Vec),a.length<=i->L[i]?=some v->v n=0)(x:Vec):(∀r,r∈ M->dot n r x=r n)↔∀r,r∈ L.take a.length->dot n r x=r n:=by
 rw[h.sol];constructor
 . exact fun k v d=>k v (List.mem_of_mem_take d)
 .
  intro k v d;obtain⟨j,e⟩:=List.mem_iff_getElem?.1 d;rcases Nat.lt_or_ge j a.length with b|b
  . exact k v (mO (i:=j) (by rw[List.getElem?_take_of_lt b];exact e))
  . rw[f j v b e]
    exact Qbq n v x fun c g=>by rw[h.rest j v e b c g];grind
theorem Pl.one{n N:Nat}{M L:List Vec}{a:Vy}(h:Pl (n+1) N M n L a)(w:∀(i:Nat) (v:Vec),a.length<=i->L[i]?=some v->v n=0)(hl:a.length=n)(y:Vec):(∀r,r∈ M->dot n r y=r n)↔∀(i:Nat) (v:Vec),i<n->L[i]?=some v->y i=v n:=by
 rw[h.row w y];have t:∀(i g:Nat),a[i]?=some g->g=i:=fun i g l=>by
  have:=Ech.all h.cln.ech (by omega) i g l;omega
 have c:∀(i:Nat) (v:Vec),i<n->L[i]?=some v->dot n v y=y i:=fun i v o b=>by
  obtain⟨g,l⟩:∃g,a[i]?=some g:=⟨_,gE (by omega)⟩;have p:=t i g l;subst p;have q:(L.take a.length)[g]?=some v:=by rw[List.getElem?_take_of_lt (by omega)];exact b
  obtain⟨x,z,A⟩:=h.cln.at g v g q l;rw[Qd3 n v y g o (fun d B s=>?_),x]
  . grind
  .
   rcases Nat.lt_trichotomy d g with k|k|k
   . rw[z d k];grind
   . exact absurd k s
   .
    obtain⟨e,u⟩:∃e,a[d]?=some e:=⟨_,gE (by omega)⟩;have:=t d e u;subst this;rw[A e (mO u) k];grind
 constructor
 .
  intro k i v o b;rw[<-c i v o b];exact k v (mO (i:=i) (by rw[List.getElem?_take_of_lt (by omega)];exact b))
 .
  intro k v b;obtain⟨j,m⟩:=List.mem_iff_getElem?.1 b;have f:j<n:=by
   have:=(gZ m).1;rw[List.length_take] at this;omega
  rw[List.getElem?_take_of_lt (by omega)] at m;rw[c j v f m];exact k j v f m
theorem Pl.free{n N:Nat}{M L:List Vec}{b:Vy}(h:Pl (n+1) N M n L b)(j:∀(i:Nat) (v:Vec),b.length<=i->L[i]?=some v->v n=0)(hl:b.length<n):∃x y:Vec,(∀r,r∈ M->dot n r x=r n)/\(∀r,r∈ M->dot n r y=r n)/\∃c,c<n/\x c≠y c:=by
 obtain⟨c,_,k,d⟩:=h.cln.ech.hole (by omega);have l:=h.cln.ech.mono (Nat.le_succ n);have m:n ∉ b:=fun o=>by have:=(h.cln.ech.head n o).2;omega
 have a:∀q:Rat,∃x:Vec,(∀r,r∈ M->dot n r x=r n)/\x c=q:=fun q=>by
  obtain⟨x,g,p⟩:=Ech.solve (n+1) (upd (fun _=>q) n (-1)) l lZ;have e:x n= -1:=by rw[g n m,Qar]
  refine⟨x,?_,by rw[g c d,Qad _ _ (by omega)]⟩;rw[h.row j x];intro r f;have:=p r f;rw[Qj8,e] at this;grind
 obtain⟨x,s,t⟩:=a 0;obtain⟨y,u,w⟩:=a 1;exact⟨x,y,s,u,c,k,by rw[t,w];decide⟩
theorem FrameFault.few{a:List S2}{d:List B6}{c:List H3}{x:Int}(h:FrameFault a d c 0 x):¬Many a.length d.length c.length/\(∀(i:Nat) (b:B6),d[i]?=some b->BarCode a b 0)/\(∀i y,c[i]?=some y->holdAt a.length c i y=0)/\x=0:=by
 rcases h with ⟨_,h,_⟩|⟨_,k,b,_,_,_,h,_⟩|⟨e,f,h⟩
 . cases h
 . exact absurd rfl h
 .
  rcases h with ⟨_,_,_,_,_,h,_⟩|⟨g,_,j⟩
  . exact absurd rfl h
  . exact⟨e,f,g,j⟩
theorem Qmb{d:List S2}{A:List B6}{c:List H3}(n:FrSized d A c){b:B6}(h:BarCode d b 0):∃p:Nat × Nat × Rat × Rat,BarV 1048576 d b p/\p.1<d.length/\p.2.1<d.length/\¬(p.2.2.1=0/\p.2.2.2=0):=by
 rcases h with ⟨_,h⟩|⟨o,q,s,t,c,g,i,k,l,m,D,E,F,r,u,v,w,_,_,_,x⟩
 . cases h
 have f:¬(i=l/\k=m):=fun e=>by rw[if_pos e] at x;cases x
 have y:=n.j s (mO c);have z:=n.j t (mO g);have G:=o.1;have H:=q.1;have I:=o.2;have J:=q.2;refine⟨(b.a.toNat,b.b.toNat,l - i,m - k),⟨by simp only;omega,by simp only;omega,fun e=>?_,s,t,i,k,l,m,c,g,y.1,y.2,z.1,z.2,r,u,v,w,rfl,rfl⟩,by simp only;omega,by simp only;omega,fun ⟨B,C⟩=>f ⟨?_,?_⟩⟩
 .
  simp only at e;rw[e,g] at c;cases c;exact f ⟨r.inj v,u.inj w⟩
 . simp only at B
   grind
 . simp only at C
   grind
theorem Qmc{n:Nat}{a:List H3}{i:Nat}{h:H3}(k:holdAt n a i h=0):∃r:Nat,HoldV n h r:=by
 unfold holdAt holdC at k;have b:0<=h.j/\h.j<n:=by
  apply bC;intro c;rw[if_neg c] at k;cases k
 obtain⟨d,e⟩:=b;exact⟨_,h.j.toNat,by omega,by omega,rfl⟩
theorem Qmd{a:List S2}{d:List B6}{k:List H3}(w:FrSized a d k){x:Int}(h:FrameFault a d k 0 x):∃(u:List (Nat × Nat × Rat × Rat)) (vh:Vy),FrV 1048576 a d k u vh/\∀p,p∈ u->p.1<a.length/\p.2.1<a.length/\¬(p.2.2.1=0/\p.2.2.2=0):=by
 obtain⟨n,j,z,_⟩:=h.few;have o:∀i:Nat,∃p:Nat × Nat × Rat × Rat,∀b,d[i]?=some b->BarV 1048576 a b p/\p.1<a.length/\p.2.1<a.length/\¬(p.2.2.1=0/\p.2.2.2=0):=fun i=>by
  rcases l:d[i]? with _|b
  . exact⟨(0,0,0,0),fun b j=>by cases j⟩
  . obtain⟨p,c⟩:=Qmb w (j i b l)
    exact⟨p,fun C e=>by cases e;exact c⟩
 have q:∀i:Nat,∃r:Nat,∀y,k[i]?=some y->HoldV a.length y r:=fun i=>by
  rcases l:k[i]? with _|y
  . exact⟨0,fun b j=>by cases j⟩
  . obtain⟨r,s⟩:=Qmc (z i y l)
    exact⟨r,fun D e=>by cases e;exact s⟩
 obtain⟨f,v⟩:=Classical.axiomOfChoice o;obtain⟨g,A⟩:=Classical.axiomOfChoice q;have m:∀{β:Type} (F:Nat->β) (L i:Nat) (p:β),((List.range L).map F)[i]?=some p->i<L/\p=F i:=fun F L i p c=>by
  have hl:=(gZ c).1;rw[List.length_map,List.length_range] at hl;rw[List.getElem?_map,List.getElem?_range hl] at c;exact⟨hl,(Option.some.inj c).symm⟩
 refine⟨(List.range d.length).map f,(List.range k.length).map g,⟨?_,?_,?_,by simp,by simp,fun i b p j c=>?_,fun i y r B s=>?_,Nat.le_refl _⟩,fun p c=>?_⟩
 . exact Nat.le_of_not_lt fun h=>n (.inr (.inl h))
 . exact Nat.le_of_not_lt fun h=>n (.inr (.inr (.inl h)))
 . exact Nat.le_of_not_lt fun h=>n (.inr (.inr (.inr h)))
 . obtain⟨_,rfl⟩:=m f _ _ _ c
   exact(v i b j).1
 . obtain⟨_,rfl⟩:=m g _ _ _ s
   exact A i y B
 .
  obtain⟨i,l,rfl⟩:=List.mem_map.1 c;have t:=List.mem_range.1 l;exact(v i d[i] (gE t)).2
end Go.Proofs.YtppkmifkpjkgpaaGreatDoor
namespace Go.Proofs.YtppkmifkpjkgpaaGreatDoor
open Go.Proofs.Tryz
set_option linter.unusedSimpArgs false
set_option linter.unusedVariables false
set_option maxHeartbeats 8000000
set_option maxRecDepth 1000000
def jW:List S2->Nat
 | []=>0
 |s :: l=>s.x.size+s.y.size+jW l
theorem Qe1:∀{l:List S2} {s:S2},s∈ l->s.x.size<=jW l/\s.y.size<=jW l
 |t :: l,s,h=>by
  rcases List.mem_cons.1 h with rfl|h
  . simp only[jW];omega
  . have:=Qe1 h;simp only[jW];omega
theorem Qme(s:Vs):s.data.toList.length=s.size:=by rw[Array.length_toList];rfl
theorem QOf.fits'{s:Vs}{q:Rat}{n:Nat}(h:QOf s.data.toList q)(a:s.size<=n):Fits q (4*n+1):=h.fits (by rw[Qme];exact a)
theorem Qhe:∀js:List S2,∃l:List (Rat × Nat),(∀p,p∈ l->Fits p.1 p.2)/\(l.map (·.2)).sum=4*jW js+2*js.length/\∀s,s∈ js->∀x y,QOf s.x.data.toList x->QOf s.y.data.toList y->x∈ l.map (·.1)/\y∈ l.map (·.1)
 | []=>⟨[],(fun p a=>by cases a),rfl,(fun s hs=>by cases hs)⟩
 |s :: js=>by
  obtain⟨l,h,i,j⟩:=Qhe js;obtain⟨x,d⟩:=QOf.ex s.x.data.toList;obtain⟨y,e⟩:=QOf.ex s.y.data.toList;refine⟨(x,4*s.x.size+1) :: (y,4*s.y.size+1) :: l,fun p a=>?_,?_,fun t c u v f g=>?_⟩
  .
   rcases List.mem_cons.1 a with rfl|a
   . exact d.fits' lZ
   .
    rcases List.mem_cons.1 a with rfl|a
    . exact e.fits' lZ
    . exact h p a
  . simp only[List.map_cons,List.sum_cons,i,jW,List.length_cons]
    omega
  .
   rcases List.mem_cons.1 c with rfl|c
   . rw[f.inj d,g.inj e]
     simp
   . obtain⟨k,m⟩:=j t c u v f g
     exact⟨List.mem_cons_of_mem _ (List.mem_cons_of_mem _ k),List.mem_cons_of_mem _ (List.mem_cons_of_mem _ m)⟩
structure FrP (P b:Nat) (vb:List (Nat × Nat × Rat × Rat)):Prop where
 pos:0<P
 le:P<=2 ^ b
 wh:∀p,p∈ vb->Wh P b p.2.2.1/\Wh P b p.2.2.2
theorem FrP.at{P b nb:Nat}{vb:List (Nat × Nat × Rat × Rat)}{vh:Vy}(h:FrP P b vb)(r c:Nat):Wh P b (balM vb nb vh r c):=by
 unfold balM;cases hp:vb[c]? with
 |none=>
  simp only;cases vh[c - nb]? with
  |none=>exact Wh.zero _ _
  |some x=>
   simp only
   split
   . exact Wh.one h.le
   . exact Wh.zero _ _
 |some p=>
  obtain⟨w1,w2⟩:=h.wh p (mO hp);simp only[barAt]
  split
  . exact w1
  .
   split
   . exact w1.neg
   .
    split
    . exact w2
    .
     split
     . exact w2.neg
     . exact Wh.zero _ _
section
variable {n P b:Nat} {js:List S2} {bs:List B6} {hs:List H3} {vb:List (Nat × Nat × Rat × Rat)} {vh:Vy}
theorem FrP.rows(h:FrP P b vb)(c:FrV n js bs hs vb vh):
 Going (kE b) (MJ (bs.length+hs.length) 20 (kC b) (balRows js.length vb bs.length vh))/\MJ (bs.length+hs.length) 20 (kC b) (balRows js.length vb bs.length vh) 0 (balRows js.length vb bs.length vh) [] []/\
 ∀L S a,MJ (bs.length+hs.length) 20 (kC b) (balRows js.length vb bs.length vh) (bs.length+hs.length) L S a->(Ech 0 (bs.length+hs.length) S a/\∀x,Null (bs.length+hs.length) (balRows js.length vb bs.length vh) x↔Null (bs.length+hs.length) S x)/\clnFits (kW b) S a/\∀v,v∈ cln S a->∀i,Fits (v i) (kC b):=by
 refine Qhz h.pos h.le (fun r d j=>?_) (fun r d i e=>?_) (.inl ?_)
 . obtain⟨k,_,rfl⟩:=List.mem_map.1 d
   exact h.at k j
 . obtain⟨k,_,rfl⟩:=List.mem_map.1 d
   exact Qb8 c.lb c.lh k i e
 .
  have:=c.j;simp only[balRows,List.length_map,List.length_range];omega
end
open Go.RowKit
def lW:List L3->Nat
 | []=>0
 |s :: l=>s.x.size+s.y.size+lW l
theorem Qe2:∀{l:List L3} {s:L3},s∈ l->s.x.size<=lW l/\s.y.size<=lW l
 |t :: l,s,h=>by
  rcases List.mem_cons.1 h with rfl|h
  . simp only[lW];omega
  . have:=Qe2 h;simp only[lW];omega
theorem Qhf:∀b:List L3,∃l:List (Rat × Nat),(∀p,p∈ l->Fits p.1 p.2)/\(l.map (·.2)).sum=4*lW b+2*b.length/\∀s,s∈ b->∀x y,QOf s.x.data.toList x->QOf s.y.data.toList y->x∈ l.map (·.1)/\y∈ l.map (·.1)
 | []=>⟨[],(fun p a=>by cases a),rfl,(fun s h=>by cases h)⟩
 |s :: js=>by
  obtain⟨l,i,j,k⟩:=Qhf js;obtain⟨x,d⟩:=QOf.ex s.x.data.toList;obtain⟨y,e⟩:=QOf.ex s.y.data.toList;refine⟨(x,4*s.x.size+1) :: (y,4*s.y.size+1) :: l,fun p a=>?_,?_,fun t c u v f g=>?_⟩
  .
   rcases List.mem_cons.1 a with rfl|a
   . exact d.fits' lZ
   .
    rcases List.mem_cons.1 a with rfl|a
    . exact e.fits' lZ
    . exact i p a
  . simp only[List.map_cons,List.sum_cons,j,lW,List.length_cons]
    omega
  .
   rcases List.mem_cons.1 c with rfl|c
   . rw[f.inj d,g.inj e]
     simp
   . obtain⟨m,n⟩:=k t c u v f g
     exact⟨List.mem_cons_of_mem _ (List.mem_cons_of_mem _ m),List.mem_cons_of_mem _ (List.mem_cons_of_mem _ n)⟩
def WhN(P b a:Nat)(q:Rat):Prop:=∃z:Int,q*(P:Rat)=(z:Rat)/\z.natAbs<=a*2 ^ b
theorem WhN.sub{P b a:Nat}{p q:Rat}(h:WhN P b a p)(k:Wh P b q):WhN P b (a+1) (p - q):=by
 obtain⟨y,e,c⟩:=h;obtain⟨z,f,d⟩:=k;refine⟨y - z,?_,?_⟩
 . rw[Rat.intCast_sub,<-e,<-f]
   grind
 . rw[Nat.add_mul,Nat.one_mul]
   omega
theorem WhN.mono{P b a c:Nat}{q:Rat}(h:WhN P b a q)(d:a<=c):WhN P b c q:=by
 obtain⟨z,e,f⟩:=h;exact⟨z,e,Nat.le_trans f (Nat.mul_le_mul_right _ d)⟩
theorem Qe3{P b:Nat}:∀(k:Nat) (vs:List (Nat × Rat × Rat)),(∀p,p∈ vs->Wh P b p.2.1/\Wh P b p.2.2)->∀i,WhN P b k (agn (vs.take k) i)
 |0,vs,h,i=>⟨0,by simp[agn,Rat.zero_mul],by simp⟩
 |k+1,vs,h,i=>by
  cases hp:vs[k]? with
  |none=>
   have e:vs.take (k+1)=vs.take k:=by rw[List.take_add_one,hp];simp
   rw[e];exact(Qe3 k vs h i).mono (by omega)
  |some p=>
   rw[Qdf hp];have a:=Qe3 k vs h;obtain⟨w1,w2⟩:=h p (mO hp);by_cases c:i=2*p.1
   . rw[c,agn_x];exact(a _).sub w1
   .
    by_cases d:i=2*p.1+1
    . rw[d,agn_y];exact(a _).sub w2
    .
     have:agnStep (agn (vs.take k)) p i=agn (vs.take k) i:=by
      unfold agnStep;rw[Qad _ _ d,Qad _ _ c]
     rw[this];exact(a i).mono (by omega)
theorem Wh.fits{P b:Nat}{q:Rat}(h:Wh P b q)(a:0<P)(c:P<=2 ^ b):Fits q (b+1):=by
 obtain⟨z,e,f⟩:=h;have g:2 ^ b<2 ^ (b+1):=Nat.pow_lt_pow_right (by decide) (by omega);refine Qf2 (Z:=z) (y:=1) (d:=P) (by decide) a ?_ (by omega) (by simp;omega) (by omega);rw[<-e]
 show q*(((1:Int):Rat)*(P:Rat))=q*(P:Rat)
 rw[show ((1:Int):Rat)=1 from rfl,Rat.one_mul]
structure FrLP (P b:Nat) (vb:List (Nat × Nat × Rat × Rat)) (vs:List (Nat × Rat × Rat)):Prop extends FrP P b vb where
 agn:∀k i,Wh P b (agn (vs.take k) i)
theorem FrV.overL{n T:Nat}{u:List S2}{B:List B6}{S:List H3}{C:List (Nat × Nat × Rat × Rat)}{vh:Vy}{b:List L3}{vs:List (Nat × Rat × Rat)}(D:FrV n u B S C vh)(U:b.length<=20)(V:vs.length=b.length)(E:∀(i:Nat) (l:L3) (p:Nat × Rat × Rat),b[i]?=some l->vs[i]?=some p->LoadV u.length l p)(hT:jW u+lW b<=T):∃P,FrLP P (8*T+70) C vs:=by
 obtain⟨l,W,h2,H⟩:=Qhe u;obtain⟨I,X,k2,Y⟩:=Qhf b;obtain⟨m,v⟩:=nm (l++I);have J:=D.j;have K:denP (m.map (·.1))<=2 ^ (4*T+60):=by
  refine Nat.le_trans (Qhy m (fun p a=>?_)) (Nat.pow_le_pow_right (by decide) ?_)
  .
   rw[<-v] at a;rcases List.mem_append.1 a with a|a
   . exact W p a
   . exact X p a
  . rw[<-v,List.map_append,List.sum_append]
    omega
 have c:∀q,q∈ l.map (·.1)->q∈ m.map (·.1):=fun q d=>by rw[<-v,List.map_append];exact List.mem_append.2 (.inl d)
 have f:∀q,q∈ I.map (·.1)->q∈ m.map (·.1):=fun q d=>by rw[<-v,List.map_append];exact List.mem_append.2 (.inr d)
 have w:∀q:Rat,q∈ m.map (·.1)->Fits q (4*T+1)->Wh (denP (m.map (·.1))) (8*T+61) q:=fun q d Z=>(Wh.of_mem d Z K).mono (by omega)
 refine⟨denP (m.map (·.1)),⟨Qhx _,Nat.le_trans K (Nat.pow_le_pow_right (by decide) (by omega)),fun p a=>?_⟩,fun k i=>?_⟩
 .
  obtain⟨i,hi,rfl⟩:=List.getElem_of_mem a;have F:i<B.length:=by have:=D.lb;omega
  obtain⟨s,t,x1,y1,x2,y2,e1,e2,_,_,_,_,L,M,N,O,e3,e4⟩:=(D.vb i B[i] C[i] (gE F) (gE hi)).ex;have Q:=mO e1;have mt:=mO e2;have aa:=Qe1 Q;have ab:=Qe1 mt;have g:=H s Q x1 y1 L M;have R:=H t mt x2 y2 N O;rw[e3,e4];exact⟨((w x2 (c _ R.1) (N.fits' (by omega))).sub (w x1 (c _ g.1) (L.fits' (by omega)))).mono (by omega),((w y2 (c _ R.2) (O.fits' (by omega))).sub (w y1 (c _ g.2) (M.fits' (by omega)))).mono (by omega)⟩
 .
  have hw:∀p,p∈ vs->Wh (denP (m.map (·.1))) (8*T+61) p.2.1/\Wh (denP (m.map (·.1))) (8*T+61) p.2.2:=fun p a=>by
   obtain⟨j,J,rfl⟩:=List.getElem_of_mem a;have G:j<b.length:=by omega
   have A:=E j b[j] vs[j] (gE G) (gE J);have o:b[j]∈ b:=List.getElem_mem _;have j1:=Qe2 o;have g:=Y _ o _ _ A.x A.y;exact⟨w _ (f _ g.1) (A.x.fits' (by omega)),w _ (f _ g.2) (A.y.fits' (by omega))⟩
  have r:vs.take k=vs.take (min k vs.length):=by
   rcases Nat.le_total k vs.length with h|h
   . rw[Nat.min_eq_left h]
   . rw[Nat.min_eq_right h,List.take_length,List.take_of_length_le h]
  rw[r];obtain⟨z,e,hz⟩:=Qe3 (min k vs.length) vs hw i;refine⟨z,e,Nat.le_trans hz ?_⟩;have h9:(2:Nat) ^ 9=512:=by decide
  have ad:=Nat.min_le_right k vs.length;have:min k vs.length*2 ^ (8*T+61)<=2 ^ 9*2 ^ (8*T+61):=Nat.mul_le_mul_right _ (by omega);rw[<-Nat.pow_add] at this;exact Nat.le_trans this (Nat.pow_le_pow_right (by decide) (by omega))
theorem Qe4{α β γ:Type}{f:α->β->γ}:∀{l:List α} {m:List β} {r:γ},r∈ List.zipWith f l m->∃a,a∈ l/\∃b,b∈ m/\r=f a b
 |a :: l,b :: m,r,h=>by
  rw[List.zipWith_cons_cons] at h;rcases List.mem_cons.1 h with rfl|h
  . exact⟨a,by simp,b,by simp,rfl⟩
  . obtain⟨c,d,g,i,e⟩:=Qe4 h
    exact⟨c,by simp[d],g,by simp[i],e⟩
 | [],m,r,h=>by simp at h
 |a :: l,[],r,h=>by simp at h
theorem Qhg(o q s t:Vx)(c1 c2 c3 u P b:Nat)(a:List S2)(c:List B6)(d:List H3)(g:List (Nat × Nat × Rat × Rat))(vh:Vy)(f:List L3)(vs:List (Nat × Rat × Rat))(w:Vz)(I:Glob w)(J:FrRow w o q s c1 c2 c3 a c d)(K:FrSized a c d)(x:FrameFault a c d 0 0)(n:FrV 1048576 a c d g vh)
 (hl:ARow L3.cells w t u f) (y:f.length<=20) (z:vs.length=f.length) (A:∀(i:Nat) (l:L3) (p:Nat × Rat × Rat),f[i]?=some l->vs[i]?=some p->LoadV a.length l p) (e:FrLP P b g vs) (N:1000000<=b) (O:b<=16000000):
 Calls prog 24 #[.agg #[.slice o a.length c1,.slice q c.length c2,.slice s d.length c3],.slice t f.length u] w (CarrySays c.length d.length (balRows a.length g c.length vh) ((List.range (2*a.length)).map (agn vs)) w):=by
 have B:∀i,Wh P b (agn vs i):=fun i=>by
  have:=e.agn vs.length i;rw[List.take_length] at this;exact this
 obtain⟨C,D,E⟩:=Qhz (W:=c.length+d.length+1) (M:=List.zipWith (wider (c.length+d.length)) (balRows a.length g c.length vh) ((List.range (2*a.length)).map (agn vs))) e.pos e.le (fun r F j=>by
  obtain⟨m,G,v,h,rfl⟩:=Qe4 F;obtain⟨k,_,rfl⟩:=List.mem_map.1 G;obtain⟨i,_,rfl⟩:=List.mem_map.1 h;unfold wider
  split
  . exact B _
  . exact e.at _ _) (fun r F i H=>by
  obtain⟨m,G,v,h,rfl⟩:=Qe4 F;obtain⟨k,_,rfl⟩:=List.mem_map.1 G;unfold wider;rw[if_neg (by omega)]
  exact Qb8 n.lb n.lh _ i (by omega)) (.inl (by
  have:=n.j;simp only[List.length_zipWith,balRows,List.length_map,List.length_range]
  omega))
 refine Ql3 o q s t c1 c2 c3 u 1048576 (kW b) a c d g vh f vs w I J K x n hl y z A (fun k i=>((e.agn k i).fits e.pos e.le).mono (by simp only[kW,kC];omega)) (by simp only[kW,kC];omega) (by simp only[kW,kC];omega) _ (C.mono (by simp only[kE,kW,kC];omega)) D (fun L S Q H=>?_);obtain⟨⟨R,T⟩,U,_⟩:=E L S Q H;exact⟨R,T,U⟩
theorem Ql7(a b d:Nat)(w:Vz)(g:Glob w)(h:FrRow w (some ⟨a,0,none⟩) (some ⟨b,0,none⟩) (some ⟨d,0,none⟩) 3 3 3 cornerJ cornerB cornerH):
 Calls prog 27 #[.agg #[.slice (some ⟨a,0,none⟩) 3 3,.slice (some ⟨b,0,none⟩) 3 3,.slice (some ⟨d,0,none⟩) 3 3]] w fun e w'=>e=.returned (.tuple #[.int .i64 0,.agg #[.int .i64 0,.int .i64 0]])/\Below w.heap.size w w':=by
 refine Calls.mono (Qto (some ⟨a,0,none⟩) (some ⟨b,0,none⟩) (some ⟨d,0,none⟩) 3 3 3 cornerJ cornerB cornerH w g h Qey) ?_;rintro e w' ⟨c,i,k,rfl,f,_,hk,j⟩;obtain⟨rfl,rfl⟩:=f.inj Qe0;obtain rfl:=hk rfl;exact⟨rfl,j⟩
theorem Qdi{b:Nat}{q:Rat}(h:q=0∨q=1∨q= -1):Wh 1 b q:=by
 rcases h with rfl|rfl|rfl
 . exact Wh.zero _ _
 . exact Wh.one Nat.one_le_two_pow
 . exact(Wh.one Nat.one_le_two_pow).neg
theorem Qhd(b:Nat):FrLP 1 b cornerVB cornerVS:=by
 refine⟨⟨by decide,Nat.one_le_two_pow,fun p a=>?_⟩,fun k i=>?_⟩
 . simp only[cornerVB,List.mem_cons,List.not_mem_nil,or_false] at a
   rcases a with rfl|rfl|rfl<;>exact⟨Qdi (by decide +kernel),Qdi (by decide +kernel)⟩
 .
  match k with
  |0=>exact Wh.zero _ _
  |k+1=>
   have e:agn (cornerVS.take (k+1))=agnStep (fun _=>0) (2,1,0):=by simp[cornerVS];rfl
   rw[e];by_cases c:i=4
   . subst c
     exact Qdi (by decide +kernel)
   .
    by_cases d:i=5
    . subst d
      exact Qdi (by decide +kernel)
    . rw[Qlj (by simpa using c) (by simpa using d)]
      exact Wh.zero _ _
theorem Ql8(a b d:Nat)(w:Vz)(k:Glob w)(l:FrRow w (some ⟨a,0,none⟩) (some ⟨b,0,none⟩) (some ⟨d,0,none⟩) 3 3 3 cornerJ cornerB cornerH):
 Calls prog 8 #[.agg #[.slice (some ⟨a,0,none⟩) 3 3,.slice (some ⟨b,0,none⟩) 3 3,.slice (some ⟨d,0,none⟩) 3 3]] w fun e w'=>e=.returned (.tuple #[.int .i64 6,.int .i64 0,.int .i64 0,.agg #[.int .i64 0,.int .i64 0]])/\Below w.heap.size w w':=by
 obtain⟨f,g,h⟩:=(Qhd 1000000).toFrP.rows Qez;refine Calls.mono (Ql1 (some ⟨a,0,none⟩) (some ⟨b,0,none⟩) (some ⟨d,0,none⟩) 3 3 3 1048576 (kW 1000000) cornerJ cornerB cornerH cornerVB cornerVH w k l Qey Qe0 Qez (by simp only[kW,kC];omega) (by simp only[kW,kC];omega) _ (f.mono (by simp only[kE,kW,kC];omega)) g) ?_;rintro e w' ⟨⟨L,S,m,rfl,_,n⟩,o⟩;obtain⟨⟨i,j⟩,_⟩:=h L S m n;have p:balRows cornerJ.length cornerVB cornerB.length cornerVH=cornerM:=Qha;rw[p] at j;have q:S.length=6:=by
  rw[i.len];exact i.full (fun x r c s=>Qnt x ((j x).2 r) c s)
 rw[q];exact⟨rfl,o⟩
theorem Ql9(a b c d:Nat)(f:Vx)(w:Vz)(g:Glob w)(i:FrRow w (some ⟨a,0,none⟩) (some ⟨b,0,none⟩) (some ⟨c,0,none⟩) 3 3 3 cornerJ cornerB cornerH)(hl:ARow L3.cells w f d cornerL):
 Calls prog 24 #[.agg #[.slice (some ⟨a,0,none⟩) 3 3,.slice (some ⟨b,0,none⟩) 3 3,.slice (some ⟨c,0,none⟩) 3 3],.slice f 1 d] w fun e w'=>∃a b,e=.returned (.tuple #[.agg #[.slice (some ⟨a,0,none⟩) 3 3,.slice (some ⟨b,0,none⟩) 3 3],.agg #[.int .i64 0,.int .i64 0]])/\TLst w' (some ⟨a,0,none⟩) [⟨#[49]⟩,⟨#[45,49]⟩,⟨#[49]⟩]/\TLst w' (some ⟨b,0,none⟩) [⟨#[45,49]⟩,⟨#[45,49]⟩,⟨#[49]⟩]/\Below w.heap.size w w':=by
 have j:balRows cornerJ.length cornerVB cornerB.length cornerVH=cornerM:=Qha;have k:(List.range (2*cornerJ.length)).map (agn cornerVS)= [0,0,0,0,-1,0]:=Ql5;have h:=Qhg (some ⟨a,0,none⟩) (some ⟨b,0,none⟩) (some ⟨c,0,none⟩) f 3 3 3 d 1 1000000 cornerJ cornerB cornerH cornerVB cornerVH cornerL cornerVS w g i Qey Qe0 Qez hl (by decide) rfl Ql4 (Qhd _) (by decide) (by decide);rw[j,k] at h;exact h.mono fun e w' l=>Ql6 l
theorem Qma(w:Vz)(hg:Glob w):Calls prog 5 #[] w fun e w'=>e=.returned (.bool true)/\Below w.heap.size w w':=by
 have HG:=Hi hg;clear hg;go_enter func5,ntmps5;go_wp2_with fail;go_fit (Qe8 w);rintro e w1 ⟨g1,g2,g3,rfl,L,y⟩;obtain⟨M,p⟩:=Ia (Ql7 g1 g2 g3 w1 (HG.o.below y) L) y;clear L y;go_wp2_with fail;go_fit M.o;rintro e w2 ⟨rfl,z⟩;obtain⟨V2,q⟩:=nm (w2.alloc (.cells #[.int .i64 0,.int .i64 0] 31));obtain⟨p2,A⟩:=nm w2.heap.size;have N:O (Below w.heap.size w V2):=Hi ((p.o.trans (z.mono p.o.size)).trans ((show Below w2.heap.size w2 V2 by rw[<-q];exact(Below.refl _ _).alloc lZ _).mono (p.o.trans (z.mono p.o.size)).size));have B:=Uf q A;obtain⟨ai,aj⟩:=Ia q A;clear z q A M;go_wp2_with fail;rw[ai.o,aj.o];go_fit (Qe8 V2);rintro e w3 ⟨g4,g5,g6,rfl,P,C⟩
 obtain⟨D,E⟩:=Ia (N.o.trans (C.mono N.o.size)) (B.o.below C B.o.lt);have Q:=Hi (Ql8 g4 g5 g6 w3 (HG.o.below D.o) P);clear P C B;go_wp2_with fail;go_fit Q.o;rintro e w4 ⟨rfl,F⟩;obtain⟨V4,r⟩:=nm (w4.alloc (.cells #[.int .i64 0,.int .i64 0] 31));obtain⟨p4,G⟩:=nm w4.heap.size;have h:Below w3.heap.size w3 V4:=by rw[<-r];exact F.alloc F.size _
 have R:O (Below w.heap.size w V4):=Hi (D.o.trans (h.mono D.o.size));have H:=Uf r G;obtain⟨i,ak,al⟩:=Ib (E.o.below h E.o.lt) r G;clear F r G h Q E;go_wp2_with fail;rw[ak.o,al.o];go_fit (Qe8 V4);rintro e w5 ⟨g7,g8,g9,rfl,S,s⟩;obtain⟨T,U,j,k⟩:=Ic S (R.o.trans (s.mono R.o.size)) (H.o.below s H.o.lt) (i.o.below s i.o.lt);clear S s H i;go_wp2_with fail;go_fit (Qes ⟨#[49]⟩ ⟨#[48]⟩ w5);rintro e w6 ⟨rfl,I⟩;obtain⟨V,t⟩:=nm (w6.alloc (.cells #[.int .i64 2,.string ⟨#[49]⟩,.string ⟨#[48]⟩] 62));have a:Below w5.heap.size w5 V:=by rw[<-t];exact I.alloc I.size _
 obtain⟨J,u,v⟩:=Ib (U.o.trans (a.mono U.o.size)) (j.o.below a j.o.lt) (k.o.below a k.o.lt);have W:SB V w6.heap.size 62 #[.int .i64 2,.string ⟨#[49]⟩,.string ⟨#[48]⟩]:=by rw[<-t];exact SB.new w6 _ _
 obtain⟨X,am⟩:=Ia (Ql9 g7 g8 g9 1 (some ⟨w6.heap.size,0,none⟩) V (HG.o.below J.o) (T.o.below a) (W.arow rfl (by decide))) t;clear I t a W T j k;go_wp2_with fail;rw[am.o];go_fit X.o;rintro e x ⟨h1,h2,rfl,Y,Z,K⟩;obtain⟨c,b⟩:=nm ((x.alloc (.cells #[.slice (some ⟨h1,0,none⟩) 3 3,.slice (some ⟨h2,0,none⟩) 3 3] 50)).alloc (.cells #[.int .i64 0,.int .i64 0] 31));obtain⟨q7,m⟩:=nm x.heap.size;have d:Below x.heap.size x c:=by rw[<-b];exact Below.new2 x _ _
 have f:Below V.heap.size V c:=K.trans (d.mono K.size);have aa:SB c q7 50 #[.slice (some ⟨h1,0,none⟩) 3 3,.slice (some ⟨h2,0,none⟩) 3 3]:=by rw[<-b,<-m];exact(SB.new x _ _).alloc _
 have ab:SB c (q7+1) 31 #[.int .i64 0,.int .i64 0]:=by rw[<-b,<-m];exact Qan x _ _ _
 obtain⟨k0,-⟩:=zc (v.o.below f v.o.lt);obtain⟨k1,-⟩:=zc (u.o.below f u.o.lt);obtain⟨k2,-⟩:=zc ab;obtain⟨k3,k4,-⟩:=zc aa;have ad:=Hi (J.o.trans (f.mono J.o.size));obtain⟨V8,n⟩:=nm ((c.alloc (.cells #[.string ⟨#[49]⟩,.string ⟨#[45,49]⟩,.string ⟨#[49]⟩] 54)).alloc (.cells #[.string ⟨#[45,49]⟩,.string ⟨#[45,49]⟩,.string ⟨#[49]⟩] 54));have g:Below c.heap.size c V8:=by rw[<-n];exact Below.new2 c _ _
 have t1:TLst V8 (some ⟨c.heap.size,0,none⟩) [⟨#[49]⟩,⟨#[45,49]⟩,⟨#[49]⟩]:=by
  rw[<-n];exact SB.texts (l:=[⟨#[49]⟩,⟨#[45,49]⟩,⟨#[49]⟩]) ((SB.new c 54 _).alloc _)
 have t2:TLst V8 (some ⟨c.heap.size+1,0,none⟩) [⟨#[45,49]⟩,⟨#[45,49]⟩,⟨#[49]⟩]:=by
  rw[<-n];exact SB.texts (l:=[⟨#[45,49]⟩,⟨#[45,49]⟩,⟨#[49]⟩]) (Qan c _ 54 _)
 obtain⟨ae,af⟩:=Ia (Qhc (some ⟨h1,0,none⟩) (some ⟨h2,0,none⟩) (some ⟨c.heap.size,0,none⟩) (some ⟨c.heap.size+1,0,none⟩) 3 3 3 3 [⟨#[49]⟩,⟨#[45,49]⟩,⟨#[49]⟩] [⟨#[45,49]⟩,⟨#[45,49]⟩,⟨#[49]⟩] V8 ((Y.below d).below g) ((Z.below d).below g) t1 t2 (by decide) (by decide)) (ad.o.trans (g.mono ad.o.size));rw[<-b] at k0 k1;rw[<-b,<-m] at k2 k3 k4;have ag:c.heap.size=x.heap.size+1+1:=by rw[<-b];simp
 rw[ag] at ae;obtain⟨an,aq,ao⟩:=Ib b m n;clear Y Z K d f aa ab g t1 t2 b m n X ag;go_wp2_with fail;rw[an.o,ao.o];go_fit ae.o;rintro e w9 ⟨rfl,ah⟩;have ap:=Hi (af.o.trans (ah.mono af.o.size));clear ah k0 k1 k2 k3 k4;go_wp2;go_ret;exact⟨rfl,ap.o⟩
end Go.Proofs.YtppkmifkpjkgpaaGreatDoor
namespace Go.Proofs.YtppkmifkpjkgpaaGreatDoor
open Go.ChangeShapes Go.WideShapes Go.ChangeAt Go.RowKit
open Go.Proofs.Tryz
set_option linter.unusedSimpArgs false
set_option linter.unusedVariables false
set_option maxHeartbeats 8000000
set_option maxRecDepth 1000000
theorem Qbf{s:Vs}{l:Vu}(h:s.data.toList=l):s=⟨l.toArray⟩:=by
 obtain⟨⟨m⟩⟩:=s;simp at h;subst h;rfl
theorem gSpot:prog.globalNamed "rafter/raftersame.Spot" =some 1:=by kernel_rfl
theorem gSpotType:(prog.globals[1]?).map (·.type)=some 56:=by kernel_rfl
theorem gBar:prog.globalNamed "rafter/raftersame.Bar" =some 2:=by kernel_rfl
theorem gBarType:(prog.globals[2]?).map (·.type)=some 80:=by kernel_rfl
theorem gHold:prog.globalNamed "rafter/raftersame.Hold" =some 3:=by kernel_rfl
theorem gHoldType:(prog.globals[3]?).map (·.type)=some 83:=by kernel_rfl
theorem Qtw{W:Vz}{rest:List (String × DataW Unit)}(h:laidMet prog (("rafter/raftersame.Spot",Rows.laid_rafter_raftersame_Spot) :: rest) W):W.cell? ⟨1,0,none⟩=some (.string ⟨#[109,97,114,107]⟩)/\W.cell? ⟨1,1,none⟩=some (.string ⟨#[]⟩):=by
 obtain⟨o,⟨g,t,f,d,p,q,j,k,a,l,_,_⟩,_⟩:=h;obtain rfl:=Option.some.inj (gSpot.symm.trans j);obtain rfl:=Option.some.inj (gSpotType.symm.trans k);obtain⟨x,y,b,e,_⟩:=Qgm underlying56 underlying54 Qda Qbv rfl rfl rfl rfl l;simp only[Rows.laid_rafter_raftersame_Spot,DataW.agg.injEq,List.cons.injEq,DataW.lit.injEq,Lit.string.injEq,and_true] at e;obtain⟨m,n⟩:=e;have c:∀i,W.cell? ⟨1,i,none⟩=f.toList[i]?:=fun i=>by rw[World.var?_cell gSpot a i];simp
 rw[b] at c;refine⟨?_,?_⟩
 . rw[c 0,<-Qbf m.symm];rfl
 . rw[c 1,<-Qbf n.symm];rfl
theorem Qtx{W:Vz}{rest:List (String × DataW Unit)}(h:laidMet prog (("rafter/raftersame.Bar",Rows.laid_rafter_raftersame_Bar) :: rest) W):
 W.cell? ⟨2,0,none⟩=some (.int .i64 (-9))/\W.cell? ⟨2,1,none⟩=some (.int .i64 0)/\W.cell? ⟨2,2,none⟩=some (.string ⟨#[]⟩)/\W.cell? ⟨2,3,none⟩=some (.string ⟨#[]⟩)/\W.cell? ⟨2,4,none⟩=some (.string ⟨#[]⟩)/\W.cell? ⟨2,5,none⟩=some (.string ⟨#[]⟩):=by
 obtain⟨w,⟨g,t,j,e,p,q,k,l,a,m,_,_⟩,_⟩:=h;obtain rfl:=Option.some.inj (gBar.symm.trans k);obtain rfl:=Option.some.inj (gBarType.symm.trans l);obtain⟨b,d,f⟩:=Qki underlying80 underlying54 underlying3 Qgq Qbv cellsInt rfl rfl rfl rfl rfl rfl rfl rfl rfl rfl rfl rfl m;simp only[Rows.laid_rafter_raftersame_Bar,barD,textD,DataW.agg.injEq,List.cons.injEq,DataW.lit.injEq,Lit.string.injEq,Lit.int.injEq,true_and,and_true] at f;obtain⟨n,o,r,s,u,v⟩:=f;have c:∀i,W.cell? ⟨2,i,none⟩=j.toList[i]?:=fun i=>by rw[World.var?_cell gBar a i];simp
 rw[d] at c;refine⟨?_,?_,?_,?_,?_,?_⟩
 . rw[c 0,n];rfl
 . rw[c 1,o];rfl
 . rw[c 2,<-Qbf r.symm];rfl
 . rw[c 3,<-Qbf s.symm];rfl
 . rw[c 4,<-Qbf u.symm];rfl
 . rw[c 5,<-Qbf v.symm];rfl
theorem Qty{W:Vz}{rest:List (String × DataW Unit)}(h:laidMet prog (("rafter/raftersame.Hold",Rows.laid_rafter_raftersame_Hold) :: rest) W):W.cell? ⟨3,0,none⟩=some (.int .i64 (-9))/\W.cell? ⟨3,1,none⟩=some (.int .i64 0)/\W.cell? ⟨3,2,none⟩=some (.string ⟨#[]⟩):=by
 obtain⟨s,⟨g,t,j,e,p,q,k,l,a,m,_,_⟩,_⟩:=h;obtain rfl:=Option.some.inj (gHold.symm.trans k);obtain rfl:=Option.some.inj (gHoldType.symm.trans l);obtain⟨b,d,f⟩:=Qkj underlying83 underlying54 underlying3 underlying3 Qgr Qbv cellsInt cellsInt rfl rfl rfl rfl rfl rfl m;simp only[Rows.laid_rafter_raftersame_Hold,holdD,textD,DataW.agg.injEq,List.cons.injEq,DataW.lit.injEq,Lit.string.injEq,Lit.int.injEq,true_and,and_true] at f;obtain⟨n,o,r⟩:=f;have c:∀i,W.cell? ⟨3,i,none⟩=j.toList[i]?:=fun i=>by rw[World.var?_cell gHold a i];simp
 rw[d] at c;refine⟨?_,?_,?_⟩
 . rw[c 0,n];rfl
 . rw[c 1,o];rfl
 . rw[c 2,<-Qbf r.symm];rfl
theorem Qtz{W:Vz}{rest:List (String × DataW Unit)}(h:laidMet prog (("rafter/raftersame.Spot",Rows.laid_rafter_raftersame_Spot) :: ("rafter/raftersame.Bar",Rows.laid_rafter_raftersame_Bar) :: ("rafter/raftersame.Hold",Rows.laid_rafter_raftersame_Hold) :: rest) W):Marks3 W:=by
 obtain⟨a,b⟩:=Qtw h;obtain⟨c,b1,b2,d,e,f⟩:=Qtx (Qam h);obtain⟨g,i,j⟩:=Qty (Qam (Qam h));exact⟨a,b,c,b1,b2,d,e,f,g,i,j⟩
namespace rigChecks
end rigChecks
def tabledF(w:Vz):World:=
 put 10 Rows.laid_math_bits_deBruijn32tab (put 11 Rows.laid_math_bits_deBruijn64tab (put 9 Rows.laid_internal_strconv_uint64pow10
  (put 6 Rows.laid_unicode_utf8_acceptRanges (put 5 Rows.laid_unicode_utf8_first (put 1 Rows.laid_rafter_raftersame_Spot (put 2 Rows.laid_rafter_raftersame_Bar (put 3 Rows.laid_rafter_raftersame_Hold w)))))))
end Go.Proofs.YtppkmifkpjkgpaaGreatDoor
namespace Go.Proofs.YtppkmifkpjkgpaaGreatDoor
open Go.RowKit
open Go.Proofs.Tryz
set_option linter.unusedSimpArgs false
set_option linter.unusedVariables false
set_option maxHeartbeats 8000000
set_option maxRecDepth 1000000
abbrev RT:=Nat × Rat × Nat
def ptrV(t:RT):Value:=.pointer (some ⟨t.1,0,none⟩)
def IsPt(u:Value):Prop:=∃p,u=Value.pointer p
theorem Qcj(ts:List RT):∀u,u∈ ts.map ptrV->IsPt u:=fun u a=>by
 obtain⟨t,_,rfl⟩:=List.mem_map.1 a;exact⟨_,rfl⟩
theorem Qr7(ts:List RT):∀u,u∈ ts.map ptrV->u.oneCell'=true:=fun u a=>by
 obtain⟨t,_,rfl⟩:=List.mem_map.1 a;rfl
structure Fp (w w':Vz):Prop where
 size:w.heap.size<=w'.heap.size
 keep:∀b i u,w.cell? ⟨b,i,none⟩=some u->¬IsPt u->w'.heap[b]?=w.heap[b]?
theorem Fp.of_only{w w':Vz}{g:Nat}{t:Vr}{C:Vw}(c:Only g w w')(d:SB w g t C)(hC:∀u,u∈ C.toList->IsPt u):Fp w w':=by
 refine⟨c.size,fun b i u a hk=>c.block b (World.block_lt_of_cell? _ _ a) ?_⟩;rintro rfl;rw[d.cell] at a;exact hk (hC u (mO (by rw[Array.getElem?_toList];exact a)))
theorem Fp.grown{w w':Vz}{B n:Nat}{e:Vr}{v:Value}{xs:Vv}(c:Grow w B e 1 IsPt v n xs)(h:w.grownBy w' v.ownBlock):Fp w w':=by
 refine⟨h.size,fun b i u a hk=>h.block b (World.block_lt_of_cell? _ _ a) (fun e=>?_)⟩;obtain⟨C,hC,d⟩:=c.sb e.symm;rw[hC.cell] at a;exact hk (d u (mO (by rw[Array.getElem?_toList];exact a)))
theorem Fp.cell{w w':Vz}(h:Fp w w'){b i:Nat}{u:Value}(a:w.cell? ⟨b,i,none⟩=some u)(hk:¬IsPt u)(j:Nat):w'.cell? ⟨b,j,none⟩=w.cell? ⟨b,j,none⟩:=World.cell?_of_block (w:=w) (h.keep b i u a hk)
theorem Qr8(x:Bool):¬IsPt (.bool x):=fun ⟨p,e⟩=>by cases e
theorem Qr9(k:IntKind)(n:Int):¬IsPt (.int k n):=fun ⟨p,e⟩=>by cases e
theorem Row.fp{k:IntKind}{w w':Vz}{a:Vx}{cap:Nat}{l:Vy}(h:Row k w a cap l)(c:Fp w w'):Row k w' a cap l:=by
 refine⟨h.fit,?_,fun i g=>?_⟩
 .
  rcases h.shape with d|⟨e,b,rfl,j⟩
  . exact .inl d
  . exact .inr ⟨e,b,rfl,by have:=c.size;omega⟩
 . obtain⟨e,b,d,j,f⟩:=h.cell i g
   exact⟨e,b,d,by have:=c.size;omega,(c.cell f (Qr9 _ _) _).trans f⟩
theorem SB.fp{w w':Vz}{b:Nat}{t:Vr}{C:Vw}{u:Value}{i:Nat}(h:SB w b t C)(a:Fp w w')(c:C[i]?=some u)(d:¬IsPt u):SB w' b t C:=by
 have e:=a.keep b i u (by rw[h.cell];exact c) d;unfold SB at h ⊢;rw[e];exact h
theorem RatVal.fp{w w':Vz}{b:Nat}{q:Rat}(h:RatVal w b q)(c:Fp w w'):RatVal w' b q:=by
 obtain⟨D,d,c1,e,f,c2,g,a,j⟩:=h;exact⟨D,d,c1,e,f,c2,g,⟨a.sb.fp c (i:=0) rfl (Qr8 _),⟨a.num.row.fp c,a.num.num,a.num.short⟩,⟨a.den.row.fp c,a.den.num,a.den.short⟩⟩,j⟩
def RVs(w:Vz)(ts:List RT):Prop:=∀t,t∈ ts->RatVal w t.1 t.2.1/\Fits t.2.1 t.2.2/\0<t.2.2
theorem RVs.below{w w':Vz}{ts:List RT}(h:RVs w ts)(b:Below w.heap.size w w'):RVs w' ts:=fun t a=>⟨(h t a).1.below b,(h t a).2⟩
theorem RVs.fp{w w':Vz}{ts:List RT}(h:RVs w ts)(b:Fp w w'):RVs w' ts:=fun t a=>⟨(h t a).1.fp b,(h t a).2⟩
structure PRow (w:Vz) (a:Vx) (ts:List RT):Prop where
 row:CRow w a (ts.map ptrV)
 vs:RVs w ts
theorem PRow.below{w w':Vz}{a:Vx}{ts:List RT}(h:PRow w a ts)(b:Below w.heap.size w w'):PRow w' a ts:=⟨h.row.below b,h.vs.below b⟩
theorem PRow.at{w:Vz}{a:Vx}{ts:List RT}(h:PRow w a ts){i:Nat}{t:RT}(d:ts[i]?=some t):∃b c,a=some ⟨b,c,none⟩/\b<w.heap.size/\w.cell? ⟨b,c+i,none⟩=some (.pointer (some ⟨t.1,0,none⟩)):=h.row.cell i (ptrV t) (by rw[List.getElem?_map,d];rfl)
theorem PRow.bag{w:Vz}{a:Vx}{ts:List RT}(h:PRow w a ts)(b:∃m,w.cell? ⟨4,0,none⟩=some (.int .i64 m)):RBag w w ts:=⟨Below.refl _ _,b,h.vs⟩
theorem Qkd:(prog.info? 84).map (fun i=>(i.zero,i.size,i.bytes))=some (some (.pointer none),1,8):=by kernel_rfl
structure PGrow (w:Vz) (B:Nat) (v:Value) (ts:List RT):Prop where
 list:Grow w B 84 1 IsPt v ts.length (ts.map ptrV)
 vs:RVs w ts
theorem PGrow.below{w w':Vz}{B:Nat}{v:Value}{ts:List RT}(h:PGrow w B v ts)(a:Below w.heap.size w w'):PGrow w' B v ts:=⟨h.list.below a,h.vs.below a⟩
theorem PGrow.nil(w:Vz)(B:Nat):PGrow w B (.slice none 0 0) []:=⟨Grow.nil _ _ _ _ _,fun t a=>by cases a⟩
theorem PGrow.row{w:Vz}{B:Nat}{v:Value}{ts:List RT}(h:PGrow w B v ts):∃a cap,v=.slice a ts.length cap/\PRow w a ts:=by
 obtain⟨a,cap,e,_,b,_⟩:=h.list.slice;exact⟨a,cap,e,b,h.vs⟩
theorem PGrow.appT{w:Vz}{B nb c m:Nat}{v:Value}{ts us:List RT}{t:Vr}(h:PGrow w B v ts)(a:prog.underlying t=some (.slice 84))(d:RVs w us)(l:us.length=m)(n:∀j u,(us.map ptrV)[j]?=some u->w.cell? ((⟨nb,0,none⟩:Addr).add j)=some u)(o:ts.length+m<=1048576)(hB:B<=w.heap.size)(ty:Vr):
 ∃b w',appR prog t ty v (.slice (some ⟨nb,0,none⟩) m c) w=.ok b w'/\PGrow w' B b (ts++us)/\Below B w w'/\Fp w w'/\w.grownBy w' v.ownBlock/\(b.ownBlock=v.ownBlock∨b.ownBlock=some w.heap.size):=by
 subst l;obtain⟨i,p,q⟩:=Option.map_eq_some_iff.1 Qkd;injection q with r e
 injection e with e s
 obtain⟨b,w',x,y,f,z⟩:=h.list.app (P:=prog) (t:=t) (ty:=ty) a p r e s rfl (by decide) (fun u d=>⟨none,by simpa [Value.cells] using d⟩) ⟨nb,0,none⟩ us.length c (us.map ptrV) (by simp) n (Qr7 us) (Qcj us) o (by decide) hB;have k:=Fp.grown h.list f;refine⟨b,w',x,⟨?_,fun t a=>?_⟩,Qlb f (fun g A=>(h.list.lt A).1) hB,k,f,z⟩
 . rw[List.length_append,List.map_append]
   exact y
 .
  rcases List.mem_append.1 a with a|a
  . exact(h.vs.fp k) t a
  . exact(d.fp k) t a
theorem PGrow.app{w:Vz}{B nb c m:Nat}{v:Value}{ts us:List RT}(h:PGrow w B v ts)(b:RVs w us)(d:us.length=m)(e:∀j u,(us.map ptrV)[j]?=some u->w.cell? ((⟨nb,0,none⟩:Addr).add j)=some u)(f:ts.length+m<=1048576)(hB:B<=w.heap.size)(ty:Vr):
 ∃a w',appR prog 52 ty v (.slice (some ⟨nb,0,none⟩) m c) w=.ok a w'/\PGrow w' B a (ts++us)/\Below B w w'/\Fp w w':=by
 obtain⟨a,w',g,i,k,l,_⟩:=h.appT underlying52 b d e f hB ty;exact⟨a,w',g,i,k,l⟩
end Go.Proofs.YtppkmifkpjkgpaaGreatDoor
