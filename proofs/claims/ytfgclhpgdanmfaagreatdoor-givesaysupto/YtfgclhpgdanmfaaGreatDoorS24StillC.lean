import Derived.Test.YtfgclhpgdanmfaaGreatDoorS23RowsO
namespace Go.Proofs.YtfgclhpgdanmfaaGreatDoor
set_option linter.defProp false
open Go.RowKit
open Go.Proofs.Tryz
set_option linter.unusedSimpArgs false
set_option linter.unusedVariables false
set_option maxHeartbeats 8000000
set_option maxRecDepth 1000000
variable{K N W a c k:Nat}{L M S:Aj}{D:AR}{R:AI}
theorem KW:∀(W:Nat)(r s x:cW),dot W (fun i=>r i+s i) x=dot W r x+dot W s x
 |0,_,_,_=>by simp only[dot];grind
 |W+1,r,s,x=>by simp only[dot,KW W r s x];grind
theorem In:∀(W:Nat)(r x:cW)(q:Rat),dot W (fun i=>r i*q) x=dot W r x*q
 |0,_,_,_=>by simp[dot]
 |W+1,r,x,q=>by simp only[dot,In W r x q];grind
def Span(k:Nat)(R:AI)(v:cW):Prop:=∃l:cW,∀j,v j=dot k l (fun i=>R i j)
def MI(W N:Nat)(M:Aj)(c:Nat)(L S:Aj)(hs:Vy):Prop:=
 hs.length<=c/\(hs.length+L.length<=N∨hs.length<=N/\W<=N)/\(∀v,v∈ L->∀i,W<=i->v i=0)/\
 ∃R:AI,(∀i,i<hs.length->R i∈ M)/\
  (∀m:cW,(∀h,h∈ hs->dot hs.length m (fun i=>R i h)=0)->∀i,i<hs.length->m i=0)/\
  (∀v,v∈ L->∃r,r∈ M/\∃l:cW,(∀j,v j=r j - dot hs.length l (fun i=>R i j))/\∀h,h∈ hs->v h=0)/\∀s,s∈ S->Span hs.length R s
def MI.start(W N:Nat)(M:Aj)(b:∀v,v∈ M->∀i,W<=i->v i=0)(f:M.length<=N∨W<=N):MI W N M 0 M [] []:=
 ⟨aV _,by simp only[iU];omega,b,fun _ _=>0,fun i a=>absurd a sS,fun m _ i a=>absurd a sS,fun v c=>⟨v,c,fun _=>0,fun j=>by simp[dot,oD,qO],fun h d=>by cases d⟩,fun s e=>by cases e⟩
def MI.skip{a:Vy}(h:MI W N M c L S a):MI W N M (c+1) L S a:=by obtain⟨f,b,d,e⟩:=h;exact⟨oO,b,d,e⟩
def MI.step{j:Nat}{a:Vy}{s:cW}(h:MI W N M c L S a)(F:L[j]?=some s)(y:s c≠0):
 MI W N M (c+1) ((L.eraseIdx j).map (kR c s)) (S++ [s]) (a++ [c]):=by
 obtain⟨h1,h2,z,R,P,Q,G,T⟩:=h;have n:=mO F;have A:=(gZ F).1;have B:((L.eraseIdx j).map (kR c s)).length=L.length - 1:=by rw[bF,EE A]
 obtain⟨r,U,l,hl,H⟩:=G s n;have b:(a++ [c]).length=a.length+1:=sS;have V:c<W:=bC fun hn=>y (z s n c oO)
 have d:∀(m:cW)(i:Nat),dot (a.length+1) m (fun t=>(if t=a.length then r else R t) i)=dot a.length m (fun t=>R t i)+m a.length*r i:=fun m i=>by simp only[dot];rw[rG a.length m _ m (fun t=>R t i) (fun t p=>by rw[aH oO])];simp
 refine⟨by rw[b];omega,by rw[b,B];omega,?_,fun t=>if t=a.length then r else R t,?_,?_,?_,?_⟩
 . intro v f i q;obtain⟨u,C,rfl⟩:=bZ.1 f;have o:=lO C;simp only[kR];rw[z u o i q,z s n i q];grind
 .
  intro i q;rw[b]at q;by_cases x:i=a.length
  . show (if i=a.length then r else R i)∈ M
    rw[aN x];exact U
  . show (if i=a.length then r else R i)∈ M
    rw[aH x];exact P i oO
 .
  intro m I;rw[b]at I ⊢;have w:∀h,h∈ a++ [c]->dot a.length m (fun t=>R t h)+m a.length*r h=0:=fun h e=>by rw[<-d];exact I h e
  have g:∀i,r i=s i+dot a.length l (fun t=>R t i):=fun i=>by rw[hl i];grind
  have k:∀h,dot a.length (fun t=>m t+l t*m a.length) (fun t=>R t h)=dot a.length m (fun t=>R t h)+dot a.length l (fun t=>R t h)*m a.length:=fun h=>by rw[KW,In]
  have hk:=Q (fun t=>m t+l t*m a.length) (fun h e=>by
   rw[k];have X:=w h (by simp[e]);rw[g h,H h e]at X
   grind)
  have Y:=w c sS;rw[g c]at Y;have Z:dot a.length (fun t=>m t+l t*m a.length) (fun t=>R t c)=0:=yY _ _ _ (fun t p=>by rw[hk t p];grind);rw[k]at Z;have e4:m a.length*s c=0:=by grind
  have J:m a.length=0:=by
   rcases uo.1 e4 with h|h
   . exact h
   . exact absurd h y
  intro i q;by_cases x:i=a.length
  . rw[x];exact J
  . have:=hk i oO;simp only[J]at this;grind
 .
  intro v f;obtain⟨u,C,rfl⟩:=bZ.1 f;have o:=lO C;obtain⟨r',D,K,E,g⟩:=G u o;refine⟨r',D,fun t=>if t=a.length then u c / s c else K t - l t*(u c / s c),fun i=>?_,fun h e=>?_⟩
  . rw[b,d];rw[rG a.length _ _ (fun t=>K t - l t*(u c / s c)) (fun t=>R t i) (fun t p=>by rw[aH oO]),Dw];simp only[kR,tN];rw[E i,hl i];grind
  . simp only[kR];rcases bD.1 e with e|e
    . rw[g h e,H h e];grind
    . simp only[bE]at e;subst e;rw[lE,Rat.mul_comm (u h),<-wR,xn _ y];grind
 .
  intro v f;rw[b];rcases bD.1 f with f|f
  . obtain⟨O,e0⟩:=T v f;refine⟨fun t=>if t=a.length then 0 else O t,fun i=>?_⟩;rw[d,rG a.length _ _ O (fun t=>R t i) (fun t p=>by rw[aH oO]),e0 i];simp only[tN];grind
  . simp only[bE]at f;subst f;refine⟨fun t=>if t=a.length then 1 else l t*(-1),fun i=>?_⟩;rw[d,rG a.length _ _ (fun t=>l t*(-1)) (fun t=>R t i) (fun t p=>by rw[aH oO]),In,hl i];simp only[tN];grind
theorem KV:∀(n:Nat)(u x:Nat->Int),((Sg.isum n (fun j=>u j*x j):Int):Rat)=dot n (fun j=>(x j:Rat)) (fun j=>(u j:Rat))
 |0,_,_=>by simp[Sg.isum,dot]
 |n+1,u,x=>by simp only[Sg.isum,dot];rw[Rat.intCast_add,Cw,KV n u x];grind
theorem KU:∀(W:Nat)(r x:cW)(q:Rat),dot W r (fun i=>x i*q)=dot W r x*q
 |0,_,_,_=>by simp[dot]
 |W+1,r,x,q=>by simp only[dot,KU W r x q];grind
def KO{v:Rat}{Z y:Int}{d:Nat}(c:y≠0)(f:0<d)(e:v*((y:Rat)*(d:Rat))=(Z:Rat))(q:Z.natAbs<2 ^ K)(g:y.natAbs*d<2 ^ K)(i:0<K):Fits v K:=by
 have j:(y:Rat)≠0:=by intro h;exact c (Cz.1 (by rw[h];rfl))
 have k:(d:Rat)≠0:=by intro h;have:d=0:=qz.1 (by rw[h];rfl);omega
 have l:∃a:Int,a.natAbs=Z.natAbs/\v*((y.natAbs*d:Nat):Rat)=(a:Rat):=by
  rw[Rat.natCast_mul];rcases Int.natAbs_eq y with b|b
  . refine⟨Z,rfl,?_⟩;rw[<-e];have:(y:Rat)=((y.natAbs:Nat):Rat):=by rw[<-qK,<-b]
    rw[this]
  . refine⟨-Z,u6 Z,?_⟩;have:(y:Rat)= -((y.natAbs:Nat):Rat):=by rw[<-qK,<-Cv,<-b]
    rw[Cv,<-e,this];grind
 obtain⟨a,r,m⟩:=l;have n:0<y.natAbs*d:=gL oO f;have o:((y.natAbs*d:Nat):Rat)≠0:=by intro h;have:y.natAbs*d=0:=qz.1 (by rw[h];rfl);omega
 have p:v=mkRat a (y.natAbs*d):=by rw[Rat.mkRat_eq_div,<-m,lE,wR,xn _ o,Qy]
 rw[p];exact L9 oO g i
def MI.fit{W0:Nat}(U:0<a)(E:∀j,0<D j/\D j<=a)(hM:∀r,r∈ M->∀j,∃z:Int,r j*(D j:Rat)=(z:Rat)/\z.natAbs<=a)(hK:(W+1)*(a*(2*((W+1)*a)) ^ W)<2 ^ K)(F:0<K){o:Vy}(h:MI W0 W M c L S o):∀v,v∈ L->∀j,Fits (v j) K:=by
 obtain⟨_,hW,_,R,V,G,hL,_⟩:=h;intro v hv j;obtain⟨r,hr,l,hl,H⟩:=hL v hv;obtain⟨k,hk⟩:=nm o.length;rw[hk]at hW V G hl;replace hW:k<=W:=oO;have I:∀t,t<k+1->(if t=k then r else R t)∈ M:=fun t b=>by
  by_cases B:t=k
  . rw[aN B];exact hr
  . rw[aH B];exact V t oO
 have d:∀t,t<k+1->∀i,(if t=k then r else R t) i*(D i:Rat)=((((if t=k then r else R t) i*(D i:Rat)).num:Int):Rat)/\(((if t=k then r else R t) i*(D i:Rat)).num).natAbs<=a:=fun t b i=>by obtain⟨z,e,H⟩:=hM _ (I t b) i;rw[e,Rat.num_intCast];exact⟨rfl,H⟩
 obtain⟨y,⟨X,aa,p⟩,hy,u⟩:=Sg.siegel k a U (fun t i=>((if i=k then r else R i) (o.getD t 0)*(D (o.getD t 0):Rat)).num) (fun t i b hi=>by
  have:=(d i hi (o.getD t 0)).2
  omega)
 have w:∀i,dot (k+1) (fun t=>(y t:Rat)) (fun t=>(if t=k then r else R t) i)=dot k (fun t=>(y t:Rat)) (fun t=>R t i)+(y k:Rat)*r i:=fun i=>by simp only[dot];rw[rG k _ _ (fun t=>(y t:Rat)) (fun t=>R t i) (fun t b=>by rw[aH oO])];simp
 have m:∀i,((Sg.isum (k+1) (fun t=>((if t=k then r else R t) i*(D i:Rat)).num*y t):Int):Rat)=(dot k (fun t=>(y t:Rat)) (fun t=>R t i)+(y k:Rat)*r i)*(D i:Rat):=fun i=>by rw[KV,<-w,<-KU];exact rG _ _ _ _ _ (fun t b=>by rw[<-(d t b i).1])
 have J:∀i,(D i:Rat)≠0:=fun i h=>by have q:D i=0:=qz.1 (by rw[h];rfl);have:=(E i).1;omega
 have f:∀h,h∈ o->dot k (fun t=>(y t:Rat)) (fun t=>R t h)+(y k:Rat)*r h=0:=fun h s=>by
  obtain⟨t,b,e⟩:=u5.1 s;have q:=hy t oO;have N:o.getD t 0=h:=by rw[aC,gE b,e];rfl
  simp only[N]at q;have C:=m h;rw[q]at C;rcases uo.1 C.symm with O|O
  . exact O
  . exact absurd O (J h)
 have P:y k≠0:=by
  intro Z;have x:=G (fun t=>(y t:Rat)) (fun h s=>by
   have:=f h s;rw[Z,show ((0:Int):Rat)=0 from rfl]at this
   grind)
  by_cases B:X=k
  . rw[B]at p;exact p Z
  . have:=x X oO
    exact p (Cz.1 (by rw[this];rfl))
 have n:∀i,dot k (fun t=>(y t:Rat)+l t*(y k:Rat)) (fun t=>R t i)=dot k (fun t=>(y t:Rat)) (fun t=>R t i)+dot k l (fun t=>R t i)*(y k:Rat):=fun i=>by rw[KW,In]
 have A:=G (fun t=>(y t:Rat)+l t*(y k:Rat)) (fun h s=>by
  rw[n];have e1:=f h s;have N:=hl h;rw[H h s]at N
  grind)
 have Q:dot k (fun t=>(y t:Rat)+l t*(y k:Rat)) (fun t=>R t j)=0:=yY _ _ _ (fun t b=>by rw[A t b];grind);rw[n]at Q;have T:v j*((y k:Rat)*(D j:Rat))=((Sg.isum (k+1) (fun t=>((if t=k then r else R t) j*(D j:Rat)).num*y t):Int):Rat):=by rw[m,hl j];grind
 have g:(2*((k+1)*a)) ^ k<=(2*((W+1)*a)) ^ W:=
  aE (iJ (cR _ (cD _ oO)) k) (cP (gL oO (gL oO U)) hW)
 obtain⟨Y,hY⟩:=nm ((2*((W+1)*a)) ^ W);rw[hY]at g hK;have hb:=Sg.isum_le (k+1) (fun t=>((if t=k then r else R t) j*(D j:Rat)).num*y t) (-((a*Y:Nat):Int)) ((a*Y:Nat):Int) (fun t b=>by
  have q:=(d t b j).2;have C:(((if t=k then r else R t) j*(D j:Rat)).num*y t).natAbs<=a*Y:=by rw[fE];exact fO q (aE (u t) g)
  omega)
 have ab:(k+1)*(a*Y)<=(W+1)*(a*Y):=cD _ oO;refine KO P (E j).1 T ?_ ?_ F
 . rw[QC,<-gi]at hb
   omega
 . have q:=fO (aE (u k) g) (E j).2;have C:a*Y<=(W+1)*(a*Y):=Nat.le_mul_of_pos_left _ oO;rw[bV Y a]at q;omega
def Span.less{v u:cW}(h:Span k R v)(a:Span k R u)(q:Rat):Span k R (fun i=>v i - u i*q):=by
 obtain⟨l,e⟩:=h;obtain⟨b,c⟩:=a;refine⟨fun t=>l t - b t*q,fun j=>?_⟩
 show v j - u j*q=_
 rw[Dw,e j,c j];grind
def Span.over{v:cW}(h:Span k R v)(q:Rat):Span k R (fun i=>v i / q):=by
 obtain⟨l,e⟩:=h;refine⟨fun t=>l t / q,fun j=>?_⟩
 show v j / q=_
 rw[GJ,e j]
theorem KN{k:Nat}{R:AI}:∀(T:Aj)(a:Vy)(r:cW),Span k R r->(∀t,t∈ T->Span k R t)->Span k R (red r T a)
 |t :: T,h :: a,r,hr,hT=>by simp only[red];exact KN T a _ (hr.less (hT t sS) _) (fun t b=>hT t (by simp[b]))
 | [],_,r,hr,hT=>by unfold red;exact hr
 |_ :: _,[],r,hr,hT=>by unfold red;exact hr
theorem N4{k:Nat}{R:AI}:∀(S:Aj)(b:Vy),(∀s,s∈ S->Span k R s)->∀v,v∈ cln S b->Span k R v
 |r :: S,h :: b,hS,v,a=>by
  have c:=N4 S b (fun s b=>hS s (by simp[b]));simp only[cln,aY]at a;rcases a with rfl|a
  . exact KN _ _ _ ((hS r sS).over _) c
  . exact c v a
 | [],_,_,v,a=>by unfold cln at a;cases a
 |_ :: _,[],_,v,a=>by unfold cln at a;cases a
def KL{H:Vy}(ha:0<a)(N:∀j,0<D j/\D j<=a)(hM:∀r,r∈ M->∀j,∃z:Int,r j*(D j:Rat)=(z:Rat)/\z.natAbs<=a)(hK:(W+1)*(a*(2*((W+1)*a)) ^ W)*a<2 ^ K)(O:0<K)(P:H.length=k)(hW:k<=W)(hR:∀i,i<k->R i∈ M)(hI:∀m:cW,(∀h,h∈ H->dot k m (fun i=>R i h)=0)->∀i,i<k->m i=0){v:cW}(hv:Span k R v){h:Nat}(hh:h∈ H)(A:v h=1)(h0:∀x,x∈ H->x≠h->v x=0)(j:Nat):Fits (v j) K:=by
 obtain⟨B,C,hH⟩:=List.append_of_mem hh;obtain⟨n,hn⟩:=nm ((B++C).length);have Q:k=n+1:=by rw[<-P,hH,<-hn];simp;omega
 subst Q;obtain⟨l,hl⟩:=hv;have c:∀t,t<n+1->∀i,R t i*(D i:Rat)=(((R t i*(D i:Rat)).num:Int):Rat)/\((R t i*(D i:Rat)).num).natAbs<=a:=fun t p i=>by obtain⟨z,e,hz⟩:=hM _ (hR t p) i;rw[e,Rat.num_intCast];exact⟨rfl,hz⟩
 obtain⟨y,⟨j0,S,T⟩,hy,U⟩:=Sg.siegel n a ha (fun t i=>(R i ((B++C).getD t 0)*(D ((B++C).getD t 0):Rat)).num) (fun t i p hi=>by
  have:=(c i hi ((B++C).getD t 0)).2
  omega)
 have f:∀i,((Sg.isum (n+1) (fun t=>(R t i*(D i:Rat)).num*y t):Int):Rat)=dot (n+1) (fun t=>(y t:Rat)) (fun t=>R t i)*(D i:Rat):=fun i=>by rw[KV,<-KU];exact rG _ _ _ _ _ (fun t p=>by rw[<-(c t p i).1])
 have F:∀i,(D i:Rat)≠0:=fun i h=>by have A:D i=0:=qz.1 (by rw[h];rfl);have:=(N i).1;omega
 have o:∀x,x∈ B++C->dot (n+1) (fun t=>(y t:Rat)) (fun t=>R t x)=0:=fun x b=>by
  obtain⟨t,p,e⟩:=u5.1 b;have A:=hy t oO;have e2:(B++C).getD t 0=x:=by rw[aC,gE p,e];rfl
  simp only[e2]at A;have V:=f x;rw[A]at V;rcases uo.1 V.symm with q|q
  . exact q
  . exact absurd q (F x)
 have s:∀x,x∈ H->x=h∨x∈ B++C:=fun x b=>by
  rw[hH]at b;simp only[bD,aY]at b ⊢;rcases b with b|b|b
  . exact .inr (.inl b)
  . exact .inl b
  . exact .inr (.inr b)
 obtain⟨g,G⟩:∃g:cW,∀i,g i=dot (n+1) (fun t=>(y t:Rat)) (fun t=>R t i):=⟨fun i=>dot (n+1) (fun t=>(y t:Rat)) (fun t=>R t i),fun _=>rfl⟩;have X:g h≠0:=by
  intro e;have:=hI (fun t=>(y t:Rat)) (fun x b=>by
   rcases s x b with rfl|b
   . rw[<-G];exact e
   . exact o x b) j0 S
  exact T (Cz.1 (by rw[this];rfl))
 have I:=hI (fun t=>(y t:Rat) - l t*g h) (fun x b=>by
  rw[Dw,<-G,<-hl];by_cases he:x=h
  . rw[he,A];grind
  . rcases s x b with E|E
    . exact absurd E he
    . rw[G,o x E,h0 x b he];grind)
 have aa:g j=v j*g h:=by have q:dot (n+1) (fun t=>(y t:Rat) - l t*g h) (fun t=>R t j)=0:=yY _ _ _ (fun t p=>by rw[I t p];grind);rw[Dw,<-G,<-hl]at q;grind
 have u:(2*((n+1)*a)) ^ n<=(2*((W+1)*a)) ^ W:=
  aE (iJ (cR _ (cD _ oO)) n) (cP (gL oO (gL oO ha)) oO)
 obtain⟨Y,hY⟩:=nm ((2*((W+1)*a)) ^ W);rw[hY]at u hK;have hb:∀i,(Sg.isum (n+1) (fun t=>(R t i*(D i:Rat)).num*y t)).natAbs<=(W+1)*(a*Y):=fun i=>by
  have hb:=Sg.isum_le (n+1) (fun t=>(R t i*(D i:Rat)).num*y t) (-((a*Y:Nat):Int)) ((a*Y:Nat):Int) (fun t p=>by
   have A:=(c t p i).2;have V:((R t i*(D i:Rat)).num*y t).natAbs<=a*Y:=by rw[fE];exact fO A (aE (U t) u)
   omega)
  have ae:(n+1)*(a*Y)<=(W+1)*(a*Y):=cD _ oO;rw[QC,<-gi]at hb;omega
 have ej:=f j;have J:=f h;rw[<-G]at ej J;have bj:=hb j;have bh:=hb h;obtain⟨Gj,ab⟩:∃z,Sg.isum (n+1) (fun t=>(R t j*(D j:Rat)).num*y t)=z:=⟨_,rfl⟩;obtain⟨Gh,ad⟩:∃z,Sg.isum (n+1) (fun t=>(R t h*(D h:Rat)).num*y t)=z:=⟨_,rfl⟩;rw[ab]at ej bj;rw[ad]at J bh;have L:Gh≠0:=by
  intro e;rw[e]at J;rcases uo.1 J.symm with q|q
  . exact X q
  . exact F h q
 have w:∀x d:Nat,x<=(W+1)*(a*Y)->d<=a->x*d<2 ^ K:=fun x d b hd=>bQ (fO b hd) hK
 refine KO (Z:=Gj*(D h:Int)) L (N j).1 ?_ ?_ ?_ O
 . rw[Cw,qK,ej,J,aa]
   grind
 . rw[fE,cY]
   exact w _ _ bj (N h).2
 . exact w _ _ bh (N j).2
theorem N3{K B j:Nat}(hB:0<B):∀{T:Aj} {a:Vy} {J lo b:Nat} {r:cW},tB lo b T a->(∀t,t∈ T->∀i,Fits (t i) B)->(∀i,Fits (r i) J)->(∀h,h∈ a->Fits (r h) j)->J+T.length*(B+j+1)<=K->jS K r T a/\∀i,Fits (red r T a i) (J+T.length*(B+j+1))
 | [],[],J,lo,b,r,hc,hT,hr,hh,hK=>by simp only[iU,qP,dV]at hK ⊢;unfold jS red;exact⟨fun i=>(hr i).mono hK,hr⟩
 |t :: T,h :: a,J,lo,b,r,⟨c1,c2,c3,c4,c5⟩,hT,hr,hh,hK=>by
  have e:(t :: T).length*(B+j+1)=T.length*(B+j+1)+(B+j+1):=by rw[dJ,gV]
  rw[e]at hK ⊢;have f:=fun i=>(hr i).sub ((hT t sS i).mul (hh h sS) hB)
  have c:=N3 (K:=K) (j:=j) hB (J:=J+(B+j)+1) (r:=fun i=>r i - t i*r h) c5 (fun t g=>hT t (by simp[g])) f (fun x d=>by
   have:r x - t x*r h=r x:=by rw[c4 x d];grind
   rw[this]
   exact hh x (by simp[d])) oO
  refine⟨⟨fun i=>(hr i).mono oO,c.1⟩,fun i=>?_⟩;have:=c.2 i;rw[show J+(B+j)+1+T.length*(B+j+1)=J+(T.length*(B+j+1)+(B+j+1)) by omega]at this;exact this
 | [],_ :: _,_,_,_,_,hc,_,_,_,_=>absurd hc (by simp[tB])
 |_ :: _,[],_,_,_,_,hc,_,_,_,_=>absurd hc (by simp[tB])
theorem N2{K a k n:Nat}{R:AI}{H:Vy}(y:0<a)(B:a+n*(a+a+1)<=K)(d:∀(v:cW)(h:Nat),Span k R v->h∈ H->v h=1->(∀x,x∈ H->x≠h->v x=0)->∀j,Fits (v j) a):
 ∀{S:Aj} {b:Vy} {lo m:Nat} {P:Vy},H=P++b->(∀p,p∈ P->p<lo)->ot lo m S b->S.length<=n->(∀s,s∈ S->Span k R s)->(∀(t:Nat)(s:cW)(h:Nat),S[t]?=some s->b[t]?=some h->∀i,Fits (s i / s h) a)->
  jT K S b/\∀v,v∈ cln S b->∀i,Fits (v i) a
 | [],[],lo,m,P,hH,hP,he,hn,hS,hf=>by unfold jT cln;exact⟨trivial,fun v f=>by cases f⟩
 |r :: S,h :: b,lo,m,P,hH,hP,he,hn,hS,hf=>by
  have o:=he;obtain⟨M,N,O,q⟩:=o;have C:S.length+1<=n:=sU hn;have u:=N2 y B d (P:=P++ [h]) (by rw[hH];simp) (fun p g=>by
   rcases bD.1 g with g|g
   . have:=hP p g;omega
   . simp only[bE]at g;omega) q oO (fun s b=>hS s (by simp[b])) (fun t s x e D=>hf (t+1) s x (sU e) (sU D))
  have E:=(Ir 0 q).1;have l:=(Ir 0 he).1;have z:=hf 0 r h rfl rfl;have A:=Iq S b q.len;have hb:(cln S b).length*(a+a+1)<=n*(a+a+1):=cD _ oO;have F:=N3 (K:=K) (j:=a) y (J:=a) (r:=fun i=>r i / r h) E u.2 z (fun x _=>z x) oO;refine⟨?_,fun v f=>?_⟩
  . unfold jT
    exact⟨u.1,F.1⟩
  .
   simp only[cln]at l f;obtain⟨Q,G,I,L,T⟩:=l;rcases aY.1 f with f|f
   .
    subst f;refine d _ h (KN _ _ _ ((hS r sS).over _) (N4 S b (fun s b=>hS s (by simp[b])))) (by rw[hH];simp) G (fun x c w=>?_);rw[hH]at c;rcases bD.1 c with c|c
    . exact I x (oB (hP x c))
    . rcases aY.1 c with c|c
      . exact absurd c w
      . exact L x c
   . exact u.2 v f
 | [],_ :: _,_,_,_,_,_,he,_,_,_=>absurd he (by simp[ot])
 |_ :: _,[],_,_,_,_,_,he,_,_,_=>absurd he (by simp[ot])
def MJ(W N K2:Nat)(M:Aj)(c:Nat)(L S:Aj)(hs:Vy):Prop:=
 tf W M c L S hs/\MI W N M c L S hs/\∀(t:Nat)(s:cW)(h:Nat),S[t]?=some s->hs[t]?=some h->∀i,Fits (s i / s h) K2
def MJ.start(W N a:Nat)(M:Aj)(b:∀v,v∈ M->∀i,W<=i->v i=0)(c:M.length<=N∨W<=N):MJ W N a M 0 M [] []:=
 ⟨tf.start W M,MI.start W N M b c,fun t s h e=>by simp at e⟩
def MJ.A7{w:Nat}(p:0<a)(q:∀j,0<D j/\D j<=a)(v:∀r,r∈ M->∀j,∃z:Int,r j*(D j:Rat)=(z:Rat)/\z.natAbs<=a)(y:(W+1)*(a*(2*((W+1)*a)) ^ W)<2 ^ K)(l:0<K)(m:(W+1)*(a*(2*((W+1)*a)) ^ W)*a<2 ^ k)(A:0<k):pF K (MJ w W k M) where
 fit:=fun h=>MI.fit p q v y l h.2.1
 skip:=fun h b=>⟨h.1.skip b,h.2.1.skip,h.2.2⟩
 step:=fun {c j L S hs s} h g b=>by
  refine⟨h.1.step g b,h.2.1.step g b,fun t u x e d i=>?_⟩;have hl:=h.1.1.len;by_cases B:t<S.length
  . rw[aR B]at e;rw[aR oO]at d;exact h.2.2 t u x e d i
  .
   have n:t=S.length:=by have:=(gZ e).1;simp at this;omega
   subst n;rw[aX oO]at e;rw[aX oO]at d;simp at e;rw[hl]at d;simp at d;subst e d;obtain⟨_,_,_,_,_,_,C,_⟩:=h.2.1;obtain⟨_,_,_,_,E⟩:=C s (mO g);obtain⟨_,hW,_,R,F,G,_,I⟩:=h.2.1.step g b;refine KL (H:=hs++ [c]) p q v m A rfl oO F G ((I s sS).over (s c)) (h:=c) sS ?_ (fun x f o=>?_) i
   . rw[lE,xn _ b]
   .
    rcases bD.1 f with f|f
    . show s x / s c=0
      rw[E x f,lE];grind
    . simp only[bE]at f
      exact absurd f o
def MJ.Ge{o b:Nat}(q:0<a)(s:∀j,0<D j/\D j<=a)(t:∀r,r∈ M->∀j,∃z:Int,r j*(D j:Rat)=(z:Rat)/\z.natAbs<=a)(e:(W+1)*(a*(2*((W+1)*a)) ^ W)*a<2 ^ b)(l:0<b)(u:b+W*(b+b+1)<=K){d:Vy}(h:MJ o W b M c L S d):jT K S d/\∀v,v∈ cln S d->∀i,Fits (v i) b:=by obtain⟨m,⟨_,hW,_,R,w,y,_,A⟩,B⟩:=h;exact N2 (H:=d) (R:=R) (k:=d.length) (n:=W) l u (fun v x C E f g j=>KL q s t e l rfl oO w y C E f g j) (P:=[]) rfl (fun p F=>by cases F) m.1 (by rw[m.1.len];omega) A B
def Rw(B W K:Nat)(S:AA)(b:Vy)(sv hv:Ac)(wd:Int)(w:Vz)(hr:Grow w B 90 1 jy sv S.length (S.map MR.val))(hh:Grow w B 3 1 zC hv b.length (lU b))(a7:wB w W K S)(ag:S.length=b.length)(a8:∀h,h∈ b->h<W)(ah:jT K (S.map MR.q) b)(ct:S.length<=1000)(hW:W<=1000)(a9:0<K)(hK:4*K+1<68719476000):
 Calls prog 145 #[.agg #[.int .i64 wd,sv,hv]] w fun e w'=>e=.returned (.tuple #[])/\∃S':AA,S'.length=S.length/\S'.map MR.q=cln (S.map MR.q) b/\CW w w' B W K S' b (.int .i64 wd) sv hv:=by
 obtain⟨a,cap,rfl,_,_,ai⟩:=hr.slice;obtain⟨a2,D,rfl,_,_,_⟩:=hh.slice;obtain⟨HR,HH,HO,HL,ba,HF,HP⟩:=If hr hh a7 ag a8 ah ai;clear hr hh a7 ag a8 ah ai;go_enter func145,ntmps145;obtain⟨V,hV⟩:=nm (w.alloc (.cells #[.int .i64 wd,.slice a S.length cap,.slice a2 b.length D] 183));have n:Bl w V:=by rw[<-hV];exact(ac _ _).alloc lZ _
 have bv:O (CW w V B W K S b (.int .i64 wd) (.slice a S.length cap) (.slice a2 b.length D)):=Hi ⟨by rw[<-hV];exact cK w _ _,HR.o.below n,HH.o.below n,HO.o.fr (vC n),fun k hk _=>n.block k hk,n.os,n.tape,n.output,n.size⟩;have HV:=Hi hV;clear hV n;go_wp2_with fail;rw[HV.o];go_loopw [2] (fun i wr=>∃(k:Nat)(s:AA),k<=S.length/\i=.int .i64 ((k:Int) - 1)/\s.length=S.length/\(∀p,p<k->s[p]?=S[p]?)/\(s.drop k).map MR.q=cln ((S.map MR.q).drop k) (b.drop k)/\CW w wr B W K s b (.int .i64 wd) (.slice a S.length cap) (.slice a2 b.length D)) (fun i _=>(intOf i+1).toNat)
 case atStart=> refine⟨S.length,S,aV _,by go_num,rfl,fun _ _=>rfl,?_,bv.o⟩;rw[dG lZ,dG sS];rfl
 case round=>
  obtain⟨k,s,hk,rfl,bb,aj,bc,hC⟩:=hrel;obtain⟨d,ak,bd,E⟩:=Ic hC aj bc bb;clear hC aj bc bb;by_cases h0:k=0
  . subst h0;go_wp2;go_end0;exact⟨rfl,s,E.o,by have:=bd.o;simpa using this,d.o⟩
  .
   obtain⟨j,rfl⟩:∃j,k=j+1:=⟨k - 1,oO⟩;have ej:((j+1:Nat):Int) - 1=(j:Int):=oO;rw[ej];clear ej h0;obtain⟨g,rfl,bw⟩:=HP.o oO;clear bw;obtain⟨r,hr⟩:∃r,S[j]?=some r:=⟨S[j]' oO,gE oO⟩;obtain⟨h,hh⟩:∃h,b[j]?=some h:=⟨b[j]'(oB HL.o),gE (oB HL.o)⟩;have cu:=ba.o h (mO hh);have Y:s[j]?=some r:=by rw[ak.o j oO];exact hr
   obtain⟨be,G⟩:=Rx HL.o hr hh bd.o HF.o;obtain⟨bx,bf⟩:=Ia be G;have l:=d.o.ok r (mO Y);have A:=l.len;obtain⟨e,he⟩:∃e,r.ts[h]?=some e:=⟨r.ts[h]' oO,gE oO⟩;obtain⟨rb,ro,Z,bz,d0,d1,d2⟩:=l.row.at he;obtain⟨hv,bg,b3⟩:=l.row.get he;have cv:=l.sz e (mO he);obtain⟨hb,ho,rfl,b4,c2⟩:=d.o.heads.Ba.cell j (.int .i64 (h:Nat)) (by simp[lU,hh]);have c1:wr.cell? ⟨g,j,none⟩=some (.slice r.a r.ts.length r.cap):=d.o.rows.cell (by rw[aP,Y];rfl);rw[Z,A]at c1;obtain⟨-,x1,x2,-⟩:=zc d.o.box;have q1:((j:Int)<(S.length:Int)):=oO;have q2:((j:Int)<(b.length:Int)):=oB HL.o;have q3:((h:Int)<(W:Int)):=oO;obtain⟨bh,cw,HE,b5,b6⟩:=Id l Z (nQ he) hv bg;have ar:=Hi (fun u (hu:Bl wr u)=>Sb r.a r.cap (2*K) e.k r.ts e.x e.y e.z e.q u (bh.o.row.below hu) oO (b5.o.below hu) b6.o b3 (fun t ht=>by have:=bh.o.sz t ht;omega) oO);rw[A,Z]at ar;have b7:=Hi Y;clear hr hh Y be G l he Z hv bg;go_wp2_with fail;go_region_held3 (fun v=>v.cell? ⟨w.heap.size,1,none⟩=some (.slice (some ⟨g,0,none⟩) S.length cap)/\v.cell? ⟨w.heap.size,2,none⟩=some (.slice (some ⟨hb,ho,none⟩) b.length D)/\v.cell? ⟨g,j,none⟩=some (.slice (some ⟨rb,ro,none⟩) W r.cap)/\v.cell? ⟨hb,ho+j,none⟩=some (.int .i64 h)/\v.cell? ⟨rb,ro+h*3,none⟩=some e.x/\v.cell? ⟨rb,ro+h*3+1,none⟩=some e.y/\v.cell? ⟨rb,ro+h*3+2,none⟩=some e.z) ((first|(simp [*];done)|go_keep)) (first
    |(
     go_at_call 192;apply cM;apply ar.o;(focus(repeat(first|exact ac _ _|apply CK|apply CJ)));rintro e5 w5 ⟨⟨g5,us,rfl,b8,au,M⟩,av⟩;(first
       |have J:O (Bl wr w5):=Hi av
       |have J:O (Bl wr w5):=Hi (bR.drew.trans av))
     obtain⟨aa,ab⟩:=Ia au M;obtain⟨y1,y2⟩:=Ja J.o d.o.box.lt x1 x2;have y3:=(J.o.cell (p:=⟨g,j,none⟩) (d.o.rows.lt (g:=g) rfl).2).trans c1;have y4:=ce J.o b4 c2;obtain⟨y5,y6,y7⟩:=Jb J.o bz d0 d1 d2;clear au M av b8
     skip)
    |fail)
   clear x1 x2 c1 c2 d0 d1 d2 y1 y2 y3 y4 y5 y6 y7;have b9:=Hi (d.o.below J.o);obtain⟨r0,al,N,am⟩:=vw.yF (v:=fun i=>r.q i / r.q h) (K:=K) aa.o A (by rw[A];exact ab.o) a9 (fun i hi=>by rw[HE.o]) (fun i hi=>by
    show r.q i / r.q h=0
    rw[ob oO]
    exact So _) (fun i _=>bf.o.here i)
   obtain⟨bi,an,bj⟩:=Ib N am al;clear N am al aa ab ar d;have P:Value.slice (some ⟨g5,0,none⟩) W W=.slice r0.a W r0.cap:=by have:=bj.o;unfold MR.val at this;rw[bi.o.len]at this;exact this.symm
   rw[P];clear P;go_wp2_with fail;go_loopw [3,4] (fun rv i wq=>∃(m:Nat)(c:MR),j+1<=m/\m<=S.length/\i=.int .i64 m/\rv=.slice c.a W c.cap/\vw wq W K c/\CW w wq B W K s b (.int .i64 wd) (.slice (some ⟨g,0,none⟩) S.length cap) (.slice (some ⟨hb,ho,none⟩) b.length D)/\red c.q ((s.drop m).map MR.q) (b.drop m)=red (fun i=>r.q i / r.q h) ((s.drop (j+1)).map MR.q) (b.drop (j+1))/\jS K c.q ((s.drop m).map MR.q) (b.drop m)) (fun _ i _=>S.length - (intOf i).toNat)
   case atStart=>exact⟨j+1,r0,aV _,hk,by go_num,rfl,bi.o,b9.o,by rw[an.o],by rw[an.o];exact bf.o⟩
   case round=>
    obtain⟨m,c,cx,hm,rfl,rfl,F,hC,ao,bk⟩:=hrel;obtain⟨d,ad,Q,bl⟩:=Ic hC F ao bk;clear hC ao bk;by_cases cy:m<S.length
    .
     obtain⟨t,ht⟩:∃t,s[m]?=some t:=⟨s[m]'(oB E.o),gE (oB E.o)⟩;obtain⟨C,ae⟩:∃C,b[m]?=some C:=⟨b[m]'(oB HL.o),gE (oB HL.o)⟩;have R:=d.o.ok t (mO ht);have cz:=ba.o C (mO ae);have aw:=F.len;have ca:=R.len;obtain⟨f,hf⟩:∃f,c.ts[C]?=some f:=⟨c.ts[C]' oO,gE oO⟩;obtain⟨qb,qo,ax,au,d0,d1,d2⟩:=F.row.at hf;obtain⟨ay,ap,bm⟩:=F.row.get hf;have c0:=F.sz f (mO hf);obtain⟨o1,o2,o3⟩:=ay.one;have s0:=ns prog o1;have s1:=ns prog o2;have s2:=ns prog o3;obtain⟨c3,c4,cb,cs,c2⟩:=d.o.heads.Ba.cell m (.int .i64 (C:Nat)) (by simp[lU,ae]);cases cb;have c1:wr.cell? ⟨g,m,none⟩=some (.slice t.a t.ts.length t.cap):=d.o.rows.cell (by rw[aP,ht];rfl);rw[ca]at c1;have bn:=(d.o.rows.lt (g:=g) rfl).2;have cc:=d.o.box.lt;obtain⟨-,x1,x2,-⟩:=zc d.o.box;have q4:((m:Int)<(S.length:Int)):=oO;have q5:((m:Int)<(b.length:Int)):=oB HL.o;have q6:((C:Int)<(W:Int)):=oO;obtain⟨HT,cd,bo,bp,bq,az,a0⟩:=If R ax (nQ hf) ay ap (GC ht) (GC ae);have br:=Hi (fun u (hu:Bl wr u)=>Hu c.a t.a c.cap t.cap (4*K+1) f.k c.ts t.ts f.x f.y f.z f.q u (ad.o.row.below hu) (HT.o.row.below hu) oO oO (bp.o.below hu) bq.o bm (fun x hx y hy=>by have:=ad.o.sz x hx;have:=HT.o.sz y hy;omega) oO);rw[aw]at br;obtain⟨cf,X1⟩:=Ia c1 x1;rw[ax];obtain⟨V2,af⟩:=nm (wr.alloc (.cells #[f.x,f.y,f.z] 99));have a1:=Ua af;have bs:=Uc af;have cg:=Hi af;clear ht ae R hf ax ay ap af o1 o2 o3 F;go_wp2_with fail;rw[cg.o];go_fit (EM (bp.o.below a1.o));rintro e' w4 ⟨rfl,a3⟩;have L:=Hi (a1.o.trans (a3.mono a1.o.size));obtain⟨a4,ch,a5⟩:=Ib (d.o.below L.o) (ad.o.fr (vC L.o)) (bs.o.below a3 bs.o.lt);clear a3 c1 c2 d0 d1 d2 s0 s1 s2 x1 x2;rw[<-cd.o];by_cases h0:f.q=0
     . rw[dC h0];have HZ:=Hi (bo.o.trans h0);clear h0;go_wp2;go_roundw
       case rel=> have h1:=Q.o;have h2:=bl.o;rw[az.o,a0.o,dY]at h1 h2;rw[Ry HZ.o]at h1;exact⟨m+1,c,oO,oO,by go_num,rfl,ch.o,a4.o,h1,h2.skip HZ.o⟩
       case measure=>exact mI
     .
      rw[bS h0];clear h0;obtain⟨-,y1,-⟩:=zc a4.o.box;have y2:=ce L.o bn cf.o;obtain⟨b0,b1,b2,-⟩:=zc a5.o;obtain⟨Y1,Y2⟩:=Ia y1 y2;have bt:=aF bn L.o.size;have bu:=aF cc L.o.size;go_wp2_with fail;go_region_held3 (fun v=>v.cell? ⟨w.heap.size,1,none⟩=some (.slice (some ⟨g,0,none⟩) S.length cap)/\v.cell? ⟨g,m,none⟩=some (.slice t.a W t.cap)/\v.cell? ⟨wr.heap.size,0,none⟩=some f.x/\v.cell? ⟨wr.heap.size,1,none⟩=some f.y/\v.cell? ⟨wr.heap.size,2,none⟩=some f.z) ((first|(simp [*];done)|go_keep)) (first
       |(
        go_at_call 148;apply cM;apply br.o;(focus(repeat(first|exact L.o|apply CK|apply CJ)));rintro e6 w6 ⟨⟨g6,us,rfl,ci,aq,M⟩,a6⟩;(first
          |have T:O (Bl w4 w6):=Hi a6
          |have T:O (Bl w4 w6):=Hi (bR.drew.trans a6))
        obtain⟨aa,ab,cj⟩:=Ib aq M (a5.o.below T.o a5.o.lt);have z1:=ce T.o bu Y1.o;have z2:=ce T.o bt Y2.o;obtain⟨z3,z4,z5,-⟩:=zc cj.o;clear aq M a6 ci
        skip)
       |fail)
      all_goals
       clear y1 y2 b0 b1 b2 z1 z2 z3 z4 z5;have G:=bl.o;rw[az.o,a0.o,dY]at G;obtain⟨r6,I,H,U⟩:=vw.yF (v:=fun i=>c.q i - t.q i*c.q C) (K:=K) aa.o aw (by rw[aw];exact ab.o) a9 (fun i hi=>by
        show c.q i - qAt t.ts i*f.q=_
        rw[Di,bo.o]) (fun i hi=>by
        show c.q i - t.q i*c.q C=0
        rw[ob (r:=c) oO,ob (r:=t) oO]
        exact Rz _) (fun i _=>G.next.here i)
       have X:Value.slice (some ⟨g6,0,none⟩) W W=.slice r6.a W r6.cap:=by unfold MR.val at I;rw[H.len]at I;exact I.symm
       have ck:O (red r6.q ((s.drop (m+1)).map MR.q) (b.drop (m+1))=red (fun i=>r.q i / r.q h) ((s.drop (j+1)).map MR.q) (b.drop (j+1))):=Hi (by
        have h1:=Q.o;rw[az.o,a0.o,dY]at h1;rw[U]
        exact h1)
       have cl:O (jS K r6.q ((s.drop (m+1)).map MR.q) (b.drop (m+1))):=Hi (by rw[U];exact G.next);obtain⟨cm,cn⟩:=Ia H X;clear G I H U X;go_wp2_with fail;refine⟨⟨m+1,r6,oO,oO,by go_num,cn.o,cm.o,a4.o.below T.o,ck.o,cl.o⟩,?_⟩;simp[intOf];omega
    .
     have cp:m=S.length:=oO;subst cp;have er:c.val=.slice c.a W c.cap:=by unfold MR.val;rw[F.len]
     have hq:c.q=red (fun i=>r.q i / r.q h) ((s.drop (j+1)).map MR.q) (b.drop (j+1)):=by
      have h1:=Q.o;rw[dG (by rw[E.o];exact aV _)]at h1
      simpa [red] using h1
     obtain⟨cq,HQ⟩:=Ia er hq;obtain⟨-,x1,-⟩:=zc d.o.box;have f0:=d.o.rows.free j;have t0:=d.o.rows.cell (by rw[aP,b7.o];rfl);clear er hq F;go_wp2_with fail;refine⟨⟨j,s.set j c,oO,by go_num,by rw[aQ];exact E.o,fun p hp=>?_,?_,?_⟩,?_⟩
     . rw[bN oO]
       exact ak.o p oO
     . have cr:j<s.length:=oB E.o;rw[GC (bP cr),Gi,aN oO,dY,HQ.o];exact bx.o.symm
     . rw[<-cq.o]
       exact d.o.set E.o.symm (oB E.o) ad.o
     . simp[intOf]
def Nf(a:Vx)(cap K:Nat)(b:Ah)(w:Vz)(l:jq w)(h:lK w a cap b)(hk:∀t,t∈ b->t.k<=K)(hK:K<=274877906944)(hl:b.length<=1000):
 Calls prog 48 #[.slice a b.length cap] w fun e w'=>(∃(g:Nat)(c:Vt),e=.returned (.slice (some ⟨g,0,none⟩) b.length b.length)/\(c.length=b.length/\w.heap.size<=g)/\SB w' g 32 (iq c).toArray/\∀(i:Nat)(t:FE)(s:Vs),b[i]?=some t->c[i]?=some s->iK s.data.toList t.q)/\Below w.heap.size w w':=by
 obtain⟨Y,H,HK⟩:=Ib h l hk;have A:=fun w=>QI b.length oO w
 obtain⟨MC,r⟩:=nm ((iq (List.replicate b.length ⟨#[]⟩)).toArray);rw[r]at A;have I:=Hi r;clear h l hk r;go_enter func48,ntmps48;go_wp2_with fail;clear A;obtain⟨g,l⟩:=nm w.heap.size;obtain⟨V,F⟩:=nm (w.alloc (.cells MC 32));have J:O (Below g w V):=Hi (by rw[<-F,<-l];exact(ac _ _).alloc lZ _);have L:O (SB V g 32 (iq (List.replicate b.length ⟨#[]⟩)).toArray):=Hi (by rw[<-F,<-l,I.o];exact cK w _ _)
 try rw[F]
 try rw[l]
 clear F;go_loopw [10] (fun i wr=>∃(k:Nat)(c:Vt),k<=b.length/\i=.int .i64 k/\c.length=b.length/\SB wr g 32 (iq c).toArray/\(∀(i:Nat)(t:FE)(s:Vs),i<k->b[i]?=some t->c[i]?=some s->iK s.data.toList t.q)/\Below g w wr) (fun i _=>b.length - (intOf i).toNat)
 case atStart=>exact⟨0,_,oO,rfl,sS,L.o,fun i t s hi=>oO,J.o⟩
 case round=>
  obtain⟨k,c,hk,rfl,B,u,m,hb⟩:=hrel;obtain⟨M,v,Z⟩:=Ib hb u m;have N:=u.lt;have d:=Hi B;clear hb u m B;by_cases P:k<b.length
  .
   obtain⟨t,n⟩:∃t,b[k]?=some t:=⟨b[k],gE P⟩;have j:Below w.heap.size w wr:=by rw[l];exact M.o
   obtain⟨fb,aa,rfl,ab,d0,d1,d2⟩:=(Y.o.below j).at n;obtain⟨C,Q,R⟩:=Ib ((Y.o.below j).get n) (HK.o t (mO n)) (H.o.below j);have q1:((k:Int)<(b.length:Int)):=oO;have HT:=Hi n;obtain⟨S,D⟩:∃S,c[k]?=some S:=⟨c[k]'(oB d.o),gE (oB d.o)⟩;have T:=Hi D;clear n j D;go_wp2_with fail;go_fit (I2 (R.o.tab (by unfold uc;kernel_rfl)) C.o.1 (C.o.2.1.mono Q.o) hK);rintro e w2 ⟨⟨s,rfl,E⟩,z⟩;obtain⟨U,W,f⟩:=Ib E z (v.o.below z v.o.lt);have f0:=f.o.free k;have t0:w2.cell? ⟨g,k,none⟩=some (.string S):=by rw[f.o.cell];simp[iq,T.o]
   clear E z d0 d1 d2;go_wp2;go_roundw
   case rel=>
    refine⟨k+1,c.set k s,oO,by go_num,by rw[aQ];exact d.o,?_,fun i x y hi hx G=>?_,(M.o.trans (W.o.mono (dO N))).setCell (p:=⟨g,k,none⟩) lZ _⟩
    . have:=f.o.set k (.string s);rw[QH]
      simpa using this
    . rcases bB i k with h1|h1
      . rw[bN oO]at G
        exact Z.o i x y h1 hx G
      . obtain rfl:i=k:=oO;rw[bP (oB d.o)]at G;obtain rfl:=aD G;obtain rfl:=aD (HT.o.symm.trans hx);exact U.o
   case measure=>exact mI
  . have X:k=b.length:=oO;subst X;go_wp2;go_ret;rw[l];exact⟨⟨g,c,rfl,⟨d.o,cO rfl⟩,v.o,fun i t s n hs=>Z.o i t s (gZ n).1 n hs⟩,M.o⟩
def Tryz.xe:(prog.info? 45).map (·.size)=some 2:=kK
def lK.take{w:Vz}{a:Vx}{cap:Nat}{b:Ah}(h:lK w a cap b)(n:Nat):lK w a cap (b.take n):=by
 refine⟨⟨?_,⟨fun j u c=>h.row.row.cell j u ?_⟩⟩,fun t d=>h.ts t (dR d)⟩
 . have:=h.row.fit;rw[cI];omega
 . have e:b.flatMap FE.cells=(b.take n).flatMap FE.cells++(b.drop n).flatMap FE.cells:=by rw[<-jw,ux]
   rw[e,aR (gZ c).1];exact c
end Go.Proofs.YtfgclhpgdanmfaaGreatDoor
