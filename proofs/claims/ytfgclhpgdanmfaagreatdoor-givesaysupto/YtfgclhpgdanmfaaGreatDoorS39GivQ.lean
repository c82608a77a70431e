import Derived.Test.YtfgclhpgdanmfaaGreatDoorS38GivK
namespace Go.Proofs.YtfgclhpgdanmfaaGreatDoor
set_option linter.defProp false
open Go.RowKit
open Go.Proofs.Tryz
set_option linter.unusedSimpArgs false
set_option linter.unusedVariables false
set_option maxHeartbeats 8000000
set_option maxRecDepth 1000000
variable{K P a b c g n:Nat}{p:Rat}{I:Aq}{M:Aj}{s:AL}{w:Vz}{us:Ah}
section
variable {js:Ad} {bs:Ap} {hs:Ak} {vb:Aa} {vh:Vy} {N:Nat}
def O9(d:rZ 1048576 js bs hs vb vh)(e:2*js.length=N)(x:cW){i:Nat}(f:i<bs.length):fV vb x i=Giv.sOf N (dP vb bs.length vh) x i:=by obtain⟨p,c⟩:∃p,vb[i]?=some p:=⟨vb[i]'(oB d.lb),gE _⟩;obtain⟨b,hb⟩:∃b,bs[i]?=some b:=⟨bs[i],gE f⟩;have a:=d.vb i b p hb c;obtain⟨s,t,_,_,_,_,g,h,_⟩:=a.ex;have j:=(gZ g).1;have k:=(gZ h).1;unfold fV Giv.sOf EH;rw[show vb.getD i (0,0,0,0)=p by rw[aC,c];rfl];have:=Mp x j k a.ne;rw[e]at this;rw[rG N (fun w=>dP vb bs.length vh w i) x (fun w=>if w<N then mN p w else 0) x (fun w l=>by simp only[dP,c,aN l]),this];grind
def O8(c:rZ 1048576 js bs hs vb vh)(d:2*js.length=N)(a b x:cW){i:Nat}(e:i<bs.length):a i*(fV vb x i - b i)=Giv.tOf N (dP vb bs.length vh) a b x i:=by unfold Giv.tOf;rw[O9 c d x e]
def WU{nb:Nat}{B:Ae}{s t:cW}(h:∀i,i<nb->s i=t i)(w:Nat):Giv.putF nb B s w=Giv.putF nb B t w:=by unfold Giv.putF;exact rG nb _ _ _ _ (fun i a=>by rw[h i a])
theorem O7{a:cW}:∀(k:Nat)(w:Nat),¬w∈ vh->jC vh a k w=0
 |0,_,_=>rfl
 |k+1,w,h=>by
  show (if vh[k]?=some w then a k else jC vh a k w)=0
  rw[aH (fun e=>h (mO e)),O7 k w h]
def yU{w:Nat}:hO vh w=true↔¬w∈ vh:=by unfold hO;simp
def I1(D:rZ 1048576 js bs hs vb vh)(E:2*js.length=N){g q u a p m:cW}{b:Vy}(k:b=Giv.frs (hO vh) N)(F:p=Giv.putF bs.length (dP vb bs.length vh) (fun i=>g i*(fV vb (jC vh u hs.length) i - q i)))(A:∀w,w<N->hO vh w=false->m w=jC vh u hs.length w):
 sH b.length (mY b b.length (Giv.stf bs.length (dP vb bs.length vh) g)) (mD b b.length p a) (fun j=>m (b.getD j 0))↔Giv.Settles N bs.length (dP vb bs.length vh) g q (hO vh) (jC vh u hs.length) a m:=by
 have x:∀w,Giv.putF bs.length (dP vb bs.length vh) (Giv.tOf N (dP vb bs.length vh) g q m) w=p w - dot b.length (fun j=>Giv.stf bs.length (dP vb bs.length vh) g w (b.getD j 0)) (fun j=>m (b.getD j 0)):=fun w=>by
  have o:=Giv.put_on (n:=bs.length) (B:=dP vb bs.length vh) (c:=g) (e:=q) (fr:=hO vh) (W:=N) (m:=m) (m0:=jC vh u hs.length) (fun v _ y=>O7 _ v (yU.1 y)) A w;rw[<-k]at o;rw[o,F]
  congr 1
  exact WU (fun i f=>(O8 D E g q _ f).symm) w
 have l:∀i,i<b.length->(mY b b.length (Giv.stf bs.length (dP vb bs.length vh) g))[i]?=some (nt b b.length (Giv.stf bs.length (dP vb bs.length vh) g) b.length 0 i)/\(mD b b.length p a)[i]?=some (tU b p a i):=fun i f=>by unfold mY mD;rw[aP,aP,gM f];exact⟨rfl,rfl⟩
 have s:∀i,i<b.length->(dot b.length (nt b b.length (Giv.stf bs.length (dP vb bs.length vh) g) b.length 0 i) (fun j=>m (b.getD j 0))=tU b p a i↔Giv.putF bs.length (dP vb bs.length vh) (Giv.tOf N (dP vb bs.length vh) g q m) (b.getD i 0)=a (b.getD i 0)):=fun i f=>by rw[x,rG b.length (nt b b.length (Giv.stf bs.length (dP vb bs.length vh) g) b.length 0 i) _ (fun j=>Giv.stf bs.length (dP vb bs.length vh) g (b.getD i 0) (b.getD j 0)) (fun j=>m (b.getD j 0)) (fun j G=>by unfold nt;rw[aN ⟨G,.inl f⟩])];unfold tU;generalize dot b.length _ _=d;constructor<;>intro h<;>grind
 constructor
 . intro h;refine⟨A,fun w H y=>?_⟩;have t:w∈ b:=by rw[k];exact Giv.frs_mem.2 ⟨H,y⟩
   obtain⟨i,f,e⟩:=nV t;have o:=(s i f).1 (h i _ _ (l i f).1 (l i f).2);rw[show b.getD i 0=w by rw[aC,gE f,e];rfl]at o;exact o
 .
  intro h i r v C z;have f:i<b.length:=by
   have:=(gZ C).1
   simpa [mY] using this
  have o:=l i f;rw[C]at o;rw[z]at o;rw[aD o.1,aD o.2];refine(s i f).2 (h.2 _ ?_ ?_)
  . have:b.getD i 0∈ b:=by rw[aC,gE f];exact kI _
    rw[k]at this;rw[k];exact(Giv.frs_mem.1 this).1
  . have:b.getD i 0∈ b:=by rw[aC,gE f];exact kI _
    rw[k]at this;rw[k];exact(Giv.frs_mem.1 this).2
end
def Wh.mul{Q:Nat}{q:Rat}(h:Wh P a p)(k:Wh Q c q):Wh (P*Q) (a+c) (p*q):=by
 obtain⟨y,e,d⟩:=h;obtain⟨z,f,g⟩:=k;refine⟨y*z,?_,?_⟩
 . rw[Cw,<-e,<-f,Rat.natCast_mul]
   grind
 . rw[fE,eG]
   exact fO d g
def Wh.wide{P Q a c:Nat}{p:Rat}(h:Wh P a p)(d:Q<=2 ^ c):Wh (P*Q) (a+c) p:=by have:=h.mul (I8 d);rw[Qy]at this;exact this
def DJ:=@Wh.wide
def Wh.to{d:Nat}(h:Wh P a p)(e:P=d)(f:a<=c):Wh d c p:=e ▸ h.mono f
theorem O6{P b:Nat}:∀(n:Nat)(r x:cW),(∀i,i<n->Wh P b (r i*x i))->B1 P b n (dot n r x)
 |0,r,x,h=>⟨0,by show (0:Rat)*_=_;rw[tP];rfl,sS⟩
 |n+1,r,x,h=>by
  have d:=(O6 n r x (fun i f=>h i oO)).sub (h n oO).neg;have e:dot (n+1) r x=dot n r x - -(r n*x n):=by
   show dot n r x+r n*x n=_
   grind
  rw[e];exact d
def B1.wh{q:Rat}(h:B1 P b a q)(d:a<=32):Wh P (b+5) q:=by obtain⟨z,e,f⟩:=h;refine⟨z,e,aE f ?_⟩;rw[eG,bV];exact cR _ d
def Ls{r x:cW}(d:n<=32)(h:∀i,i<n->Wh P b (r i*x i)):Wh P (b+5) (dot n r x):=(O6 n r x h).wh d
theorem Wh.xh:∀{l:AJ} {q:Rat},(∀p,p∈ l->Fits p.1 p.2)->q∈ l.map (·.1)->Wh (sN (l.map (·.1))) (l.map (·.2)).sum q
 |p :: l,q,hf,h=>by
  rw[dY,dY,pT,sN];have hl:=IL l (fun t d=>hf t (by simp[d]));have e:=hf p sS;rw[dY]at h;rcases aY.1 h with rfl|h
  . refine Wh.wide ⟨p.1.num,XY _,dO e.1⟩ hl
  . exact((Wh.xh (fun t d=>hf t (by simp[d])) h).wide (dO e.2)).to (bV _ _) oO
def bW:List B6->Nat
 | []=>0
 |s :: l=>s.c.size+s.e.size+bW l
def hW:List H3->Nat
 | []=>0
 |s :: l=>s.q.size+hW l
theorem O5:∀bs:Ap,∃l:AJ,(∀p,p∈ l->Fits p.1 p.2)/\(l.map (·.2)).sum=4*bW bs+2*bs.length/\∀s,s∈ bs->∀x y,il s.c.data.toList x->il s.e.data.toList y->x∈ l.map (·.1)/\y∈ l.map (·.1)
 | []=>⟨[],(fun p d=>by cases d),rfl,(fun s hs=>by cases hs)⟩
 |s :: js=>by
  obtain⟨l,k,m,n⟩:=O5 js;obtain⟨x,g⟩:=j9 s.c.data.toList;obtain⟨y,h⟩:=j9 s.e.data.toList;refine⟨(x,4*s.c.size+1) :: (y,4*s.e.size+1) :: l,fun p d=>?_,?_,fun t f u v i j=>?_⟩
  .
   rcases aY.1 d with rfl|d
   . exact g.oA lZ
   . rcases aY.1 d with rfl|d
     . exact h.oA lZ
     . exact k p d
  . simp only[dY,pT,m,bW,dJ]
    omega
  .
   rcases aY.1 f with rfl|f
   . rw[i.inj g,j.inj h]
     simp
   . obtain⟨k1,k2⟩:=n t f u v i j
     exact⟨bU _ (bU _ k1),bU _ (bU _ k2)⟩
theorem O0:∀hs:Ak,∃l:AJ,(∀p,p∈ l->Fits p.1 p.2)/\(l.map (·.2)).sum=4*hW hs+hs.length/\∀s,s∈ hs->∀x,il s.q.data.toList x->x∈ l.map (·.1)
 | []=>⟨[],(fun p d=>by cases d),rfl,(fun s hs=>by cases hs)⟩
 |s :: js=>by
  obtain⟨l,h,i,j⟩:=O0 js;obtain⟨x,f⟩:=j9 s.q.data.toList;refine⟨(x,4*s.q.size+1) :: l,fun p d=>?_,?_,fun t e u g=>?_⟩
  . rcases aY.1 d with rfl|d
    . exact f.oA lZ
    . exact h p d
  . simp only[dY,pT,i,hW,dJ]
    omega
  .
   rcases aY.1 e with rfl|e
   . rw[g.inj f]
     simp
   . exact bU _ (j t e u g)
structure qR (P b Q c:Nat) (vb:Aa) (nb nh:Nat) (cv ev bv a:cW):Prop where
 fr:L6 P b vb
 pos:0<Q
 le:Q<=2 ^ c
 ce:∀i,i<nb->Wh Q c (cv i)/\Wh Q c (ev i)
 by_:∀i,i<nh->Wh Q c (bv i)
 a:∀i,Wh Q c (a i)
section
variable {P b Q c N:Nat} {js:Ad} {bs:Ap} {hs:Ak} {vb:Aa} {vh:Vy} {cv ev bv a:cW}
def qR.Jx(h:qR P b Q c vb bs.length hs.length cv ev bv a):∀k,k<=hs.length->∀w,Wh Q c (jC vh bv k w)
 |0,_,w=>vy _ _
 |k+1,hk,w=>by
  show Wh Q c (if vh[k]?=some w then bv k else jC vh bv k w)
  split
  . exact h.by_ k oO
  . exact h.Jx k oO w
def qR.stf(h:qR P b Q c vb bs.length hs.length cv ev bv a)(hb:bs.length<=24)(w v:Nat):Wh (P*(Q*(P*Q))) (2*b+2*c+5) (Giv.stf bs.length (dP vb bs.length vh) cv w v):=by unfold Giv.stf;refine Ls oO (fun i d=>?_);have e:=(h.fr.at (nb:=bs.length) (vh:=vh) w i).mul ((h.ce i d).1.mul ((h.fr.at (nb:=bs.length) (vh:=vh) v i).wide h.le));exact e.to rfl oO
def qR.put(h:qR P b Q c vb bs.length hs.length cv ev bv a)(d:rZ 1048576 js bs hs vb vh)(f:2*js.length=N)(w:Nat):Wh (P*(Q*(P*Q))) (2*b+2*c+11) (Giv.putF bs.length (dP vb bs.length vh) (fun i=>cv i*(fV vb (jC vh bv hs.length) i - ev i)) w):=by
 have hb:=d.b;have l:=d.j;unfold Giv.putF;refine(Ls (b:=2*b+2*c+6) oO (fun i e=>?_)).mono oO;have g:Wh (P*Q) (b+c+5) (fV vb (jC vh bv hs.length) i):=by rw[O9 d f _ e];unfold Giv.sOf;exact(Ls oO (fun w _=>(h.fr.at w i).mul (h.Jx hs.length lZ w))).neg
 have k:Wh (P*Q) (b+c+5) (ev i):=((h.ce i e).2.wide h.fr.le).to (bV _ _) oO;exact((h.fr.at (nb:=bs.length) (vh:=vh) w i).mul ((h.ce i e).1.mul (g.sub k))).to rfl oO
def qR.sum(h:qR P b Q c vb bs.length hs.length cv ev bv a)(f:rZ 1048576 js bs hs vb vh)(g:2*js.length=N){p:cW}(j:p=Giv.putF bs.length (dP vb bs.length vh) (fun i=>cv i*(fV vb (jC vh bv hs.length) i - ev i)))(d:Vy)(i:Nat):Wh (P*(Q*(P*Q))) (2*b+2*c+12) (tU d p a i):=by
 unfold tU;have e:=h.put f g (d.getD i 0);rw[<-j]at e;have k:Wh (P*(Q*(P*Q))) (2*b+2*c+11) (a (d.getD i 0)):=by
  have l:=(((h.a (d.getD i 0)).wide h.fr.le).wide h.fr.le).wide h.le;refine l.to ?_ oO
  ac_rfl
 exact e.sub k
def qR.A7(h:qR P b Q c vb bs.length hs.length cv ev bv a)(o:rZ 1048576 js bs hs vb vh)(z:2*js.length=N){p:cW}(A:p=Giv.putF bs.length (dP vb bs.length vh) (fun i=>cv i*(fV vb (jC vh bv hs.length) i - ev i))){d:Vy}(q:d=Giv.frs (hO vh) N){n e:Nat}(B:d.length=n)(C:2*b+2*c+12<=e){M:Aj}(D:M=List.zipWith (iz n) (mY d n (Giv.stf bs.length (dP vb bs.length vh) cv)) (mD d n p a)):
 pF (kE e) (MJ (n+1) 20 (kC e) M)/\MJ (n+1) 20 (kC e) M 0 M [] []/\
 ∀L S l,MJ (n+1) 20 (kC e) M (n+1) L S l->(ot 0 (n+1) S l/\∀x,jH (n+1) M x↔jH (n+1) S x)/\jT (kW e) S l/\∀v,v∈ cln S l->∀i,Fits (v i) (kC e):=by
 have hb:=o.b;have E:=o.j;have w:n<=20:=by rw[<-B,q];exact aE (Giv.frs_len _ _) oO
 have f:=gL h.fr.pos (gL h.pos (gL h.fr.pos h.pos));have s:P*(Q*(P*Q))<=2 ^ e:=by have y:=fO h.fr.le (fO h.le (fO h.fr.le h.le));rw[<-eG,<-eG,<-eG]at y;exact aE y (cP dD oO)
 subst D;refine YC f s (fun r t j=>?_) (fun r t i F=>?_) (.inl ?_)
 .
  obtain⟨m,u,v,g,rfl⟩:=LZ t;obtain⟨k,_,rfl⟩:=bZ.1 u;obtain⟨i,_,rfl⟩:=bZ.1 g;unfold iz
  split
  . exact(h.sum o z A d i).mono C
  .
   unfold nt
   split
   . exact(h.stf hb _ _).mono oO
   . exact vy _ _
 . obtain⟨m,u,v,g,rfl⟩:=LZ t;obtain⟨k,_,rfl⟩:=bZ.1 u;unfold iz nt;rw[aH oO,aH oO]
 . simp only[List.length_zipWith,mY,mD,bF,jm]
   omega
end
def rZ.F0{N T:Nat}{js:Ad}{bs:Ap}{hs:Ak}{vb:Aa}{vh:Vy}{f:AE}{vs:Ai}{cv ev bv:cW}(n:rZ 1048576 js bs hs vb vh)(C:∀(i:Nat)(b:B6),bs[i]?=some b->il b.c.data.toList (cv i)/\il b.e.data.toList (ev i))(D:∀(i:Nat)(h:H3),hs[i]?=some h->il h.q.data.toList (bv i))(W:f.length<=20)(X:vs.length=f.length)(E:∀(i:Nat)(l:L3)(p:Aw),f[i]?=some l->vs[i]?=some p->wH js.length l p)(hT:jW js+bW bs+hW hs+lW f<=T):∃P b Q c,qR P b Q c vb bs.length hs.length cv ev bv (pJ vs)/\2*b+2*c+12<=8*T+300:=by
 obtain⟨l,I,h2,J⟩:=Om js;obtain⟨K,Y,Z,i3⟩:=O5 bs;obtain⟨L,j1,j2,j3⟩:=O0 hs;obtain⟨M,k1,k2,k3⟩:=Qn f;have O:=n.j;have hb:=n.b;have hh:=n.h;obtain⟨m,o⟩:=nm (K++(L++M));have R:∀p,p∈ m->Fits p.1 p.2:=fun p d=>by
  rw[<-o]at d;rcases bD.1 d with d|d
  . exact Y p d
  . rcases bD.1 d with d|d
    . exact j1 p d
    . exact k1 p d
 have aa:(m.map (·.2)).sum=4*bW bs+2*bs.length+(4*hW hs+hs.length+(4*lW f+2*f.length)):=by rw[<-o,dH,dH,List.sum_append,List.sum_append,Z,j2,k2]
 have r:∀q,q∈ K.map (·.1)->q∈ m.map (·.1):=fun q g=>by rw[<-o,dH];exact bD.2 (.inl g)
 have F:∀q,q∈ L.map (·.1)->q∈ m.map (·.1):=fun q g=>by rw[<-o,dH,dH];exact bD.2 (.inr (bD.2 (.inl g)))
 have u:∀q,q∈ M.map (·.1)->q∈ m.map (·.1):=fun q g=>by rw[<-o,dH,dH];exact bD.2 (.inr (bD.2 (.inr g)))
 have w:∀q:Rat,q∈ m.map (·.1)->Wh (sN (m.map (·.1))) (m.map (·.2)).sum q:=fun q g=>Wh.xh R g
 have A:∀q:Rat,q∈ l.map (·.1)->Wh (sN (l.map (·.1))) (l.map (·.2)).sum q:=fun q g=>Wh.xh I g
 refine⟨sN (l.map (·.1)),(l.map (·.2)).sum+1,sN (m.map (·.1)),(m.map (·.2)).sum+5,⟨⟨LI _,aE (IL l I) (cP dD oO),fun p d=>?_⟩,LI _,aE (IL m R) (cP dD oO),fun i v=>?_,fun i v=>?_,fun i=>?_⟩,oO⟩
 . obtain⟨i,v,rfl⟩:=nV d;have G:i<bs.length:=oB n.lb;obtain⟨s,t,x1,y1,x2,y2,k,B,_,_,_,_,u1,u2,u3,u4,e3,e4⟩:=(n.vb i bs[i] vb[i] (gE G) (gE v)).ex;have z:=J s (mO k) x1 y1 u1 u2;have S:=J t (mO B) x2 y2 u3 u4;rw[e3,e4];exact⟨(A x2 S.1).sub (A x1 z.1),(A y2 S.2).sub (A y1 z.2)⟩
 . have k:=C i bs[i] (gE v);have B:=i3 bs[i] (kI _) _ _ k.1 k.2;exact⟨(w _ (r _ B.1)).mono oO,(w _ (r _ B.2)).mono oO⟩
 . have k:=D i hs[i] (gE v)
   exact(w _ (F _ (j3 hs[i] (kI _) _ k))).mono oO
 . have hw:∀p,p∈ vs->Wh (sN (m.map (·.1))) (m.map (·.2)).sum p.2.1/\Wh (sN (m.map (·.1))) (m.map (·.2)).sum p.2.2:=fun p d=>by obtain⟨j,O,rfl⟩:=nV d;have H:j<f.length:=oO;have U:=E j f[j] vs[j] (gE H) (gE O);have z:=k3 _ (kI _) _ _ U.x U.y;exact⟨w _ (u _ z.1),w _ (u _ z.2)⟩
   have V:=L4 vs.length vs hw i;rw[dB]at V;exact V.wh oO
def pF.Gd(h:pF K I)(d:I 0 M [] []):∀W,∃L S a,I W L S a
 |0=>⟨M,[],[],d⟩
 |W+1=>by
  obtain⟨L,S,a,e⟩:=h.Gd d W;by_cases f:∀r,r∈ L->r W=0
  . exact⟨L,S,a,h.skip e f⟩
  . have:∃r,r∈ L/\r W≠0:=bC fun k=>f fun r b=>bC fun k'=>k ⟨r,b,k'⟩
    obtain⟨r,b,c⟩:=this;obtain⟨j,g⟩:=dM b;exact⟨_,_,_,h.step e g c⟩
def T9{h:Nat}{x:cW}(o:pF K I)(p:I 0 (List.zipWith (iz n) M s) [] [])(b:∀L S a,I (n+1) L S a->(ot 0 (n+1) S a/\∀x,jH (n+1) (List.zipWith (iz n) M s) x↔jH (n+1) S x)/\∀v,v∈ cln S a->∀i,Fits (v i) h)(j:sH n M s x)(k:∀y,sH n M s y->∀i,i<n->y i=x i):∀i,i<n->Fits (x i) h:=fun i A=>by
 obtain⟨L,S,a,q⟩:=o.Gd p (n+1);obtain⟨⟨d,f⟩,r⟩:=b L S a q;have e:n ∉ a:=fun e=>Ob d f e x j
 have hl:¬a.length<n:=fun hl=>by obtain⟨y,z,t,u,c,l,g⟩:=Oa d f e hl;exact g ((k y t c l).trans (k z u c l).symm)
 obtain⟨f1,f2,f3⟩:=N9 d f e hl;have m:(cln S a).length=n:=by rw[Iq S a d.len,d.len,f1]
 have w:(cln S a)[i]?=some ((cln S a)[i]' oO):=gE _;rw[(f3 x).1 j i _ w];exact r _ (kI _) n
def sH.congr{x y:cW}(h:sH n M s x)(k:∀i,i<n->x i=y i):sH n M s y:=fun i r v d f=>by rw[<-h i r v d f];exact rG n r y r x (fun c g=>by rw[k c g])
def CF(w:Vz)(N nb K KF:Nat)(B:Ae)(cv ev:cW)(fr:AH)(h0 a:cW)(e:As)(w':Vz):Prop:=
 ((e=.returned (.tuple #[.slice none 0 0,.int .i64 8])/\∀m,¬Giv.Settles N nb B cv ev fr h0 a m)∨
  (e=.returned (.tuple #[.slice none 0 0,.int .i64 9])/\∃m m',Giv.Settles N nb B cv ev fr h0 a m/\Giv.Settles N nb B cv ev fr h0 a m'/\∃r,r<N/\m r≠m' r)∨
  (∃(g:Nat)(us:Ah)(m:cW),e=.returned (.tuple #[.slice (some ⟨g,0,none⟩) N N,.int .i64 0])/\w.heap.size<=g/\RB w' g N K m us/\Giv.Settles N nb B cv ev fr h0 a m/\(∀m',Giv.Settles N nb B cv ev fr h0 a m'->∀r,r<N->m' r=m r)/\∀r,r<N->Fits (m r) KF))/\Below w.heap.size w w'
section
variable {w w':Vz} {a1 a2 a3:Vx} {c1 c2 c3 N P b Q c ga KA e:Nat} {js:Ad} {bs:Ap} {hs:Ak} {vb:Aa} {vh:Vy} {cv ev bv a:cW} {asl:Ah}
def pG.Cc(h:pG w a1 a2 a3 c1 c2 c3 N js bs hs vb vh cv ev bv)(ha:RB w ga N KA a asl)(R:qR P b Q c vb bs.length hs.length cv ev bv a)(he:2*b+2*c+12<=e)(e1:2000000<=e)(e2:e<=16000000)(aa:KA<=100000000):
 Calls prog 43 #[.agg #[.slice a1 js.length c1,.slice a2 bs.length c2,.slice a3 hs.length c3],.slice (some ⟨ga,0,none⟩) N N] w (CF w N bs.length (kW e) (kC e) (dP vb bs.length vh) cv ev (hO vh) (jC vh bv hs.length) a):=by
 obtain⟨d,f⟩:∃l,l=Giv.frs (hO vh) N:=⟨_,rfl⟩;obtain⟨p,F⟩:∃p,p=Giv.putF bs.length (dP vb bs.length vh) (fun i=>cv i*(fV vb (jC vh bv hs.length) i - ev i)):=⟨_,rfl⟩;obtain⟨H,I,q⟩:=R.A7 h.fv h.n F f rfl he rfl;have T:=WV a1 a2 a3 c1 c2 c3 N ga KA (kW e) _ _ _ _ js bs hs vb vh cv ev bv a p asl w h ha d f F rfl rfl rfl rfl (by simp only[kW,kC];omega) (by simp only[kW,kC];omega) (by simp only[kW,kC];omega) _ (H.mono (by simp only[kE,kW,kC];omega)) I (fun L S G k=>⟨(q L S G k).1.1,(q L S G k).1.2,(q L S G k).2.1⟩);refine T.mono fun en w' hw=>?_
 obtain⟨B,hb⟩:=hw;refine⟨?_,hb⟩;have C:d.Nodup:=by rw[f];exact List.Nodup.sublist Y4 sL
 have J:∀r,r<N->hO vh r=true->∃i,i<d.length/\d.getD i 0=r:=fun r u o=>by
  have K:r∈ d:=by rw[f];exact Giv.frs_mem.2 ⟨u,o⟩
  obtain⟨i,k,e⟩:=nV K;exact⟨i,k,by rw[aC,gE k,e];rfl⟩
 have v:∀r,hO vh r=false->¬r∈ d:=fun r o t=>by rw[f]at t;have:=(Giv.frs_mem.1 t).2;rw[o]at this;cases this
 have z:∀x,sH d.length (mY d d.length (Giv.stf bs.length (dP vb bs.length vh) cv)) (mD d d.length p a) x->Giv.Settles N bs.length (dP vb bs.length vh) cv ev (hO vh) (jC vh bv hs.length) a (rM d x (jC vh bv hs.length) d.length):=fun x U=>by refine(I1 h.fv h.n f F (fun r _ o=>Lh (v r o) _ lZ)).1 ?_;exact U.congr (fun i k=>(Fz C _ lZ k).symm)
 rcases B with ⟨rfl,V⟩|⟨rfl,x,y,U,W,i,k,X⟩|⟨g,us,m,rfl,Y,Z,D,s⟩
 . refine .inl ⟨rfl,fun m t=>?_⟩
   exact V _ ((I1 h.fv h.n f F t.1).2 t)
 .
  refine .inr (.inl ⟨rfl,_,_,z x U,z y W,d.getD i 0,?_,?_⟩)
  . have:d.getD i 0∈ d:=by rw[aC,gE k];exact kI _
    rw[f]at this;rw[f];exact(Giv.frs_mem.1 this).1
  . rw[Fz C _ lZ k,Fz C _ lZ k]
    exact X
 .
  have t:∀r,r<N->hO vh r=false->m r=jC vh bv hs.length r:=fun r _ o=>D r (v r o)
  have A:=(s (fun j=>m (d.getD j 0))).2 (fun i k=>rfl);have M:=(I1 h.fv h.n f F t).1 A;have O:=T9 H I (fun L S G k=>⟨(q L S G k).1,(q L S G k).2.2⟩) A (fun y W i k=>(s y).1 W i k);refine .inr (.inr ⟨g,us,m,rfl,Y,Z,M,fun m' E r u=>?_,fun r u=>?_⟩)
  . cases o:hO vh r with
    |false=>rw[t r u o,E.1 r u o]
    |true=> obtain⟨i,k,rfl⟩:=J r u o;exact(s _).1 ((I1 h.fv h.n f F E.1).2 E) i k
  . cases o:hO vh r with
    |false=> rw[t r u o];exact((R.Jx hs.length lZ r).fits R.pos R.le).mono (by simp only[kC];omega)
    |true=> obtain⟨i,k,rfl⟩:=J r u o;exact O i k
end
def RB.FY{x:cW}(h:RB w g n K x us)(f:∀r,r<n->Fits (x r) a)(j:0<a):RB w g n a x (us.map (fun t=>{ t with k:=a })):=by
 have l:(us.map (fun t=>{ t with k:=a })).flatMap FE.cells=us.flatMap FE.cells:=by rw[List.flatMap_map];rfl
 refine⟨⟨by rw[l];exact h.blk.blk,fun t b=>?_⟩,by rw[bF,h.len],fun i t b=>?_⟩
 .
  obtain⟨s,c,rfl⟩:=bZ.1 b;obtain⟨i,e⟩:=dM c;have d:=(gZ e).1;refine⟨(h.blk.ts s c).1,?_,j⟩
  show Fits s.q a
  rw[(h.val i s e).1];exact f i (by rw[<-h.len];exact d)
 . rw[aP]at b;obtain⟨s,c,rfl⟩:=aZ.1 b;exact⟨(h.val i s c).1,aV _⟩
def Lr{u:Vz}{x1 x2 x3 y1 y2 f h i k1 k2:Ac}(a:g≠c)(s:SB u g 47 #[f,h,i])(j:SB u c 41 #[k1,k2]):
 SB (((((u.setCell ⟨g,0,none⟩ x1).setCell ⟨g,1,none⟩ x2).setCell ⟨g,2,none⟩ x3).setCell ⟨c,0,none⟩ y1).setCell ⟨c,1,none⟩ y2) g 47 #[x1,x2,x3]/\SB (((((u.setCell ⟨g,0,none⟩ x1).setCell ⟨g,1,none⟩ x2).setCell ⟨g,2,none⟩ x3).setCell ⟨c,0,none⟩ y1).setCell ⟨c,1,none⟩ y2) c 41 #[y1,y2]/\
  (∀(b:Nat)(t:Vr)(C:Vw),SB u b t C->b≠g->b≠c->SB (((((u.setCell ⟨g,0,none⟩ x1).setCell ⟨g,1,none⟩ x2).setCell ⟨g,2,none⟩ x3).setCell ⟨c,0,none⟩ y1).setCell ⟨c,1,none⟩ y2) b t C):=by
 refine⟨?_,?_,fun b t C hb d e=>((((hb.other d 0 x1).other d 1 x2).other d 2 x3).other e 0 y1).other e 1 y2⟩
 . have:=((((s.set 0 x1).set 1 x2).set 2 x3).other a 0 y1).other a 1 y2
   simpa using this
 . have:=((((j.other a.symm 0 x1).other a.symm 1 x2).other a.symm 2 x3).set 0 y1).set 1 y2
   simpa using this
def Lq:(prog.info? 47).map (·.size)=some 3:=kK
def mJ(n:Nat)(x:cW)(ss:Vt):Prop:=ss.length=n/\∀(i:Nat)(s:Vs),ss[i]?=some s->iK s.data.toList (x i)
def tZ(vh:Vy)(a p:cW):cW:=fun i=>a (vh.getD i 0) - p (vh.getD i 0)
def pE(w:Vz)(nj nb nh KF:Nat)(vb:Aa)(vh:Vy)(cv ev bv a:cW)(e:As)(w':Vz):Prop:=
 ((e=.returned (.tuple #[.agg #[.slice none 0 0,.slice none 0 0,.slice none 0 0],.agg #[.int .i64 8,.int .i64 0]])/\∀m,¬Giv.Settles (2*nj) nb (dP vb nb vh) cv ev (hO vh) (jC vh bv nh) a m)∨
  (e=.returned (.tuple #[.agg #[.slice none 0 0,.slice none 0 0,.slice none 0 0],.agg #[.int .i64 9,.int .i64 0]])/\∃m m',Giv.Settles (2*nj) nb (dP vb nb vh) cv ev (hO vh) (jC vh bv nh) a m/\Giv.Settles (2*nj) nb (dP vb nb vh) cv ev (hO vh) (jC vh bv nh) a m'/\∃r,r<2*nj/\m r≠m' r)∨
  (∃(g1 g2 g3:Nat)(ss:Ad)(tb th:Vt) (m t:cW),e=.returned (.tuple #[.agg #[.slice (some ⟨g1,0,none⟩) nj nj,.slice (some ⟨g2,0,none⟩) nb nb,.slice (some ⟨g3,0,none⟩) nh nh],.agg #[.int .i64 0,.int .i64 0]])/\ss.length=nj/\SB w' g1 34 (ss.flatMap S2.cells).toArray/\mQ m ss/\
    SB w' g2 32 (iq tb).toArray/\mJ nb t tb/\SB w' g3 32 (iq th).toArray/\mJ nh (tZ vh a (Giv.putF nb (dP vb nb vh) t)) th/\t=(fun i=>cv i*(fV vb m i - ev i))/\
    Giv.Settles (2*nj) nb (dP vb nb vh) cv ev (hO vh) (jC vh bv nh) a m/\(∀m',Giv.Settles (2*nj) nb (dP vb nb vh) cv ev (hO vh) (jC vh bv nh) a m'->∀r,r<2*nj->m' r=m r)/\(∀r,r<2*nj->Fits (m r) KF)/\w.heap.size<=g1/\w.heap.size<=g2/\w.heap.size<=g3))/\Below w.heap.size w w'
def RB.Qs{x:cW}(h:RB w g n K x us):vw w n K ⟨some ⟨g,0,none⟩,n,us⟩/\∀i,i<n->(MR.mk (some ⟨g,0,none⟩) n us).q i=x i:=by
 refine⟨⟨?_,h.len,fun t a=>?_⟩,fun i b=>?_⟩
 . have:=h.blk.row;rw[h.len]at this;exact this
 . obtain⟨i,b⟩:=dM a
   exact(h.val i t b).2
 . obtain⟨t,a⟩:=h.get b;rw[nQ (r:=MR.mk (some ⟨g,0,none⟩) n us) a];exact(h.val i t a).1
end Go.Proofs.YtfgclhpgdanmfaaGreatDoor
