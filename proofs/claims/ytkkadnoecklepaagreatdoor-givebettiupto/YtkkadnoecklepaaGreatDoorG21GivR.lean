import Derived.Test.YtkkadnoecklepaaGreatDoorG20GivK
namespace Go.Proofs.YtkkadnoecklepaaGreatDoor
open Go.RowKit
open Go.Proofs.Tryz
set_option linter.unusedSimpArgs false
set_option linter.unusedVariables false
set_option maxHeartbeats 8000000
set_option maxRecDepth 1000000
section
variable {js:List S2} {bs:List B6} {hs:List H3} {vb:List (Nat × Nat × Rat × Rat)} {vh:Vy} {N:Nat}
theorem Qfj(d:FrV 1048576 js bs hs vb vh)(e:2*js.length=N)(x:Vec){i:Nat}(f:i<bs.length):stretchV vb x i=Giv.sOf N (balM vb bs.length vh) x i:=by
 obtain⟨p,c⟩:∃p,vb[i]?=some p:=⟨vb[i]'(by have:=d.lb;omega),gE _⟩;obtain⟨b,g⟩:∃b,bs[i]?=some b:=⟨bs[i],gE f⟩;have a:=d.vb i b p g c;obtain⟨s,t,_,_,_,_,h,j,_⟩:=a.ex;have k:=(gZ h).1;have l:=(gZ j).1;unfold stretchV Giv.sOf strq;rw[show vb.getD i (0,0,0,0)=p by rw[List.getD_eq_getElem?_getD,c];rfl];have:=Qwh x k l a.ne;rw[e] at this;rw[Qac N (fun w=>balM vb bs.length vh w i) x (fun w=>if w<N then barAt p w else 0) x (fun w m=>by simp only[balM,c,if_pos m]),this];grind
theorem Qoy(c:FrV 1048576 js bs hs vb vh)(d:2*js.length=N)(a b x:Vec){i:Nat}(e:i<bs.length):a i*(stretchV vb x i - b i)=Giv.tOf N (balM vb bs.length vh) a b x i:=by
 unfold Giv.tOf;rw[Qfj c d x e]
theorem Qoz{nb:Nat}{B:Nat->Nat->Rat}{s t:Vec}(h:∀i,i<nb->s i=t i)(w:Nat):Giv.putF nb B s w=Giv.putF nb B t w:=by
 unfold Giv.putF;exact Qac nb _ _ _ _ (fun i a=>by rw[h i a])
theorem Qic{a:Vec}:∀(k:Nat) (w:Nat),¬w∈ vh->hldM vh a k w=0
 |0,_,_=>rfl
 |k+1,w,h=>by
  show (if vh[k]?=some w then a k else hldM vh a k w)=0
  rw[if_neg (fun e=>h (mO e)),Qic k w h]
theorem freeW_iff{w:Nat}:freeW vh w=true↔¬w∈ vh:=by
 unfold freeW;simp
theorem Qb9(D:FrV 1048576 js bs hs vb vh)(E:2*js.length=N){g q u a p m:Vec}{b:Vy}(k:b=Giv.frs (freeW vh) N)(F:p=Giv.putF bs.length (balM vb bs.length vh) (fun i=>g i*(stretchV vb (hldM vh u hs.length) i - q i)))(A:∀w,w<N->freeW vh w=false->m w=hldM vh u hs.length w):
 Sol b.length (setRows b b.length (Giv.stf bs.length (balM vb bs.length vh) g)) (setSums b b.length p a) (fun j=>m (b.getD j 0))↔Giv.Settles N bs.length (balM vb bs.length vh) g q (freeW vh) (hldM vh u hs.length) a m:=by
 have x:∀w,Giv.putF bs.length (balM vb bs.length vh) (Giv.tOf N (balM vb bs.length vh) g q m) w=p w - dot b.length (fun j=>Giv.stf bs.length (balM vb bs.length vh) g w (b.getD j 0)) (fun j=>m (b.getD j 0)):=fun w=>by
  have o:=Giv.put_on (n:=bs.length) (B:=balM vb bs.length vh) (c:=g) (e:=q) (fr:=freeW vh) (W:=N) (m:=m) (m0:=hldM vh u hs.length) (fun v _ y=>Qic _ v (freeW_iff.1 y)) A w;rw[<-k] at o;rw[o,F]
  congr 1
  exact Qoz (fun i f=>(Qoy D E g q _ f).symm) w
 have l:∀i,i<b.length->(setRows b b.length (Giv.stf bs.length (balM vb bs.length vh) g))[i]?=some (partV b b.length (Giv.stf bs.length (balM vb bs.length vh) g) b.length 0 i)/\(setSums b b.length p a)[i]?=some (sumV b p a i):=fun i f=>by
  unfold setRows setSums;rw[List.getElem?_map,List.getElem?_map,List.getElem?_range f];exact⟨rfl,rfl⟩
 have s:∀i,i<b.length->(dot b.length (partV b b.length (Giv.stf bs.length (balM vb bs.length vh) g) b.length 0 i) (fun j=>m (b.getD j 0))=sumV b p a i↔Giv.putF bs.length (balM vb bs.length vh) (Giv.tOf N (balM vb bs.length vh) g q m) (b.getD i 0)=a (b.getD i 0)):=fun i f=>by
  rw[x,Qac b.length (partV b b.length (Giv.stf bs.length (balM vb bs.length vh) g) b.length 0 i) _ (fun j=>Giv.stf bs.length (balM vb bs.length vh) g (b.getD i 0) (b.getD j 0)) (fun j=>m (b.getD j 0)) (fun j G=>by unfold partV;rw[if_pos ⟨G,.inl f⟩])];unfold sumV;generalize dot b.length _ _=d;constructor<;>intro h<;>grind
 constructor
 .
  intro h;refine⟨A,fun w H y=>?_⟩;have t:w∈ b:=by rw[k];exact Giv.frs_mem.2 ⟨H,y⟩
  obtain⟨i,f,e⟩:=List.getElem_of_mem t;have o:=(s i f).1 (h i _ _ (l i f).1 (l i f).2);rw[show b.getD i 0=w by rw[List.getD_eq_getElem?_getD,gE f,e];rfl] at o;exact o
 .
  intro h i r v C z;have f:i<b.length:=by
   have:=(gZ C).1
   simpa [setRows] using this
  have o:=l i f;rw[C] at o;rw[z] at o;rw[Option.some.inj o.1,Option.some.inj o.2];refine(s i f).2 (h.2 _ ?_ ?_)
  .
   have:b.getD i 0∈ b:=by rw[List.getD_eq_getElem?_getD,gE f];exact List.getElem_mem _
   rw[k] at this;rw[k];exact(Giv.frs_mem.1 this).1
  .
   have:b.getD i 0∈ b:=by rw[List.getD_eq_getElem?_getD,gE f];exact List.getElem_mem _
   rw[k] at this;rw[k];exact(Giv.frs_mem.1 this).2
end
theorem Wh.mul{P Q a c:Nat}{p q:Rat}(h:Wh P a p)(k:Wh Q c q):Wh (P*Q) (a+c) (p*q):=by
 obtain⟨y,e,d⟩:=h;obtain⟨z,f,g⟩:=k;refine⟨y*z,?_,?_⟩
 . rw[Rat.intCast_mul,<-e,<-f,Rat.natCast_mul]
   grind
 . rw[Int.natAbs_mul,Nat.pow_add]
   exact Nat.mul_le_mul d g
theorem Wh.wide{P Q a c:Nat}{p:Rat}(h:Wh P a p)(d:Q<=2 ^ c):Wh (P*Q) (a+c) p:=by
 have:=h.mul (Wh.one d);rw[Rat.mul_one] at this;exact this
theorem Wh.to{P d a c:Nat}{p:Rat}(h:Wh P a p)(e:P=d)(f:a<=c):Wh d c p:=e ▸ h.mono f
theorem Qid{P b:Nat}:∀(n:Nat) (r x:Vec),(∀i,i<n->Wh P b (r i*x i))->WhN P b n (dot n r x)
 |0,r,x,h=>⟨0,by show (0:Rat)*_=_;rw[Rat.zero_mul];rfl,by simp⟩
 |n+1,r,x,h=>by
  have d:=(Qid n r x (fun i f=>h i (by omega))).sub (h n (by omega)).neg;have e:dot (n+1) r x=dot n r x - -(r n*x n):=by
   show dot n r x+r n*x n=_
   grind
  rw[e];exact d
theorem WhN.wh{P b a:Nat}{q:Rat}(h:WhN P b a q)(d:a<=32):Wh P (b+5) q:=by
 obtain⟨z,e,f⟩:=h;refine⟨z,e,Nat.le_trans f ?_⟩;rw[Nat.pow_add,Nat.mul_comm];exact Nat.mul_le_mul_left _ d
theorem Qcu{P b n:Nat}{r x:Vec}(d:n<=32)(h:∀i,i<n->Wh P b (r i*x i)):Wh P (b+5) (dot n r x):=(Qid n r x h).wh d
theorem Wh.of_sum:∀{l:List (Rat × Nat)} {q:Rat},(∀p,p∈ l->Fits p.1 p.2)->q∈ l.map (·.1)->Wh (denP (l.map (·.1))) (l.map (·.2)).sum q
 |p :: l,q,hf,h=>by
  rw[List.map_cons,List.map_cons,List.sum_cons,denP];have hl:denP (l.map (·.1))<=2 ^ (l.map (·.2)).sum:=Qdd l (fun t d=>hf t (by simp[d]));have e:=hf p (by simp);rw[List.map_cons] at h;rcases List.mem_cons.1 h with rfl|h
  . refine Wh.wide ⟨p.1.num,Qm8 _,Nat.le_of_lt e.1⟩ hl
  . exact((Wh.of_sum (fun t d=>hf t (by simp[d])) h).wide (Nat.le_of_lt e.2)).to (Nat.mul_comm _ _) (by omega)
def bW:List B6->Nat
 | []=>0
 |s :: l=>s.c.size+s.e.size+bW l
def hW:List H3->Nat
 | []=>0
 |s :: l=>s.q.size+hW l
theorem Qie:∀bs:List B6,∃l:List (Rat × Nat),(∀p,p∈ l->Fits p.1 p.2)/\(l.map (·.2)).sum=4*bW bs+2*bs.length/\∀s,s∈ bs->∀x y,QOf s.c.data.toList x->QOf s.e.data.toList y->x∈ l.map (·.1)/\y∈ l.map (·.1)
 | []=>⟨[],(fun p d=>by cases d),rfl,(fun s hs=>by cases hs)⟩
 |s :: js=>by
  obtain⟨l,k,m,n⟩:=Qie js;obtain⟨x,g⟩:=QOf.ex s.c.data.toList;obtain⟨y,h⟩:=QOf.ex s.e.data.toList;refine⟨(x,4*s.c.size+1) :: (y,4*s.e.size+1) :: l,fun p d=>?_,?_,fun t f u v i j=>?_⟩
  .
   rcases List.mem_cons.1 d with rfl|d
   . exact g.fits' lZ
   .
    rcases List.mem_cons.1 d with rfl|d
    . exact h.fits' lZ
    . exact k p d
  . simp only[List.map_cons,List.sum_cons,m,bW,List.length_cons]
    omega
  .
   rcases List.mem_cons.1 f with rfl|f
   . rw[i.inj g,j.inj h]
     simp
   . obtain⟨k1,k2⟩:=n t f u v i j
     exact⟨List.mem_cons_of_mem _ (List.mem_cons_of_mem _ k1),List.mem_cons_of_mem _ (List.mem_cons_of_mem _ k2)⟩
theorem Qif:∀hs:List H3,∃l:List (Rat × Nat),(∀p,p∈ l->Fits p.1 p.2)/\(l.map (·.2)).sum=4*hW hs+hs.length/\∀s,s∈ hs->∀x,QOf s.q.data.toList x->x∈ l.map (·.1)
 | []=>⟨[],(fun p d=>by cases d),rfl,(fun s hs=>by cases hs)⟩
 |s :: js=>by
  obtain⟨l,h,i,j⟩:=Qif js;obtain⟨x,f⟩:=QOf.ex s.q.data.toList;refine⟨(x,4*s.q.size+1) :: l,fun p d=>?_,?_,fun t e u g=>?_⟩
  .
   rcases List.mem_cons.1 d with rfl|d
   . exact f.fits' lZ
   . exact h p d
  . simp only[List.map_cons,List.sum_cons,i,hW,List.length_cons]
    omega
  .
   rcases List.mem_cons.1 e with rfl|e
   . rw[g.inj f]
     simp
   . exact List.mem_cons_of_mem _ (j t e u g)
structure GivP (P b Q c:Nat) (vb:List (Nat × Nat × Rat × Rat)) (nb nh:Nat) (cv ev bv a:Vec):Prop where
 fr:FrP P b vb
 pos:0<Q
 le:Q<=2 ^ c
 ce:∀i,i<nb->Wh Q c (cv i)/\Wh Q c (ev i)
 by_:∀i,i<nh->Wh Q c (bv i)
 a:∀i,Wh Q c (a i)
section
variable {P b Q c N:Nat} {js:List S2} {bs:List B6} {hs:List H3} {vb:List (Nat × Nat × Rat × Rat)} {vh:Vy} {cv ev bv a:Vec}
theorem GivP.hld(h:GivP P b Q c vb bs.length hs.length cv ev bv a):∀k,k<=hs.length->∀w,Wh Q c (hldM vh bv k w)
 |0,_,w=>Wh.zero _ _
 |k+1,hk,w=>by
  show Wh Q c (if vh[k]?=some w then bv k else hldM vh bv k w)
  split
  . exact h.by_ k (by omega)
  . exact h.hld k (by omega) w
theorem GivP.stf(h:GivP P b Q c vb bs.length hs.length cv ev bv a)(f:bs.length<=24)(w v:Nat):Wh (P*(Q*(P*Q))) (2*b+2*c+5) (Giv.stf bs.length (balM vb bs.length vh) cv w v):=by
 unfold Giv.stf;refine Qcu (by omega) (fun i d=>?_);have e:=(h.fr.at (nb:=bs.length) (vh:=vh) w i).mul ((h.ce i d).1.mul ((h.fr.at (nb:=bs.length) (vh:=vh) v i).wide h.le));exact e.to rfl (by omega)
theorem GivP.put(h:GivP P b Q c vb bs.length hs.length cv ev bv a)(d:FrV 1048576 js bs hs vb vh)(f:2*js.length=N)(w:Nat):Wh (P*(Q*(P*Q))) (2*b+2*c+11) (Giv.putF bs.length (balM vb bs.length vh) (fun i=>cv i*(stretchV vb (hldM vh bv hs.length) i - ev i)) w):=by
 have l:=d.b;have m:=d.j;unfold Giv.putF;refine(Qcu (b:=2*b+2*c+6) (by omega) (fun i e=>?_)).mono (by omega);have g:Wh (P*Q) (b+c+5) (stretchV vb (hldM vh bv hs.length) i):=by
  rw[Qfj d f _ e];unfold Giv.sOf;exact(Qcu (by omega) (fun w _=>(h.fr.at w i).mul (h.hld hs.length lZ w))).neg
 have k:Wh (P*Q) (b+c+5) (ev i):=((h.ce i e).2.wide h.fr.le).to (Nat.mul_comm _ _) (by omega);exact((h.fr.at (nb:=bs.length) (vh:=vh) w i).mul ((h.ce i e).1.mul (g.sub k))).to rfl (by omega)
theorem GivP.sum(h:GivP P b Q c vb bs.length hs.length cv ev bv a)(f:FrV 1048576 js bs hs vb vh)(g:2*js.length=N){p:Vec}(j:p=Giv.putF bs.length (balM vb bs.length vh) (fun i=>cv i*(stretchV vb (hldM vh bv hs.length) i - ev i)))(d:Vy)(i:Nat):Wh (P*(Q*(P*Q))) (2*b+2*c+12) (sumV d p a i):=by
 unfold sumV;have e:=h.put f g (d.getD i 0);rw[<-j] at e;have k:Wh (P*(Q*(P*Q))) (2*b+2*c+11) (a (d.getD i 0)):=by
  have l:=(((h.a (d.getD i 0)).wide h.fr.le).wide h.fr.le).wide h.le;refine l.to ?_ (by omega)
  ac_rfl
 exact e.sub k
theorem GivP.going(h:GivP P b Q c vb bs.length hs.length cv ev bv a)(o:FrV 1048576 js bs hs vb vh)(z:2*js.length=N){p:Vec}(A:p=Giv.putF bs.length (balM vb bs.length vh) (fun i=>cv i*(stretchV vb (hldM vh bv hs.length) i - ev i))){d:Vy}(q:d=Giv.frs (freeW vh) N){n e:Nat}(B:d.length=n)(C:2*b+2*c+12<=e){M:List Vec}(D:M=List.zipWith (wider n) (setRows d n (Giv.stf bs.length (balM vb bs.length vh) cv)) (setSums d n p a)):
 Going (kE e) (MJ (n+1) 20 (kC e) M)/\MJ (n+1) 20 (kC e) M 0 M [] []/\
 ∀L S l,MJ (n+1) 20 (kC e) M (n+1) L S l->(Ech 0 (n+1) S l/\∀x,Null (n+1) M x↔Null (n+1) S x)/\clnFits (kW e) S l/\∀v,v∈ cln S l->∀i,Fits (v i) (kC e):=by
 have E:=o.b;have F:=o.j;have w:n<=20:=by rw[<-B,q];exact Nat.le_trans (Giv.frs_len _ _) (by omega)
 have f:0<P*(Q*(P*Q)):=Nat.mul_pos h.fr.pos (Nat.mul_pos h.pos (Nat.mul_pos h.fr.pos h.pos));have s:P*(Q*(P*Q))<=2 ^ e:=by
  have y:P*(Q*(P*Q))<=2 ^ b*(2 ^ c*(2 ^ b*2 ^ c)):=Nat.mul_le_mul h.fr.le (Nat.mul_le_mul h.le (Nat.mul_le_mul h.fr.le h.le));rw[<-Nat.pow_add,<-Nat.pow_add,<-Nat.pow_add] at y;exact Nat.le_trans y (Nat.pow_le_pow_right (by decide) (by omega))
 subst D;refine Qna f s (fun r t j=>?_) (fun r t i G=>?_) (.inl ?_)
 .
  obtain⟨m,u,v,g,rfl⟩:=Qe1 t;obtain⟨k,_,rfl⟩:=List.mem_map.1 u;obtain⟨i,_,rfl⟩:=List.mem_map.1 g;unfold wider
  split
  . exact(h.sum o z A d i).mono C
  .
   unfold partV
   split
   . exact(h.stf E _ _).mono (by omega)
   . exact Wh.zero _ _
 .
  obtain⟨m,u,v,g,rfl⟩:=Qe1 t;obtain⟨k,_,rfl⟩:=List.mem_map.1 u;unfold wider partV;rw[if_neg (by omega),if_neg (by omega)]
 . simp only[List.length_zipWith,setRows,setSums,List.length_map,List.length_range]
   omega
end
theorem FrV.overG{N T:Nat}{js:List S2}{bs:List B6}{hs:List H3}{vb:List (Nat × Nat × Rat × Rat)}{vh:Vy}{f:List L3}{vs:List (Nat × Rat × Rat)}{cv ev bv:Vec}(n:FrV 1048576 js bs hs vb vh)(C:∀(i:Nat) (b:B6),bs[i]?=some b->QOf b.c.data.toList (cv i)/\QOf b.e.data.toList (ev i))(D:∀(i:Nat) (h:H3),hs[i]?=some h->QOf h.q.data.toList (bv i))(W:f.length<=20)(X:vs.length=f.length)(E:∀(i:Nat) (l:L3) (p:Nat × Rat × Rat),f[i]?=some l->vs[i]?=some p->LoadV js.length l p)(hT:jW js+bW bs+hW hs+lW f<=T):∃P b Q c,GivP P b Q c vb bs.length hs.length cv ev bv (agn vs)/\2*b+2*c+12<=8*T+300:=by
 obtain⟨l,I,h2,J⟩:=Qhc js;obtain⟨K,Y,Z,i3⟩:=Qie bs;obtain⟨L,j1,j2,j3⟩:=Qif hs;obtain⟨M,k1,k2,k3⟩:=Qhd f;have O:=n.j;have hb:=n.b;have hh:=n.h;obtain⟨m,o⟩:=nm (K++(L++M));have R:∀p,p∈ m->Fits p.1 p.2:=fun p d=>by
  rw[<-o] at d;rcases List.mem_append.1 d with d|d
  . exact Y p d
  .
   rcases List.mem_append.1 d with d|d
   . exact j1 p d
   . exact k1 p d
 have aa:(m.map (·.2)).sum=4*bW bs+2*bs.length+(4*hW hs+hs.length+(4*lW f+2*f.length)):=by
  rw[<-o,List.map_append,List.map_append,List.sum_append,List.sum_append,Z,j2,k2]
 have r:∀q,q∈ K.map (·.1)->q∈ m.map (·.1):=fun q g=>by rw[<-o,List.map_append];exact List.mem_append.2 (.inl g)
 have F:∀q,q∈ L.map (·.1)->q∈ m.map (·.1):=fun q g=>by rw[<-o,List.map_append,List.map_append];exact List.mem_append.2 (.inr (List.mem_append.2 (.inl g)))
 have u:∀q,q∈ M.map (·.1)->q∈ m.map (·.1):=fun q g=>by rw[<-o,List.map_append,List.map_append];exact List.mem_append.2 (.inr (List.mem_append.2 (.inr g)))
 have w:∀q:Rat,q∈ m.map (·.1)->Wh (denP (m.map (·.1))) (m.map (·.2)).sum q:=fun q g=>Wh.of_sum R g
 have A:∀q:Rat,q∈ l.map (·.1)->Wh (denP (l.map (·.1))) (l.map (·.2)).sum q:=fun q g=>Wh.of_sum I g
 refine⟨denP (l.map (·.1)),(l.map (·.2)).sum+1,denP (m.map (·.1)),(m.map (·.2)).sum+5,⟨⟨Qe5 _,Nat.le_trans (Qdd l I) (Nat.pow_le_pow_right (by decide) (by omega)),fun p d=>?_⟩,Qe5 _,Nat.le_trans (Qdd m R) (Nat.pow_le_pow_right (by decide) (by omega)),fun i v=>?_,fun i v=>?_,fun i=>?_⟩,by omega⟩
 .
  obtain⟨i,v,rfl⟩:=List.getElem_of_mem d;have G:i<bs.length:=by have:=n.lb;omega
  obtain⟨s,t,x1,y1,x2,y2,k,B,_,_,_,_,u1,u2,u3,u4,e3,e4⟩:=(n.vb i bs[i] vb[i] (gE G) (gE v)).ex;have z:=J s (mO k) x1 y1 u1 u2;have S:=J t (mO B) x2 y2 u3 u4;rw[e3,e4];exact⟨(A x2 S.1).sub (A x1 z.1),(A y2 S.2).sub (A y1 z.2)⟩
 .
  have k:=C i bs[i] (gE v);have B:=i3 bs[i] (List.getElem_mem _) _ _ k.1 k.2;exact⟨(w _ (r _ B.1)).mono (by omega),(w _ (r _ B.2)).mono (by omega)⟩
 . have k:=D i hs[i] (gE v)
   exact(w _ (F _ (j3 hs[i] (List.getElem_mem _) _ k))).mono (by omega)
 .
  have hw:∀p,p∈ vs->Wh (denP (m.map (·.1))) (m.map (·.2)).sum p.2.1/\Wh (denP (m.map (·.1))) (m.map (·.2)).sum p.2.2:=fun p d=>by
   obtain⟨j,O,rfl⟩:=List.getElem_of_mem d;have H:j<f.length:=by omega
   have U:=E j f[j] vs[j] (gE H) (gE O);have z:=k3 _ (List.getElem_mem _) _ _ U.x U.y;exact⟨w _ (u _ z.1),w _ (u _ z.2)⟩
  have V:=Qe0 vs.length vs hw i;rw[List.take_length] at V;exact V.wh (by omega)
theorem Going.ends{K:Nat}{I:Nat->List Vec->List Vec->List Nat->Prop}(h:Going K I){M:List Vec}(g:I 0 M [] []):∀W,∃L S hs,I W L S hs
 |0=>⟨M,[],[],g⟩
 |W+1=>by
  obtain⟨L,S,hs,i⟩:=h.ends g W;by_cases l:∀r,r∈ L->r W=0
  . exact⟨L,S,hs,h.skip i l⟩
  .
   have:∃r,r∈ L/\r W≠0:=bC fun k=>l fun r d=>bC fun k'=>k ⟨r,d,k'⟩
   obtain⟨r,d,f⟩:=this;obtain⟨j,m⟩:=List.getElem?_of_mem d;exact⟨_,_,_,h.step i m f⟩
theorem Qo0{K k n:Nat}{I:Nat->List Vec->List Vec->List Nat->Prop}{M:List Vec}{s:List Rat}{x:Vec}(q:Going K I)(r:I 0 (List.zipWith (wider n) M s) [] [])(d:∀L S hs,I (n+1) L S hs->(Ech 0 (n+1) S hs/\∀x,Null (n+1) (List.zipWith (wider n) M s) x↔Null (n+1) S x)/\∀v,v∈ cln S hs->∀i,Fits (v i) k)(l:Sol n M s x)(m:∀y,Sol n M s y->∀i,i<n->y i=x i):∀i,i<n->Fits (x i) k:=fun i D=>by
 obtain⟨L,S,hs,t⟩:=q.ends r (n+1);obtain⟨⟨f,h⟩,u⟩:=d L S hs t;have g:n ∉ hs:=fun g=>Qjd f h g x l
 have hl:¬hs.length<n:=fun hl=>by
  obtain⟨y,z,A,B,c,o,j⟩:=Qje f h g hl;exact j ((m y A c o).trans (m z B c o).symm)
 obtain⟨f1,f2,f3⟩:=Qjf f h g hl;have p:(cln S hs).length=n:=by rw[Qd4 S hs f.len,f.len,f1]
 have C:(cln S hs)[i]?=some ((cln S hs)[i]'(by omega)):=gE _;rw[(f3 x).1 l i _ C];exact u _ (List.getElem_mem _) n
theorem Sol.congr{n:Nat}{M:List Vec}{s:List Rat}{x y:Vec}(h:Sol n M s x)(k:∀i,i<n->x i=y i):Sol n M s y:=fun i r v d f=>by
 rw[<-h i r v d f];exact Qac n r y r x (fun c g=>by rw[k c g])
def StlSays(w:Vz)(N nb K KF:Nat)(B:Nat->Nat->Rat)(cv ev:Vec)(fr:Nat->Bool)(h0 a:Vec)(e:Ending)(w':Vz):Prop:=
 ((e=.returned (.tuple #[.slice none 0 0,.int .i64 8])/\∀m,¬Giv.Settles N nb B cv ev fr h0 a m)∨
  (e=.returned (.tuple #[.slice none 0 0,.int .i64 9])/\∃m m',Giv.Settles N nb B cv ev fr h0 a m/\Giv.Settles N nb B cv ev fr h0 a m'/\∃r,r<N/\m r≠m' r)∨
  (∃(g:Nat) (us:List FE) (m:Vec),e=.returned (.tuple #[.slice (some ⟨g,0,none⟩) N N,.int .i64 0])/\w.heap.size<=g/\RB w' g N K m us/\Giv.Settles N nb B cv ev fr h0 a m/\(∀m',Giv.Settles N nb B cv ev fr h0 a m'->∀r,r<N->m' r=m r)/\∀r,r<N->Fits (m r) KF))/\Below w.heap.size w w'
section
variable {w w':Vz} {a1 a2 a3:Vx} {c1 c2 c3 N P b Q c ga KA e:Nat} {js:List S2} {bs:List B6} {hs:List H3} {vb:List (Nat × Nat × Rat × Rat)} {vh:Vy} {cv ev bv a:Vec} {asl:List FE}
theorem GivV.settled(h:GivV w a1 a2 a3 c1 c2 c3 N js bs hs vb vh cv ev bv)(ha:RB w ga N KA a asl)(R:GivP P b Q c vb bs.length hs.length cv ev bv a)(he:2*b+2*c+12<=e)(e1:2000000<=e)(e2:e<=16000000)(aa:KA<=100000000):
 Calls prog 53 #[.agg #[.slice a1 js.length c1,.slice a2 bs.length c2,.slice a3 hs.length c3],.slice (some ⟨ga,0,none⟩) N N] w (StlSays w N bs.length (kW e) (kC e) (balM vb bs.length vh) cv ev (freeW vh) (hldM vh bv hs.length) a):=by
 obtain⟨d,f⟩:∃l,l=Giv.frs (freeW vh) N:=⟨_,rfl⟩;obtain⟨p,F⟩:∃p,p=Giv.putF bs.length (balM vb bs.length vh) (fun i=>cv i*(stretchV vb (hldM vh bv hs.length) i - ev i)):=⟨_,rfl⟩;obtain⟨H,I,q⟩:=R.going h.fv h.n F f rfl he rfl;have T:=Qov a1 a2 a3 c1 c2 c3 N ga KA (kW e) _ _ _ _ js bs hs vb vh cv ev bv a p asl w h ha d f F rfl rfl rfl rfl (by simp only[kW,kC];omega) (by simp only[kW,kC];omega) (by simp only[kW,kC];omega) _ (H.mono (by simp only[kE,kW,kC];omega)) I (fun L S G k=>⟨(q L S G k).1.1,(q L S G k).1.2,(q L S G k).2.1⟩);refine T.mono fun en w' hw=>?_
 obtain⟨B,hb⟩:=hw;refine⟨?_,hb⟩;have C:d.Nodup:=by rw[f];exact List.Nodup.sublist List.filter_sublist List.nodup_range
 have J:∀r,r<N->freeW vh r=true->∃i,i<d.length/\d.getD i 0=r:=fun r u o=>by
  have K:r∈ d:=by rw[f];exact Giv.frs_mem.2 ⟨u,o⟩
  obtain⟨i,k,e⟩:=List.getElem_of_mem K;exact⟨i,k,by rw[List.getD_eq_getElem?_getD,gE k,e];rfl⟩
 have v:∀r,freeW vh r=false->¬r∈ d:=fun r o t=>by
  rw[f] at t;have:=(Giv.frs_mem.1 t).2;rw[o] at this;cases this
 have z:∀x,Sol d.length (setRows d d.length (Giv.stf bs.length (balM vb bs.length vh) cv)) (setSums d d.length p a) x->Giv.Settles N bs.length (balM vb bs.length vh) cv ev (freeW vh) (hldM vh bv hs.length) a (motTo d x (hldM vh bv hs.length) d.length):=fun x U=>by
  refine(Qb9 h.fv h.n f F (fun r _ o=>Qdt (v r o) _ lZ)).1 ?_;exact U.congr (fun i k=>(Qbi C _ lZ k).symm)
 rcases B with ⟨rfl,V⟩|⟨rfl,x,y,U,W,i,k,X⟩|⟨g,us,m,rfl,Y,Z,D,s⟩
 . refine .inl ⟨rfl,fun m t=>?_⟩
   exact V _ ((Qb9 h.fv h.n f F t.1).2 t)
 .
  refine .inr (.inl ⟨rfl,_,_,z x U,z y W,d.getD i 0,?_,?_⟩)
  .
   have:d.getD i 0∈ d:=by rw[List.getD_eq_getElem?_getD,gE k];exact List.getElem_mem _
   rw[f] at this;rw[f];exact(Giv.frs_mem.1 this).1
  . rw[Qbi C _ lZ k,Qbi C _ lZ k]
    exact X
 .
  have t:∀r,r<N->freeW vh r=false->m r=hldM vh bv hs.length r:=fun r _ o=>D r (v r o)
  have A:=(s (fun j=>m (d.getD j 0))).2 (fun i k=>rfl);have M:=(Qb9 h.fv h.n f F t).1 A;have O:=Qo0 H I (fun L S G k=>⟨(q L S G k).1,(q L S G k).2.2⟩) A (fun y W i k=>(s y).1 W i k);refine .inr (.inr ⟨g,us,m,rfl,Y,Z,M,fun m' E r u=>?_,fun r u=>?_⟩)
  .
   cases o:freeW vh r with
   |false=>rw[t r u o,E.1 r u o]
   |true=>
    obtain⟨i,k,rfl⟩:=J r u o;exact(s _).1 ((Qb9 h.fv h.n f F E.1).2 E) i k
  .
   cases o:freeW vh r with
   |false=>
    rw[t r u o];exact((R.hld hs.length lZ r).fits R.pos R.le).mono (by simp only[kC];omega)
   |true=>
    obtain⟨i,k,rfl⟩:=J r u o;exact O i k
end
theorem RB.refit{w:Vz}{g n K a:Nat}{x:Vec}{us:List FE}(h:RB w g n K x us)(f:∀r,r<n->Fits (x r) a)(j:0<a):RB w g n a x (us.map (fun t=>{ t with k:=a })):=by
 have l:(us.map (fun t=>{ t with k:=a })).flatMap FE.cells=us.flatMap FE.cells:=by
  rw[List.flatMap_map];rfl
 refine⟨⟨by rw[l];exact h.blk.blk,fun t b=>?_⟩,by rw[List.length_map,h.len],fun i t b=>?_⟩
 .
  obtain⟨s,c,rfl⟩:=List.mem_map.1 b;obtain⟨i,e⟩:=List.getElem?_of_mem c;have d:=(gZ e).1;refine⟨(h.blk.ts s c).1,?_,j⟩
  show Fits s.q a
  rw[(h.val i s e).1];exact f i (by rw[<-h.len];exact d)
 .
  rw[List.getElem?_map] at b;obtain⟨s,c,rfl⟩:=Option.map_eq_some_iff.1 b;exact⟨(h.val i s c).1,Nat.le_refl _⟩
theorem Qfk{u:Vz}{g c:Nat}{x1 x2 x3 y1 y2 f h i k1 k2:Value}(a:g≠c)(s:SB u g 47 #[f,h,i])(j:SB u c 41 #[k1,k2]):
 SB (((((u.setCell ⟨g,0,none⟩ x1).setCell ⟨g,1,none⟩ x2).setCell ⟨g,2,none⟩ x3).setCell ⟨c,0,none⟩ y1).setCell ⟨c,1,none⟩ y2) g 47 #[x1,x2,x3]/\SB (((((u.setCell ⟨g,0,none⟩ x1).setCell ⟨g,1,none⟩ x2).setCell ⟨g,2,none⟩ x3).setCell ⟨c,0,none⟩ y1).setCell ⟨c,1,none⟩ y2) c 41 #[y1,y2]/\
  (∀(b:Nat) (t:Vr) (C:Vw),SB u b t C->b≠g->b≠c->SB (((((u.setCell ⟨g,0,none⟩ x1).setCell ⟨g,1,none⟩ x2).setCell ⟨g,2,none⟩ x3).setCell ⟨c,0,none⟩ y1).setCell ⟨c,1,none⟩ y2) b t C):=by
 refine⟨?_,?_,fun b t C k d e=>((((k.other d 0 x1).other d 1 x2).other d 2 x3).other e 0 y1).other e 1 y2⟩
 . have:=((((s.set 0 x1).set 1 x2).set 2 x3).other a 0 y1).other a 1 y2
   simpa using this
 . have:=((((j.other a.symm 0 x1).other a.symm 1 x2).other a.symm 2 x3).set 0 y1).set 1 y2
   simpa using this
theorem Qfl:(prog.info? 47).map (·.size)=some 3:=by kernel_rfl
def TextsOf(n:Nat)(x:Vec)(ss:Vt):Prop:=ss.length=n/\∀(i:Nat) (s:Vs),ss[i]?=some s->QText s.data.toList (x i)
def holdV(vh:Vy)(a p:Vec):Vec:=fun i=>a (vh.getD i 0) - p (vh.getD i 0)
def MoveSays(w:Vz)(nj nb nh KF:Nat)(vb:List (Nat × Nat × Rat × Rat))(vh:Vy)(cv ev bv a:Vec)(e:Ending)(w':Vz):Prop:=
 ((e=.returned (.tuple #[.agg #[.slice none 0 0,.slice none 0 0,.slice none 0 0],.agg #[.int .i64 8,.int .i64 0]])/\∀m,¬Giv.Settles (2*nj) nb (balM vb nb vh) cv ev (freeW vh) (hldM vh bv nh) a m)∨
  (e=.returned (.tuple #[.agg #[.slice none 0 0,.slice none 0 0,.slice none 0 0],.agg #[.int .i64 9,.int .i64 0]])/\∃m m',Giv.Settles (2*nj) nb (balM vb nb vh) cv ev (freeW vh) (hldM vh bv nh) a m/\Giv.Settles (2*nj) nb (balM vb nb vh) cv ev (freeW vh) (hldM vh bv nh) a m'/\∃r,r<2*nj/\m r≠m' r)∨
  (∃(g1 g2 g3:Nat) (ss:List S2) (tb th:Vt) (m t:Vec),e=.returned (.tuple #[.agg #[.slice (some ⟨g1,0,none⟩) nj nj,.slice (some ⟨g2,0,none⟩) nb nb,.slice (some ⟨g3,0,none⟩) nh nh],.agg #[.int .i64 0,.int .i64 0]])/\ss.length=nj/\SB w' g1 34 (ss.flatMap S2.cells).toArray/\SpotsTold m ss/\
    SB w' g2 32 (textsV tb).toArray/\TextsOf nb t tb/\SB w' g3 32 (textsV th).toArray/\TextsOf nh (holdV vh a (Giv.putF nb (balM vb nb vh) t)) th/\t=(fun i=>cv i*(stretchV vb m i - ev i))/\
    Giv.Settles (2*nj) nb (balM vb nb vh) cv ev (freeW vh) (hldM vh bv nh) a m/\(∀m',Giv.Settles (2*nj) nb (balM vb nb vh) cv ev (freeW vh) (hldM vh bv nh) a m'->∀r,r<2*nj->m' r=m r)/\∀r,r<2*nj->Fits (m r) KF))/\Below w.heap.size w w'
theorem RB.mok{w:Vz}{g n K:Nat}{x:Vec}{us:List FE}(h:RB w g n K x us):MOk w n K ⟨some ⟨g,0,none⟩,n,us⟩/\∀i,i<n->(MR.mk (some ⟨g,0,none⟩) n us).q i=x i:=by
 refine⟨⟨?_,h.len,fun t a=>?_⟩,fun i b=>?_⟩
 .
  have:=h.blk.row;rw[h.len] at this;exact this
 . obtain⟨i,b⟩:=List.getElem?_of_mem a
   exact(h.val i t b).2
 .
  obtain⟨t,a⟩:=h.get b;rw[MR.q_at (r:=MR.mk (some ⟨g,0,none⟩) n us) a];exact(h.val i t a).1
theorem Qig{u:Vz}{g b i j:Nat}{x:Value}(h:b≠g):(u.setCell ⟨g,i,none⟩ x).cell? ⟨b,j,none⟩=u.cell? ⟨b,j,none⟩:=World.cell?_of_block (Below.heap_setCell u ⟨g,i,none⟩ x b h)
theorem Qih(a1 a2 T al:Vx)(c1 c2 c3 cl N P b Q c E KA:Nat)(B:List S2)(z:List B6)(d:List H3)(vb:List (Nat × Nat × Rat × Rat))(vh:Vy)(cv ev bv:Vec)(ls:List L3)(vs:List (Nat × Rat × Rat))(w:Vz)(h:GivV w a1 a2 T c1 c2 c3 N B z d vb vh cv ev bv)(hz:FrSized B z d)(c8:FrameFault B z d 0 0)
 (hl:ARow L3.cells w al cl ls) (gx:ls.length<=20) (c9:vs.length=ls.length) (da:∀(i:Nat) (l:L3) (p:Nat × Rat × Rat),ls[i]?=some l->vs[i]?=some p->LoadV B.length l p) (bk:∀k i,Fits (agn (vs.take k) i) KA) (bl:0<KA) (db:KA<=100000000) (dc:GivP P b Q c vb z.length d.length cv ev bv (agn vs)) (he:2*b+2*c+12<=E) (e1:2000000<=E) (e2:E<=10000000):
 Calls prog 15 #[.agg #[.slice a1 B.length c1,.slice a2 z.length c2,.slice T d.length c3],.slice al ls.length cl] w (MoveSays w B.length z.length d.length (kC E) vb vh cv ev bv (agn vs)):=by
 obtain⟨L,HZ,fn,HL,dd,de,df,fo,HE⟩:=Ih h hz c8 hl c9 da bk dc (And.intro he (And.intro e1 e2));have a7:=Hi (And.intro bl db);have n1:=h.fv.j;have n2:=h.fv.b;have n3:=h.fv.h;clear h hz c8 hl c9 da bk dc he e1 e2 bl db;obtain⟨a,am⟩:=nm w.heap.size;obtain⟨V0,ad⟩:=nm (((w.alloc (.cells #[.slice a1 B.length c1,.slice a2 z.length c2,.slice T d.length c3] 26)).alloc (.cells #[.slice none 0 0,.slice none 0 0,.slice none 0 0] 47)).alloc (.cells #[.int .i64 0,.int .i64 0] 41));have S:O (Bl w V0):=Hi (by rw[<-ad];exact(Below.new2 w _ _).alloc (by simp;omega) _);have an:O (SB V0 a 26 #[.slice a1 B.length c1,.slice a2 z.length c2,.slice T d.length c3]):=Hi (by rw[<-ad,<-am];exact((SB.new w _ _).alloc _).alloc _)
 have U:O (SB V0 (a+1) 47 #[.slice none 0 0,.slice none 0 0,.slice none 0 0]):=Hi (by rw[<-ad,<-am];exact(Qa1 w _ _ _).alloc _);have W:O (SB V0 (a+1+1) 41 #[.int .i64 0,.int .i64 0]):=Hi (by
  rw[<-ad,<-am];have h:=Qa1 (w.alloc (.cells #[.slice a1 B.length c1,.slice a2 z.length c2,.slice T d.length c3] 26)) (.cells #[.slice none 0 0,.slice none 0 0,.slice none 0 0] 47) 41 #[.int .i64 0,.int .i64 0];rw[World.size_alloc] at h
  exact h)
 obtain⟨dg,fp,dh⟩:=Ib ad am (Qha a1 a2 T c1 c2 c3 B z d V0 (L.o.gl.below S.o) (L.o.fr.below S.o) HZ.o fn.o);have A:w.heap.size<=a+1:=by omega
 clear ad am;go_enter func15,ntmps15;go_wp2_with fail;rw[dg.o,fp.o];clear dg;go_fit dh.o;rintro e w1 ⟨rfl,bz⟩;obtain⟨V1,ao⟩:=nm (w1.alloc (.cells #[.int .i64 0,.int .i64 0] 41));have aa:Bl V0 V1:=by rw[<-ao];exact bz.alloc bz.size _
 have M:=Hi (an.o.below aa an.o.lt);have x0:V1.cell? ⟨a,0,none⟩=some (.slice a1 B.length c1):=by
  have h:=M.o.cell 0
  simpa using h
 have x1:V1.cell? ⟨a,1,none⟩=some (.slice a2 z.length c2):=by
  have h:=M.o.cell 1
  simpa using h
 have x2:V1.cell? ⟨a,2,none⟩=some (.slice T d.length c3):=by
  have h:=M.o.cell 2
  simpa using h
 have k0:V1.cell? ⟨w1.heap.size,0,none⟩=some (.int .i64 0):=by rw[<-ao];exact(SB.new w1 _ _).cell 0
 rw[<-ao] at x0 x1 x2 k0;obtain⟨di,ap⟩:=Ia (S.o.trans (aa.mono S.o.size)) aa;obtain⟨dj,dk⟩:=Ia (Ql7 a1 a2 T al c1 c2 c3 cl B.length z.length d.length ls V1 (HL.o.below di.o) n1 n2 n3 (by omega)) ao;clear ao aa bz M;go_wp2_with fail;rw[dk.o];go_fit dj.o;rintro e w2 ⟨c,fq,rfl,dl,b0⟩;obtain⟨rfl,rfl⟩:c=0/\fq=0:=by
  rcases dl with ⟨h,_⟩|⟨_,⟨k,l,hk,_,hj,_⟩|⟨_,h1,h2⟩⟩
  . omega
  .
   obtain⟨p,hp⟩:∃p,vs[k]?=some p:=⟨vs[k]'(by have:=(gZ hk).1;have:=dd.o;omega),gE _⟩;have h:=de.o k l p hk hp;exact absurd ⟨by rw[h.j];omega,by rw[h.j];have:=h.lt;omega⟩ hj
  . exact⟨h1,h2⟩
 obtain⟨V,hV⟩:=nm (w2.alloc (.cells #[.int .i64 0,.int .i64 0] 41));have aq:Bl V0 V:=ap.o.trans ((show Below V1.heap.size V1 V by rw[<-hV];exact b0.alloc b0.size _).mono ap.o.size);obtain⟨G,ae,Y,x⟩:=Ic (an.o.below aq an.o.lt) (U.o.below aq U.o.lt) (W.o.below aq W.o.lt) (S.o.trans (aq.mono S.o.size));clear x0 x1 x2 k0;have x0:V.cell? ⟨a,0,none⟩=some (.slice a1 B.length c1):=by
  have h:=G.o.cell 0
  simpa using h
 have x1:V.cell? ⟨a,1,none⟩=some (.slice a2 z.length c2):=by
  have h:=G.o.cell 1
  simpa using h
 have x2:V.cell? ⟨a,2,none⟩=some (.slice T d.length c3):=by
  have h:=G.o.cell 2
  simpa using h
 have k0:V.cell? ⟨w2.heap.size,0,none⟩=some (.int .i64 0):=by rw[<-hV];exact(SB.new w2 _ _).cell 0
 have dm:=Hi hV;rw[<-hV] at x0 x1 x2 k0;have dn:=Hi (Qvk a1 a2 T al c1 c2 c3 cl B.length z.length d.length KA ls vs V (L.o.gl.below x.o) (HL.o.below x.o) (by omega) n1 dd.o de.o a7.o.1 (by have:=a7.o;omega) df.o);clear dl b0 hV aq an U W dh dj di ap dk;go_wp2_with fail;rw[dm.o];clear k0 x0 x1 x2;go_fit dn.o;rintro e w3 ⟨⟨ga,Na,ua,dp,rfl,dq,dr,ds⟩,ar⟩;obtain rfl:N=Na:=by rw[dp];exact L.o.n.symm
 have b1:O (RB w3 ga N KA (agn vs) ua):=Hi ⟨dq,dr,ds⟩;obtain⟨b2,dt,a8⟩:=Ib ar (x.o.trans (ar.mono x.o.size)) (G.o.below ar G.o.lt);have du:=Hi ((L.o.below dt.o).settled b1.o fo.o HE.o.1 HE.o.2.1 (by have:=HE.o;omega) a7.o.2);have x0:w3.cell? ⟨a,0,none⟩=some (.slice a1 B.length c1):=by
  have h:=a8.o.cell 0
  simpa using h
 have x1:w3.cell? ⟨a,1,none⟩=some (.slice a2 z.length c2):=by
  have h:=a8.o.cell 1
  simpa using h
 have x2:w3.cell? ⟨a,2,none⟩=some (.slice T d.length c3):=by
  have h:=a8.o.cell 2
  simpa using h
 clear dp dq dr ds ar dn dm;go_wp2_with fail;clear x0 x1 x2;go_fit du.o;rintro e w4 ⟨b3,b4⟩;have H:=Hi (b2.o.trans (b4.mono b2.o.size));obtain⟨dv,bm,a9⟩:=Ib (x.o.trans (H.o.mono x.o.size)) (b1.o.below b4) (G.o.below H.o G.o.lt);clear b4 du b1 a8 dt b2;rcases b3 with ⟨rfl,dw⟩|⟨rfl,dx⟩|⟨gm,us,m,rfl,fs,au,bn,bo,ba⟩
 .
  have b5:=Hi dw;clear dw;obtain⟨f,y⟩:=Ia (ae.o.below H.o ae.o.lt) (Y.o.below H.o Y.o.lt);obtain⟨y0,y1,y4,-⟩:=zc f.o;obtain⟨y2,y3,-⟩:=zc y.o;have b6:w4.frozen? ⟨a+1,0,none⟩=false:=f.o.free 0;have b7:w4.frozen? ⟨a+1,1,none⟩=false:=f.o.free 1;have b8:w4.frozen? ⟨a+1,2,none⟩=false:=f.o.free 2;have b9:w4.frozen? ⟨a+1+1,0,none⟩=false:=y.o.free 0;have cb:w4.frozen? ⟨a+1+1,1,none⟩=false:=y.o.free 1;have av:=Hi (x.o.trans ((H.o).mono x.o.size));go_wp2
  have I:=Qfk (x1:=.slice none 0 0) (x2:=.slice none 0 0) (x3:=.slice none 0 0) (y1:=.int .i64 8) (y2:=.int .i64 0) (by omega:a+1≠a+1+1) f.o y.o;refine bodyPost_ret (Qey rfl _ _ (a+1) (a+1+1) 47 41 #[.slice none 0 0,.slice none 0 0,.slice none 0 0] #[.int .i64 8,.int .i64 0] (0,0) (0,0) _ _ rfl I.1 rfl I.2.1 underlying47 rfl Qfl underlying41 rfl Tryz.faultInfo) rfl ?_;have J:=((((av.o.setCell (p:=⟨a+1,0,none⟩) A (.slice none 0 0)).setCell (p:=⟨a+1,1,none⟩) A (.slice none 0 0)).setCell (p:=⟨a+1,2,none⟩) A (.slice none 0 0)).setCell (p:=⟨a+1+1,0,none⟩) (Nat.le_succ_of_le A) (.int .i64 8)).setCell (p:=⟨a+1+1,1,none⟩) (Nat.le_succ_of_le A) (.int .i64 0);exact⟨.inl ⟨rfl,by rw[L.o.n];exact b5.o⟩,J⟩
 .
  have b5:=Hi dx;clear dx;obtain⟨f,y⟩:=Ia (ae.o.below H.o ae.o.lt) (Y.o.below H.o Y.o.lt);obtain⟨y0,y1,y4,-⟩:=zc f.o;obtain⟨y2,y3,-⟩:=zc y.o;have b6:w4.frozen? ⟨a+1,0,none⟩=false:=f.o.free 0;have b7:w4.frozen? ⟨a+1,1,none⟩=false:=f.o.free 1;have b8:w4.frozen? ⟨a+1,2,none⟩=false:=f.o.free 2;have b9:w4.frozen? ⟨a+1+1,0,none⟩=false:=y.o.free 0;have cb:w4.frozen? ⟨a+1+1,1,none⟩=false:=y.o.free 1;have av:=Hi (x.o.trans ((H.o).mono x.o.size));go_wp2
  have I:=Qfk (x1:=.slice none 0 0) (x2:=.slice none 0 0) (x3:=.slice none 0 0) (y1:=.int .i64 9) (y2:=.int .i64 0) (by omega:a+1≠a+1+1) f.o y.o;refine bodyPost_ret (Qey rfl _ _ (a+1) (a+1+1) 47 41 #[.slice none 0 0,.slice none 0 0,.slice none 0 0] #[.int .i64 9,.int .i64 0] (0,0) (0,0) _ _ rfl I.1 rfl I.2.1 underlying47 rfl Qfl underlying41 rfl Tryz.faultInfo) rfl ?_;have J:=((((av.o.setCell (p:=⟨a+1,0,none⟩) A (.slice none 0 0)).setCell (p:=⟨a+1,1,none⟩) A (.slice none 0 0)).setCell (p:=⟨a+1,2,none⟩) A (.slice none 0 0)).setCell (p:=⟨a+1+1,0,none⟩) (Nat.le_succ_of_le A) (.int .i64 9)).setCell (p:=⟨a+1+1,1,none⟩) (Nat.le_succ_of_le A) (.int .i64 0);exact⟨.inr (.inl ⟨rfl,by rw[L.o.n];exact b5.o⟩),J⟩
 .
  obtain⟨KM,af⟩:=nm (kC E);have bp:1<=KM/\KM<=220000200:=by have:=HE.o;rw[<-af];simp only[kC];omega
  have cc:=au.refit ba (by rw[af];exact bp.1);obtain⟨um,dy⟩:∃um,us.map (fun t=>{ t with k:=kC E })=um:=⟨_,rfl⟩;rw[dy,af] at cc;rw[af] at ba;obtain⟨cd,dz,ea,ft,fu⟩:=Id cc bn bo ba af;obtain⟨KS,ce⟩:∃KS,KS=2*(8388611+(2*KM+1))+1:=⟨_,rfl⟩;obtain⟨KP,cf⟩:∃KP,KP=4194305+(KS+4194305+1):=⟨_,rfl⟩;obtain⟨KQ,eb⟩:∃KQ,KQ=24*(8388611+KP+1)+1:=⟨_,rfl⟩;obtain⟨KH,ec⟩:∃KH,KH=KA+KQ+1:=⟨_,rfl⟩;have ag:O (KP<=2500000000/\KA+KQ<68719476000/\0<KH/\KH<=274877906944):=Hi (by have:=a7.o;omega);obtain⟨cg,ch⟩:=Ia (And.intro ce (And.intro cf (And.intro eb ec))) ((L.o.below dv.o).pulls 0 (Nat.zero_le _) (B':=0) (v:=.slice (some ⟨gm,0,none⟩) N N) ⟨gm,um,rfl,Nat.zero_le _,cd.o⟩ ce (by omega) cf);obtain⟨t,ht⟩:∃t:Vec,(fun i=>cv i*(stretchV vb m i - ev i))=t:=⟨_,rfl⟩;rw[ht] at ch;have HT:=Hi ht
  have x0:w4.cell? ⟨a,0,none⟩=some (.slice a1 B.length c1):=by
   have h:=a9.o.cell 0
   simpa using h
  have x1:w4.cell? ⟨a,1,none⟩=some (.slice a2 z.length c2):=by
   have h:=a9.o.cell 1
   simpa using h
  have x2:w4.cell? ⟨a,2,none⟩=some (.slice T d.length c3):=by
   have h:=a9.o.cell 2
   simpa using h
  clear fs au bn bo ba cc dy af bp ce cf eb ec ht;go_wp2_with fail;clear x0 x1 x2;go_fit ch.o;rintro e w5 ⟨_,rfl,bb,gt,ts,rfl,_,ed⟩;obtain⟨ci,aw⟩:=Ia ed (H.o.trans (bb.mono H.o.size));obtain⟨ee,bq,br,bc⟩:=Ic (x.o.trans (aw.o.mono x.o.size)) (bm.o.below bb) (cd.o.below bb) (G.o.below aw.o G.o.lt);have cj:=Hi ((L.o.below ee.o).putBy 0 (Nat.zero_le _) (B':=0) (v:=.slice (some ⟨gt,0,none⟩) z.length z.length) ⟨gt,ts,rfl,Nat.zero_le _,ci.o⟩ cg.o.2.2.1 ag.o.1);obtain⟨p,hp⟩:∃p:Vec,Giv.putF z.length (balM vb z.length vh) t=p:=⟨_,rfl⟩;rw[hp] at cj;have HP:=Hi hp;have x0:w5.cell? ⟨a,0,none⟩=some (.slice a1 B.length c1):=by
   have h:=bc.o.cell 0
   simpa using h
  have x1:w5.cell? ⟨a,1,none⟩=some (.slice a2 z.length c2):=by
   have h:=bc.o.cell 1
   simpa using h
  have x2:w5.cell? ⟨a,2,none⟩=some (.slice T d.length c3):=by
   have h:=bc.o.cell 2
   simpa using h
  clear ed bb hp bm cd a9 dv H ch;go_wp2_with fail;clear x0 x1 x2;go_fit cj.o;rintro e w6 ⟨_,rfl,ax,gp,ps,rfl,_,ef⟩;obtain⟨eg,eh,ay⟩:=Ib ef (ci.o.below ax) (aw.o.trans (ax.mono aw.o.size));obtain⟨ah,bt,ei,ck⟩:=Ic (x.o.trans (ay.o.mono x.o.size)) (bq.o.below ax) (br.o.below ax) (G.o.below ay.o G.o.lt);clear ef ax bq br bc ee aw cj ci;have cm:=Qa4 d.length (by omega) w6;obtain⟨MC,cn⟩:=nm (((List.replicate d.length FE.zero).flatMap FE.cells).toArray);rw[cn] at cm;obtain⟨V6,bd⟩:=nm (w6.alloc (.cells MC 107));have cp:Bl w6 V6:=by rw[<-bd];exact(Below.refl _ _).alloc lZ _
  have ej:O (RB V6 w6.heap.size d.length KH (fun _=>0) (List.replicate d.length FE.zero)):=Hi (by rw[<-bd];exact RB.new w6 d.length KH MC cn.symm ag.o.2.2.1);obtain⟨fw,fx⟩:=Ia cp (ck.o.below cp ck.o.lt);have k2:w6.cell? ⟨a,2,none⟩=some (.slice T d.length c3):=by
   have h:=ck.o.cell 2
   simpa using h
  have k3:V6.cell? ⟨a,2,none⟩=some (.slice T d.length c3):=by
   have h:=fx.o.cell 2
   simpa using h
  obtain⟨gh,cq⟩:=nm w6.heap.size;have fy:=Hi cq;rw[cq] at ej cm;rw[bd] at cm;clear cp bd cn cq;go_wp2_with fail;clear k2 k3;go_loopw [60] (fun iv wr=>∃(k:Nat) (us:List FE),k<=d.length/\iv=.int .i64 k/\RB wr gh d.length KH (firstV (holdV vh (agn vs) p) k) us/\Below w6.heap.size w6 wr) (fun iv _=>d.length - (intOf iv).toNat)
  case atStart=>
   refine⟨0,List.replicate d.length FE.zero,by omega,rfl,?_,fw.o⟩;have e:firstV (holdV vh (agn vs) p) 0=fun _=>0:=funext fun i=>by unfold firstV;rw[if_neg (by omega)]
   rw[e];exact ej.o
  case round=>
   obtain⟨k,us,hk,rfl,au,ek⟩:=hrel;obtain⟨em,HB⟩:=Ia au ek;clear au ek;by_cases cr:k<d.length
   .
    obtain⟨h,hh⟩:∃h,d[k]?=some h:=⟨d[k],gE cr⟩;obtain⟨r,hr⟩:∃r,vh[k]?=some r:=⟨vh[k]'(by have:=L.o.fv.lh;omega),gE (by have:=L.o.fv.lh;omega)⟩;obtain⟨j,hj,gy,cs⟩:=(L.o.fv.vh k h r hh hr).ex;have ct:=Hi (ah.o.trans (HB.o.mono ah.o.size));obtain⟨ar,gz,rfl,g0,d0,d1,d2⟩:=(L.o.fr.h.below ct.o).hold hh;rw[hj] at d0;obtain⟨X,hX⟩:=nm (wr.alloc (.cells #[.int .i64 j,.int .i64 h.w,.string h.q] 86));have en:Bl wr X:=by rw[<-hX];exact(Below.refl _ _).alloc lZ _
    have eo:=Uc hX;obtain⟨i0,i1,i2,-⟩:=zc eo.o;rw[<-hX] at i0 i1 i2;have ep:r<N:=by have:=L.o.n;rw[cs];split<;>omega
    have fz:O ((if h.w=1 then 2*(j:Int) else 2*(j:Int)+1)=(r:Int)):=Hi (by rw[cs];split<;>simp);obtain⟨HR,eq,er,M⟩:=Ic hr (Qew j h.w h.q X (by omega)) hX en;have q1:((k:Int)<(d.length:Int)):=by omega
    have q2:((r:Int)<(N:Int)):=by omega
    clear hh hr hj cs hX en;go_wp2_with fail;rw[er.o];clear i0 i1 i2 d0 d1 d2;go_fit eq.o;rintro e w8 ⟨rfl,cu⟩;rw[fz.o];obtain⟨Y8,cw⟩:=nm w8.drew;have es:Bl w8 Y8:=by rw[<-cw];exact(Below.refl _ _).drew
    have cx:Bl wr Y8:=(M.o.trans (cu.mono M.o.size)).trans (es.mono (M.o.trans (cu.mono M.o.size)).size);have be:Bl w6 Y8:=HB.o.trans (cx.mono HB.o.size);obtain⟨ta,et⟩:=bt.o.get ep;obtain⟨tp,eu⟩:=eg.o.get ep;obtain⟨ew,ey,ez,e3,gb,e4,e5⟩:=If et eu (bt.o.below be) (eg.o.below be) (em.o.below cx) be cw;clear cu es cx be et eu cw eq er M eo;go_wp2_with fail;refine RegG.bg 12 (fun j=>some (67+j)) ?_;rw[e5.o];refine RegG.pu (c:=?_) [] (fun w R=>?_) ?_;rotate_left
    .
     intro K C;go_simp;exact C
    refine RegG.pu (c:=?_) [] (fun w R=>?_) ?_;rotate_left
    .
     intro K C;go_simp;exact C
    refine RegG.pu (c:=?_) [] (fun w R=>?_) ?_;rotate_left
    .
     intro K C;go_simp;exact C
    refine RegG.pu (c:=?_) [] (fun w R=>?_) ?_;rotate_left
    .
     intro K C;go_simp;exact C
    refine RegG.pu (c:=?_) [2,3] (fun w R=>?_) ?_;rotate_left
    .
     intro K C;go_simp;exact C
    refine RegG.pu (c:=?_) [4] (fun w R=>?_) ?_;rotate_left
    .
     intro K C;obtain⟨e0,e1,e2⟩:=(ez.o.below R).cells ew.o;go_simp;exact C
    refine RegG.pu (c:=?_) [] (fun w R=>?_) ?_;rotate_left
    .
     intro K C;go_simp;exact C
    refine RegG.pu (c:=?_) [] (fun w R=>?_) ?_;rotate_left
    .
     intro K C;go_simp;exact C
    refine RegG.pu (c:=?_) [6,7] (fun w R=>?_) ?_;rotate_left
    .
     intro K C;go_simp;exact C
    refine RegG.pu (c:=?_) [8] (fun w R=>?_) ?_;rotate_left
    .
     intro K C;obtain⟨e0,e1,e2⟩:=(e3.o.below R).cells ey.o;go_simp;exact C
    refine RegG.ca (φ:=FF (agn vs r - p r) (KA+KQ+1)) [5,9] (FF.stays _ _) (fun w R=>?_) ?_
    .
     intro K C;go_simp;exact Makes.use (FF.minus ((ez.o.below R).fe ew.o) ((e3.o.below R).fe ey.o) ag.o.2.1) C
    refine RegG.pu (c:=?_) [0,1] (fun w R=>?_) ?_;rotate_left
    .
     intro K C;go_simp;exact C
    refine RegG.last (by simp only[List.nil_append,List.cons_append,List.length_append,List.length_cons,List.length_nil,Nat.reduceAdd]) (by rfl) (by rfl) (by kernel_rfl) (fun x4 R=>?_);simp only[FinG,List.nil_append,List.cons_append,Qad,Act.put,List.setIfInBounds_toArray,List.set_cons_zero,List.set_cons_succ,Nat.reduceAdd,Nat.reduceBEq,cond_true,cond_false];intro g4 az K C;rw[<-cg.o.2.2.2] at az;obtain⟨x',y',z',rfl⟩:=az.parts;obtain⟨o1,o2,o3⟩:=az.1.one;have gc:=Qaa prog o1;have gd:=Qaa prog o2;have ge:=Qaa prog o3;have ai:=gb.o.below R;obtain⟨y0,y1,y2,d0,d1,d2,_⟩:=ai.at cr;have f0:=ai.blk.blk.free (k*3);have f1:=ai.blk.blk.free (k*3+1);have f2:=ai.blk.blk.free (k*3+2);have gf:=Hi (ai.set cr az (firstV (holdV vh (agn vs) p) (k+1)) (fun l=>by
     unfold firstV;by_cases e:l=k
     .
      subst e;rw[if_pos (by omega),if_pos rfl];unfold holdV;rw[show vh.getD l 0=r by rw[List.getD_eq_getElem?_getD,HR.o];rfl]
     .
      rw[if_neg e];by_cases e2:l<k
      . rw[if_pos (by omega),if_pos e2]
      . rw[if_neg (by omega),if_neg e2]))
    have gg:=Hi (Only.fresh (e4.o.trans (R.mono e4.o.size)) ((((Only.refl gh x4).setCell (k*3) x').setCell (k*3+1) y').setCell (k*3+2) z') (Nat.le_of_eq fy.o));clear o1 o2 o3 ai az R;go_simp;refine C _ _ ?_;clear C d0 d1 d2 f0 f1 f2 gc gd ge;go_wp2;go_roundw
    case rel=>exact⟨k+1,_,by omega,by go_num,gf.o,gg.o⟩
    case measure=>simp[intOf];omega
   .
    obtain rfl:k=d.length:=by omega
    obtain⟨ct,D⟩:=Ia (ah.o.trans (HB.o.mono ah.o.size)) (eh.o.below HB.o);have cy:=Qls (some ⟨gt,0,none⟩) z.length KP ts wr (L.o.gl.below ct.o) (by have:=D.o.blk.row;rw[D.o.len] at this;exact this) (fun u hu=>by obtain⟨i,hi⟩:=List.getElem?_of_mem hu;exact(D.o.val i u hi).2) (by have:=ag.o;omega) (by rw[D.o.len];omega);rw[D.o.len] at cy;have a0:=Hi cy;clear cy;go_wp2_with fail;go_fit a0.o;rintro e w9 ⟨⟨g2,tb,rfl,⟨e6,gj⟩,e7,e8⟩,cz⟩;have gk:O (TextsOf z.length t tb):=Hi ⟨e6,fun i s hi=>by
     have e9:=(gZ hi).1;obtain⟨u,hu⟩:=D.o.get (k:=i) (by omega);have:=e8 i u s hu hi;rw[(D.o.val i u hu).1] at this
     exact this⟩
    obtain⟨W,c0⟩:=Ia e7 (HB.o.trans (cz.mono HB.o.size));obtain⟨gn,F⟩:=Ia (ah.o.trans (c0.o.mono ah.o.size)) (em.o.below cz);have c4:=Qls (some ⟨gh,0,none⟩) d.length KH us w9 (L.o.gl.below gn.o) (by have:=F.o.blk.row;rw[F.o.len] at this;exact this) (fun u hu=>by obtain⟨i,hi⟩:=List.getElem?_of_mem hu;exact(F.o.val i u hi).2) (by have:=ag.o;omega) (by rw[F.o.len];omega);rw[F.o.len] at c4;have fa:=Hi c4;clear c4 e6 gj e7 e8 cz a0;go_wp2_with fail;go_fit fa.o;rintro e bf ⟨⟨g3,th,rfl,⟨fb,gq⟩,fc,fd⟩,a4⟩;have gr:O (TextsOf d.length (holdV vh (agn vs) p) th):=Hi ⟨fb,fun i s hi=>by
     have e9:=(gZ hi).1;obtain⟨u,hu⟩:=F.o.get (k:=i) (by omega);have:=fd i u s hu hi;rw[(F.o.val i u hu).1] at this;unfold firstV at this;rw[if_pos (by omega)] at this
     exact this⟩
    have c5:=Hi fc;have a5:=Hi (W.o.below a4 W.o.lt);have a6:=Hi (c0.o.trans (a4.mono c0.o.size));obtain⟨Z,hZ⟩:=nm (bf.alloc (.cells #[.slice (some ⟨g2,0,none⟩) z.length z.length,.slice (some ⟨g3,0,none⟩) d.length d.length] 45));have bh:Bl bf Z:=by rw[<-hZ];exact(Below.refl _ _).alloc lZ _
    have bi:=Uc hZ;obtain⟨bu,bw⟩:=Ia (c5.o.below bh c5.o.lt) (a5.o.below bh a5.o.lt);have bj:Bl w6 Z:=a6.o.trans (bh.mono a6.o.size);obtain⟨gw,c6⟩:=Ia bj (ay.o.trans (bj.mono ay.o.size));obtain⟨ff,fg,gs⟩:=Ib (x.o.trans (c6.o.mono x.o.size)) (ei.o.below bj) hZ;obtain⟨z0,z1,-⟩:=zc bi.o
    have gu:O (∀u,Below Z.heap.size Z u->Calls prog 59 #[.slice (some ⟨gm,0,none⟩) N N] u (fun e w'=>(∃(g:Nat) (ss:List S2),e=.returned (.slice (some ⟨g,0,none⟩) B.length B.length)/\ss.length=B.length/\SB w' g 34 (ss.flatMap S2.cells).toArray/\SpotsTold m ss)/\Below u.heap.size u w')):=Hi (fun u hu=>by
     have hr:=(fg.o.below hu).mok;have hn:=L.o.n;have h1:=Qqt (some ⟨gm,0,none⟩) N B.length KM ⟨some ⟨gm,0,none⟩,N,um⟩ u (L.o.gl.below (ff.o.trans (hu.mono ff.o.size))) (by rw[hn];exact hr.1) rfl rfl (by have:=cg.o;have:=ag.o;omega) n1;rw[hn] at h1;refine h1.mono ?_;rintro e w' ⟨⟨g,ss,rfl,hl,d,ht⟩,R⟩;refine⟨⟨g,ss,rfl,hl,d,fun i s hi=>?_⟩,R⟩;have e9:=(gZ hi).1;have:=ht i s hi;rw[hr.2 (2*i) (by omega),hr.2 (2*i+1) (by omega)] at this
     exact this)
    clear fb gq fc fd a4 hZ bh bj fa W a5 c5 D F;go_wp2_with fail;rw[gs.o];obtain⟨S0,gv⟩:=nm bf.heap.size;have fh:a+1+1<S0:=by
     have h1:=Y.o.lt;have h2:=ay.o.size;have h3:=a6.o.size;omega
    have fi:S0≠a+1:=by omega
    have fj:S0≠a+1+1:=by omega
    rw[gv] at z0 z1 bi ⊢;clear fh;have aj:O (Bl Z Z):=Hi bR;go_region_held3 (fun v=>v.cell? ⟨S0,0,none⟩=some (.slice (some ⟨g2,0,none⟩) z.length z.length)/\v.cell? ⟨S0,1,none⟩=some (.slice (some ⟨g3,0,none⟩) d.length d.length)) ((first|(simp [*];done)|(simp only[Qig fi,Qig fj,z0,z1,and_self];done)|go_keep)) (first
     |(
      go_at_call 59;apply cM;apply gu.o;(first|exact aj.o|exact aj.o.drew);rintro e ak ⟨⟨g1,ss,rfl,fk,fl,fm⟩,bx⟩;have ab:O (Bl Z ak):=Hi ((by first|exact aj.o|exact aj.o.drew:Bl Z _).trans (bx.mono (by first|exact aj.o.size|exact aj.o.drew.size)));obtain⟨U,a0⟩:=Ia fl (And.intro fk fm);clear bx z0 z1 fk fl fm;obtain⟨z0,z1,-⟩:=zc (bi.o.below ab.o bi.o.lt);have c7:=Hi (c6.o.trans (ab.o.mono c6.o.size));obtain⟨f,y⟩:=Ia (ae.o.below c7.o ae.o.lt) (Y.o.below c7.o Y.o.lt);obtain⟨y0,-⟩:=zc f.o
      obtain⟨-,y1,y4,-⟩:=zc f.o;obtain⟨y2,y3,-⟩:=zc y.o;have b6:ak.frozen? ⟨a+1,0,none⟩=false:=f.o.free 0;have b7:ak.frozen? ⟨a+1,1,none⟩=false:=f.o.free 1;have b8:ak.frozen? ⟨a+1,2,none⟩=false:=f.o.free 2;have b9:ak.frozen? ⟨a+1+1,0,none⟩=false:=y.o.free 0;have cb:ak.frozen? ⟨a+1+1,1,none⟩=false:=y.o.free 1;have av:=Hi (x.o.trans ((c7.o).mono x.o.size))
      skip)
     |fail)
    clear z0 z1 y0 y1 y2 y3 y4 b6 b7 b9 cb b8;go_wp2;have I:=Qfk (x1:=.slice (some ⟨g1,0,none⟩) B.length B.length) (x2:=.slice (some ⟨g2,0,none⟩) z.length z.length) (x3:=.slice (some ⟨g3,0,none⟩) d.length d.length) (y1:=.int .i64 0) (y2:=.int .i64 0) (by omega:a+1≠a+1+1) f.o y.o;refine bodyPost_ret (Qey rfl _ _ (a+1) (a+1+1) 47 41 #[.slice (some ⟨g1,0,none⟩) B.length B.length,.slice (some ⟨g2,0,none⟩) z.length z.length,.slice (some ⟨g3,0,none⟩) d.length d.length] #[.int .i64 0,.int .i64 0] (0,0) (0,0) _ _ rfl I.1 rfl I.2.1 underlying47 rfl Qfl underlying41 rfl Tryz.faultInfo) rfl ?_
    have J:=((((av.o.setCell (p:=⟨a+1,0,none⟩) A (.slice (some ⟨g1,0,none⟩) B.length B.length)).setCell (p:=⟨a+1,1,none⟩) A (.slice (some ⟨g2,0,none⟩) z.length z.length)).setCell (p:=⟨a+1,2,none⟩) A (.slice (some ⟨g3,0,none⟩) d.length d.length)).setCell (p:=⟨a+1+1,0,none⟩) (Nat.le_succ_of_le A) (.int .i64 0)).setCell (p:=⟨a+1+1,1,none⟩) (Nat.le_succ_of_le A) (.int .i64 0);have s2:=bw.o.below ab.o bw.o.lt;have s3:=bu.o.below ab.o bu.o.lt
    refine⟨.inr (.inr ⟨g1,g2,g3,ss,tb,th,m,t,rfl,a0.o.1,I.2.2 _ _ _ U.o (U.o.unlike f.o (by decide)) (U.o.unlike y.o (by decide)),a0.o.2,I.2.2 _ _ _ s2 (s2.unlike f.o (by decide)) (s2.unlike y.o (by decide)),gk.o,I.2.2 _ _ _ s3 (s3.unlike f.o (by decide)) (s3.unlike y.o (by decide)),by rw[HP.o];exact gr.o,HT.o.symm,by rw[L.o.n];exact dz.o,by rw[L.o.n];exact ea.o,by rw[L.o.n,fu.o];exact ft.o⟩),J⟩
end Go.Proofs.YtkkadnoecklepaaGreatDoor
