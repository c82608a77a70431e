/- Arches: if a line fits, one that touches a Low and, on its right, a High fits (the steepest); strips have a line in common if every three have one (Helly); slacks between two; the reference's way by twos and twos: no Go in it. -/
import Derived.Test.YtldjeecnapgakaaGreatDoorV10Shelf
namespace Go.Proofs.YtldjeecnapgakaaGreatDoor
open Go.Proofs.Tryz
set_option linter.unusedSimpArgs false
set_option linter.unusedVariables false
set_option maxHeartbeats 8000000
set_option maxRecDepth 1000000
def lnAt(at' sh:Nat->Rat)(s m:Rat)(i:Nat):Rat:=s+m*at' i+sh i
def LnFits(n:Nat)(at' lo hi sh:Nat->Rat)(s m:Rat):Prop:=∀i,i<n->lo i<=lnAt at' sh s m i/\lnAt at' sh s m i<=hi i
def Rising(n:Nat)(at':Nat->Rat):Prop:=∀i j,i<j->j<n->at' i<at' j
theorem Rising.of{n:Nat}{at':Nat->Rat}(h:∀i,i+1<n->at' i<at' (i+1)):Rising n at':=by
 intro i j hij hj
 induction j with
 |zero=>omega
 |succ j ih=>
  by_cases e:i=j
  . subst e;exact h i hj
  .
   have h1:=ih (by omega) (by omega);have h2:=h j hj;grind
theorem Qd1{A:Type}(f:A->Rat):∀(l:List A),l≠ []->∃p,p∈ l/\∀q,q∈ l->f p<=f q
 | [],h=>absurd rfl h
 | [a],_=>⟨a,by simp,by intro q hq;simp at hq;subst hq;grind⟩
 |a :: b :: l,_=>by
  obtain⟨p,hp,hm⟩:=Qd1 f (b :: l) (by simp);by_cases e:f a<=f p
  .
   refine⟨a,by simp,?_⟩;intro q hq;rcases List.mem_cons.mp hq with rfl|hq
   . grind
   . have:=hm q hq;grind
  .
   refine⟨p,List.mem_cons_of_mem _ hp,?_⟩;intro q hq;rcases List.mem_cons.mp hq with rfl|hq
   . grind
   . exact hm q hq
theorem Qa2{a b c:Rat}(hc:0<c):a<=b / c↔a*c<=b:=by
 have e:b / c*c=b:=Rat.div_mul_cancel (by grind);constructor
 .
  intro h;have:=Rat.mul_le_mul_of_nonneg_right h (show (0:Rat)<=c by grind);grind
 .
  intro h;rcases Rat.le_total (a:=a) (b:=b / c) with h1|h1
  . exact h1
  .
   have h2:=Rat.mul_le_mul_of_nonneg_right h1 (show (0:Rat)<=c by grind);have h3:a*c=b / c*c:=by grind
   have h4:a=b / c:=by
    have h5:a*c / c=b / c*c / c:=by rw[h3]
    rw[Rat.mul_div_cancel (by grind),Rat.mul_div_cancel (by grind)] at h5;exact h5
   grind
def pairsB(n:Nat):List (Nat × Nat):=((List.range n).flatMap (fun i=>(List.range n).map (fun j=>(i,j)))).filter (fun p=>decide (p.1<p.2))
theorem mem_pairsB{n:Nat}{p:Nat × Nat}:p∈ pairsB n↔p.1<p.2/\p.2<n:=by
 unfold pairsB;simp only[List.mem_filter,List.mem_flatMap,List.mem_map,List.mem_range,decide_eq_true_eq];constructor
 . rintro⟨⟨i,hi,j,hj,rfl⟩,h⟩
   exact⟨h,hj⟩
 . rintro⟨h1,h2⟩
   exact⟨⟨p.1,by omega,p.2,h2,rfl⟩,h1⟩
def thrM(at' sh:Nat->Rat)(p:Nat)(u:Rat)(q:Nat)(v:Rat):Rat:=(v - sh q - (u - sh p)) / (at' q - at' p)
def thr(at' sh:Nat->Rat)(p:Nat)(u:Rat)(q:Nat)(v:Rat)(i:Nat):Rat:=(u - sh p)+thrM at' sh p u q v*(at' i - at' p)+sh i
theorem Qj9{n:Nat}{at' lo hi sh:Nat->Rat}(hn:2<=n)(hr:Rising n at'){s m:Rat}(hf:LnFits n at' lo hi sh s m):
 ∃i j,i<j/\j<n/\∀k,k<n->lo k<=thr at' sh i (lo i) j (hi j) k/\thr at' sh i (lo i) j (hi j) k<=hi k:=by
 obtain⟨⟨i,j⟩,hm,hl⟩:=Qd1 (fun p:Nat × Nat=>thrM at' sh p.1 (lo p.1) p.2 (hi p.2)) (pairsB n) (by
  intro h;have:((0,1):Nat × Nat)∈ pairsB n:=mem_pairsB.mpr ⟨by decide,by show 1<n;omega⟩
  rw[h] at this;cases this)
 obtain⟨hij,hj⟩:=mem_pairsB.mp hm;simp only at hij hj hl;refine⟨i,j,hij,hj,?_⟩;have hM:∃M,M=thrM at' sh i (lo i) j (hi j):=⟨_,rfl⟩;obtain⟨M,eM⟩:=hM;have hpos:∀a b,a<b->b<n->0<at' b - at' a:=fun a b h1 h2=>by have:=hr a b h1 h2;grind
 have hmM:m<=M:=by
  have h1:=hf i (by omega);have h2:=hf j hj;have hp:=hpos i j hij hj;unfold lnAt at h1 h2;rw[eM];unfold thrM;rw[Qa2 hp];grind
 have hall:∀a b,a<n->b<n->M*(at' b - at' a)<=(hi b - sh b) - (lo a - sh a):=by
  intro a b ha hb;rcases Nat.lt_trichotomy a b with h|h|h
  .
   have h1:=hl (a,b) (mem_pairsB.mpr ⟨h,hb⟩);simp only[<-eM] at h1;unfold thrM at h1;have hp:=hpos a b h hb;rw[Qa2 hp] at h1;grind
  .
   subst h;have h1:=hf a ha;grind
  .
   have hp:=hpos b a h ha;have h1:=hf a ha;have h2:=hf b hb;unfold lnAt at h1 h2;have h3:m*(at' a - at' b)<=M*(at' a - at' b):=Rat.mul_le_mul_of_nonneg_right hmM (by grind);grind
 have hpj:=hpos i j hij hj;have eR:M*(at' j - at' i)=(hi j - sh j) - (lo i - sh i):=by
  rw[eM];unfold thrM;rw[Rat.div_mul_cancel (by grind)];
 intro k hk;have h1:=hall k j hk hj;have h2:=hall i k (by omega) hk;unfold thr;rw[<-eM];constructor<;>grind
def slo(w:Nat->Rat)(h:Rat):Nat->Rat
 |0=>0
 |1=>0
 |i+2=>slo w h (i+1) - h*w (i+1)
def shp(at' w:Nat->Rat)(h:Rat):Nat->Rat
 |0=>0
 |1=>0
 |i+2=>shp at' w h (i+1)+slo w h (i+2)*(at' (i+2) - at' (i+1))
theorem Qft(w:Nat->Rat)(a b k:Rat):∀i,slo w (a+k*(b - a)) i=slo w a i+k*(slo w b i - slo w a i)
 |0=>by simp only[slo];grind
 |1=>by simp only[slo];grind
 |i+2=>by
  simp only[slo];rw[Qft w a b k (i+1)];grind
theorem Qfu(at' w:Nat->Rat)(a b k:Rat):∀i,shp at' w (a+k*(b - a)) i=shp at' w a i+k*(shp at' w b i - shp at' w a i)
 |0=>by simp only[shp];grind
 |1=>by simp only[shp];grind
 |i+2=>by
  simp only[shp];rw[Qfu at' w a b k (i+1),Qft];grind
theorem helly{n:Nat}{x L H:Nat->Rat}(hn:2<=n)(hr:Rising n x)(hLH:∀i,i<n->L i<=H i)
 (h1:∀i j k,i<j->j<k->k<n->L j*(x k - x i)<=H i*(x k - x j)+H k*(x j - x i))
 (h2:∀i j k,i<j->j<k->k<n->L i*(x k - x j)+L k*(x j - x i)<=H j*(x k - x i)):
 ∃s m,∀i,i<n->L i<=s+m*x i/\s+m*x i<=H i:=by
 have hpos:∀a b,a<b->b<n->0<x b - x a:=fun a b h1 h2=>by have:=hr a b h1 h2;grind
 obtain⟨⟨a,b⟩,hm,hl⟩:=Qd1 (fun p:Nat × Nat=>(H p.2 - L p.1) / (x p.2 - x p.1)) (pairsB n) (by
  intro h;have:((0,1):Nat × Nat)∈ pairsB n:=mem_pairsB.mpr ⟨by decide,by show 1<n;omega⟩
  rw[h] at this;cases this)
 obtain⟨hab,hb⟩:=mem_pairsB.mp hm;simp only at hab hb hl;have hM:∃M,M=(H b - L a) / (x b - x a):=⟨_,rfl⟩;obtain⟨M,eM⟩:=hM;have hpab:=hpos a b hab hb;have eR:M*(x b - x a)=H b - L a:=by
  rw[eM,Rat.div_mul_cancel (by grind)]
 have hlow:∀c d,c<d->d<n->L d - H c<=M*(x d - x c):=by
  intro c d hcd hd;have hpcd:=hpos c d hcd hd;rcases Rat.le_total (a:=L d - H c) (b:=M*(x d - x c)) with h|h
  . exact h
  rcases Decidable.em (L d - H c=M*(x d - x c)) with he|he
  . grind
  exfalso
  have hN:∃N,N=(L d - H c) / (x d - x c):=⟨_,rfl⟩;obtain⟨N,eN⟩:=hN;have eN':N*(x d - x c)=L d - H c:=by
   rw[eN,Rat.div_mul_cancel (by grind)]
  have hNM:M<N:=by
   rcases Rat.le_total (a:=M) (b:=N) with h3|h3
   .
    rcases Decidable.em (M=N) with h4|h4
    . subst h4;exact absurd eN'.symm he
    . grind
   . have h4:=Rat.mul_le_mul_of_nonneg_right h3 (show (0:Rat)<=x d - x c by grind)
     grind
  have gup:∀y z:Rat,y<z->H c+N*(y - x c) - (L a+M*(y - x a))<H c+N*(z - x c) - (L a+M*(z - x a)):=by
   intro y z hyz;have h5:0<(N - M)*(z - y):=Rat.mul_pos (by grind) (by grind);grind
  have cancel:∀u v:Rat,0<u->0<=u*v->0<=v:=by
   intro u v hu h;rcases Rat.le_total (a:=0) (b:=v) with h6|h6
   . exact h6
   .
    have h7:=Rat.mul_le_mul_of_nonneg_left h6 (show (0:Rat)<=u by grind);have h8:u*v=0:=by grind
    rcases Rat.mul_eq_zero.mp h8 with h9|h9<;>grind
  have hleft:∃p,p<=a/\p<=c/\0<=H c+N*(x p - x c) - (L a+M*(x p - x a)):=by
   rcases Nat.lt_trichotomy a c with h5|h5|h5
   .
    refine⟨a,Nat.le_refl _,by omega,?_⟩;have h6:=h2 a c d h5 hcd hd;have h7:0<=(x d - x c)*(H c+N*(x a - x c) - L a):=by
     have e:(x d - x c)*(H c+N*(x a - x c) - L a)=(x d - x c)*H c+(N*(x d - x c))*(x a - x c) - (x d - x c)*L a:=by grind
     rw[e,eN'];grind
    have h8:=cancel _ _ hpcd h7;grind
   .
    subst h5;refine⟨a,Nat.le_refl _,Nat.le_refl _,?_⟩;have:=hLH a (by omega);grind
   .
    refine⟨c,by omega,Nat.le_refl _,?_⟩;have h6:=h1 c a b h5 hab hb;have h7:0<=(x b - x a)*(H c - L a - M*(x c - x a)):=by
     have e:(x b - x a)*(H c - L a - M*(x c - x a))=(x b - x a)*(H c - L a) - (M*(x b - x a))*(x c - x a):=by grind
     rw[e,eR];grind
    have h8:=cancel _ _ hpab h7;grind
  have hright:∃p,p<n/\b<=p/\d<=p/\H c+N*(x p - x c) - (L a+M*(x p - x a))<=0:=by
   rcases Nat.lt_trichotomy b d with h5|h5|h5
   .
    refine⟨d,hd,by omega,Nat.le_refl _,?_⟩;have h6:=h2 a b d hab h5 hd;have h7:0<=(x b - x a)*(L a+M*(x d - x a) - L d):=by
     have e:(x b - x a)*(L a+M*(x d - x a) - L d)=(x b - x a)*(L a - L d)+(M*(x b - x a))*(x d - x a):=by grind
     rw[e,eR];grind
    have h8:=cancel _ _ hpab h7;grind
   .
    subst h5;refine⟨b,hb,Nat.le_refl _,Nat.le_refl _,?_⟩;have:=hLH b hb;grind
   .
    refine⟨b,hb,Nat.le_refl _,by omega,?_⟩;have h6:=h1 c d b hcd h5 hb;have h7:0<=(x d - x c)*(H b - H c - N*(x b - x c)):=by
     have e:(x d - x c)*(H b - H c - N*(x b - x c))=(x d - x c)*(H b - H c) - (N*(x d - x c))*(x b - x c):=by grind
     rw[e,eN'];grind
    have h8:=cancel _ _ hpcd h7;grind
  obtain⟨p,hpa,hpc,hp⟩:=hleft;obtain⟨q,hqn,hqb,hqd,hq⟩:=hright;have:=gup (x p) (x q) (hr p q (by omega) hqn);grind
 have hall:∀i j,i<n->j<n->M*(x j - x i)<=H j - L i:=by
  intro i j hi hj;rcases Nat.lt_trichotomy i j with h|h|h
  .
   have h5:=hl (i,j) (mem_pairsB.mpr ⟨h,hj⟩);simp only[<-eM] at h5;rw[Qa2 (hpos i j h hj)] at h5;exact h5
  .
   subst h;have h5:=hLH i hi;grind
  . have h5:=hlow j i h hi
    grind
 refine⟨L a - M*x a,M,?_⟩;intro k hk;have h5:=hall k b hk hb;have h6:=hall a k (by omega) hk;constructor<;>grind
theorem Qka{n:Nat}{x L H:Nat->Rat}(hr:Rising n x){s m:Rat}(hf:∀i,i<n->L i<=s+m*x i/\s+m*x i<=H i):
 ∀i j k,i<j->j<k->k<n->L j*(x k - x i)<=H i*(x k - x j)+H k*(x j - x i)/\L i*(x k - x j)+L k*(x j - x i)<=H j*(x k - x i):=by
 intro i j k hij hjk hk;have a1:=hf i (by omega);have a2:=hf j (by omega);have a3:=hf k hk;have p1:=hr i j hij (by omega);have p2:=hr j k hjk hk;have e1:0<=x k - x j:=by grind
 have e2:0<=x j - x i:=by grind
 have e3:0<=x k - x i:=by grind
 have b1:=Rat.mul_le_mul_of_nonneg_right a2.1 e3;have b2:=Rat.mul_le_mul_of_nonneg_right a2.2 e3;have b3:=Rat.mul_le_mul_of_nonneg_right a1.1 e1;have b4:=Rat.mul_le_mul_of_nonneg_right a1.2 e1;have b5:=Rat.mul_le_mul_of_nonneg_right a3.1 e2;have b6:=Rat.mul_le_mul_of_nonneg_right a3.2 e2;constructor<;>grind
theorem Qkb{n:Nat}{x L H:Nat->Rat}(hn:2<=n)(hr:Rising n x)(hLH:∀i,i<n->L i<=H i):
 (∃s m,∀i,i<n->L i<=s+m*x i/\s+m*x i<=H i)↔
 ∀c d a b,c<d->d<n->a<b->b<n->(L d - H c) / (x d - x c)<=(H b - L a) / (x b - x a):=by
 have hpos:∀a b,a<b->b<n->0<x b - x a:=fun a b h1 h2=>by have:=hr a b h1 h2;grind
 constructor
 .
  rintro⟨s,m,hf⟩ c d a b hcd hd hab hb;have p1:=hpos c d hcd hd;have p2:=hpos a b hab hb;have f1:=hf c (by omega);have f2:=hf d hd;have f3:=hf a (by omega);have f4:=hf b hb;have u:m<=(H b - L a) / (x b - x a):=by rw[Qa2 p2];grind
  have v:(L d - H c) / (x d - x c)<=m:=by
   have e:(L d - H c) / (x d - x c)*(x d - x c)=L d - H c:=Rat.div_mul_cancel (by grind);rcases Rat.le_total (a:=(L d - H c) / (x d - x c)) (b:=m) with h|h
   . exact h
   .
    have h3:=(Qa2 p1).mp h;have h4:m*(x d - x c)=(L d - H c) / (x d - x c)*(x d - x c):=by grind
    rcases Decidable.em (m=(L d - H c) / (x d - x c)) with h5|h5
    . grind
    .
     exfalso
     have h6:0<((L d - H c) / (x d - x c) - m)*(x d - x c):=Rat.mul_pos (by grind) p1;grind
  grind
 .
  intro hall;apply helly hn hr hLH
  .
   intro i j k hij hjk hk;have p1:=hpos i j hij (by omega);have p2:=hpos j k hjk hk;have h:=hall i j j k hij (by omega) hjk hk;rw[Qa2 p2] at h;have e:(L j - H i) / (x j - x i)*(x j - x i)=L j - H i:=Rat.div_mul_cancel (by grind);have h3:=Rat.mul_le_mul_of_nonneg_right h (show (0:Rat)<=x j - x i by grind);have e2:(L j - H i) / (x j - x i)*(x k - x j)*(x j - x i)=(L j - H i)*(x k - x j):=by
    rw[Rat.mul_assoc,Rat.mul_comm (x k - x j),<-Rat.mul_assoc,e]
   rw[e2] at h3;clear e e2 h hall;grind
  .
   intro i j k hij hjk hk;have p1:=hpos i j hij (by omega);have p2:=hpos j k hjk hk;have h:=hall j k i j hjk hk hij (by omega);rw[Qa2 p1] at h;have e:(L k - H j) / (x k - x j)*(x k - x j)=L k - H j:=Rat.div_mul_cancel (by grind);have h3:=Rat.mul_le_mul_of_nonneg_right h (show (0:Rat)<=x k - x j by grind);have e2:(L k - H j) / (x k - x j)*(x j - x i)*(x k - x j)=(L k - H j)*(x j - x i):=by
    rw[Rat.mul_assoc,Rat.mul_comm (x j - x i),<-Rat.mul_assoc,e]
   rw[e2] at h3;clear e e2 h hall;grind
def InR(least:Rat)(most:Option Rat)(h:Rat):Prop:=least<=h/\∀m,most=some m->h<=m
theorem InR.uniq{a b:Rat}{p q:Option Rat}(hs:∀h,InR a p h↔InR b q h)(ha:InR a p a):a=b/\p=q:=by
 have h1:=(hs a).mp ha;have hb:InR b q b:=⟨by grind,fun m hm=>by have:=h1.2 m hm;have:=h1.1;grind⟩;have h2:=(hs b).mpr hb;have e:a=b:=by have:=h1.1;have:=h2.1;grind
 refine⟨e,?_⟩;subst e;cases p with
 |none=>
  cases q with
  |none=>rfl
  |some m=>
   exfalso
   have hm:a<=m:=hb.2 m rfl;have h3:=(hs (m+1)).mp ⟨by grind,fun _ h=>by cases h⟩;have:=h3.2 m rfl;grind
 |some m=>
  cases q with
  |none=>
   exfalso
   have hm:a<=m:=ha.2 m rfl;have h3:=(hs (m+1)).mpr ⟨by grind,fun _ h=>by cases h⟩;have:=h3.2 m rfl;grind
  |some k=>
   have hm:a<=m:=ha.2 m rfl;have hk:a<=k:=hb.2 k rfl;have h3:=(hs m).mp ⟨hm,fun _ h=>by cases h;grind⟩;have h4:=(hs k).mpr ⟨hk,fun _ h=>by cases h;grind⟩;have:=h3.2 k rfl;have:=h4.2 m rfl
   congr 1;grind
theorem Qfv{a b c:Rat}(hc:0<c):b / c<=a↔b<=a*c:=by
 have e:b / c*c=b:=Rat.div_mul_cancel (by grind);constructor
 .
  intro h;have:=Rat.mul_le_mul_of_nonneg_right h (show (0:Rat)<=c by grind);rw[e] at this;exact this
 .
  intro h;rcases Rat.le_total (a:=b / c) (b:=a) with h1|h1
  . exact h1
  .
   have h2:=(Qa2 hc).mp h1;have h3:a*c=b / c*c:=by rw[e];grind
   have h4:a=b / c:=by
    have h5:a*c / c=b / c*c / c:=by rw[h3]
    rw[Rat.mul_div_cancel (by grind),Rat.mul_div_cancel (by grind)] at h5;exact h5
   rw[<-h4];grind
def cutM(most:Option Rat)(x:Rat):Option Rat:=match most with
 |none=>some x
 |some m=>if x<m then some x else some m
def cutL(least x:Rat):Rat:=if least<x then x else least
theorem Qfw(least:Rat)(most:Option Rat)(x h:Rat):InR least (cutM most x) h↔InR least most h/\h<=x:=by
 unfold InR cutM;cases most with
 |none=>
  simp only[Option.some.injEq,reduceCtorEq,false_implies,implies_true,and_true];constructor
  . rintro⟨h1,h2⟩;exact⟨h1,h2 x rfl⟩
  . rintro⟨h1,h2⟩;exact⟨h1,fun m hm=>by subst hm;exact h2⟩
 |some k=>
  by_cases e:x<k
  .
   simp only[if_pos e,Option.some.injEq];constructor
   . rintro⟨h1,h2⟩;have:=h2 x rfl;exact⟨⟨h1,fun m hm=>by subst hm;grind⟩,this⟩
   . rintro⟨⟨h1,h2⟩,h3⟩;exact⟨h1,fun m hm=>by subst hm;exact h3⟩
  .
   simp only[if_neg e,Option.some.injEq];constructor
   . rintro⟨h1,h2⟩;have:=h2 k rfl;exact⟨⟨h1,fun m hm=>by subst hm;grind⟩,by grind⟩
   . rintro⟨⟨h1,h2⟩,h3⟩;exact⟨h1,fun m hm=>h2 m hm⟩
theorem Qfx(least:Rat)(most:Option Rat)(x h:Rat):InR (cutL least x) most h↔InR least most h/\x<=h:=by
 unfold InR cutL;by_cases e:least<x
 .
  rw[if_pos e];constructor
  . rintro⟨h1,h2⟩;exact⟨⟨by grind,h2⟩,h1⟩
  . rintro⟨⟨h1,h2⟩,h3⟩;exact⟨h3,h2⟩
 .
  rw[if_neg e];constructor
  . rintro⟨h1,h2⟩;exact⟨⟨h1,h2⟩,by grind⟩
  . rintro⟨⟨h1,h2⟩,h3⟩;exact⟨h1,h2⟩
theorem Qkc{least:Rat}{most:Option Rat}{need room by':Rat}(hb:0<by')(h:Rat):
 InR (cutL least (need / by')) (cutM most (room / by')) h↔InR least most h/\need<=h*by'/\h*by'<=room:=by
 rw[Qfx,Qfw,Qa2 hb,Qfv hb];constructor
 . rintro⟨⟨h1,h2⟩,h3⟩;exact⟨h1,h3,h2⟩
 . rintro⟨h1,h2,h3⟩;exact⟨⟨h1,h3⟩,h2⟩
theorem Qfy{need room:Rat}(h:Rat):(need<=h*0/\h*0<=room)↔(need<=0/\0<=room):=by
 rw[Rat.mul_zero]
theorem Qbl(at' w:Nat->Rat)(h:Rat):∀i,shp at' w h (i+1)=shp at' w h i+slo w h (i+1)*(at' (i+1) - at' i)
 |0=>by simp only[shp,slo];grind
 |i+1=>rfl
theorem Qfz{w:Nat->Rat}{h:Rat}(h0:0<=h){n:Nat}(hw:∀i,i<n->0<=w i):∀i j,i<=j->j<=n->slo w h j<=slo w h i:=by
 have one:∀i,i+1<=n->slo w h (i+1)<=slo w h i:=by
  intro i hi;cases i with
  |zero=>simp only[slo];grind
  |succ i=>
   simp only[slo];have:=Rat.mul_nonneg h0 (hw (i+1) (by omega));grind
 intro i j hij hj
 induction j with
 |zero=>have:i=0:=by omega
        subst this;grind
 |succ j ih=>
  by_cases e:i=j+1
  . subst e;grind
  .
   have:=ih (by omega) (by omega);have:=one j hj;grind
theorem Qkd{n:Nat}{at' w:Nat->Rat}{h:Rat}(hr:Rising n at')(h0:0<=h)(hw:∀i,i<n->0<=w i):
 ∀i j,i<=j->j<n->slo w h j*(at' j - at' i)<=shp at' w h j - shp at' w h i:=by
 intro i j hij hj
 induction j with
 |zero=>have:i=0:=by omega
        subst this;grind
 |succ j ih=>
  by_cases e:i=j+1
  . subst e;grind
  .
   have h1:=ih (by omega) (by omega);rw[Qbl];have h2:=Qfz (w:=w) h0 hw j (j+1) (by omega) (by omega);have h3:0<=at' j - at' i:=by
    by_cases e2:i=j
    . subst e2;grind
    . have:=hr i j (by omega) (by omega);grind
   have h4:=Rat.mul_le_mul_of_nonneg_right h2 h3;grind
theorem Qke{n:Nat}{at' w:Nat->Rat}{h:Rat}(hr:Rising n at')(h0:0<=h)(hw:∀i,i<n->0<=w i):
 ∀i j,i<=j->j<n->shp at' w h j - shp at' w h i<=slo w h i*(at' j - at' i):=by
 intro i j hij hj
 induction j with
 |zero=>have:i=0:=by omega
        subst this;grind
 |succ j ih=>
  by_cases e:i=j+1
  . subst e;grind
  .
   have h1:=ih (by omega) (by omega);rw[Qbl];have h2:=Qfz (w:=w) h0 hw i (j+1) (by omega) (by omega);have h3:0<=at' (j+1) - at' j:=by
    have:=hr j (j+1) (by omega) hj;grind
   have h4:=Rat.mul_le_mul_of_nonneg_right h2 h3;grind
def abv(x m o:Nat->Rat)(i j k:Nat):Rat:=m j*((x j - x i)+(x k - x j)) - o i*(x k - x j) - o k*(x j - x i)
theorem Qkf{n:Nat}{at' w:Nat->Rat}{h:Rat}(hr:Rising n at')(h0:0<=h)(hw:∀i,i<n->0<=w i)
 {i j k:Nat} (hij:i<j) (hjk:j<k) (hk:k<n):0<=abv at' (shp at' w h) (shp at' w h) i j k:=by
 have a1:=Qkd hr h0 hw i j (by omega) (by omega);have a2:=Qke hr h0 hw j k (by omega) hk;have p1:=hr i j hij (by omega);have p2:=hr j k hjk hk;have b1:=Rat.mul_le_mul_of_nonneg_right a1 (show 0<=at' k - at' j by grind);have b2:=Rat.mul_le_mul_of_nonneg_right a2 (show 0<=at' j - at' i by grind);unfold abv;grind
theorem Qbm(at' w:Nat->Rat)(h:Rat)(i:Nat):shp at' w h i=h*shp at' w 1 i:=by
 have h1:=Qfu at' w 0 1 h i;have h2:∀i,slo w 0 i=0:=by
  intro i
  induction i with
  |zero=>rfl
  |succ i ih=>
   cases i with
   |zero=>rfl
   |succ i=>simp only[slo];rw[ih];grind
 have h3:∀i,shp at' w 0 i=0:=by
  intro i
  induction i with
  |zero=>rfl
  |succ i ih=>rw[Qbl,ih,h2];grind
 rw[h3] at h1;have e:(0:Rat)+h*(1 - 0)=h:=by grind
 rw[e] at h1;rw[h1];grind
theorem Qf0{n:Nat}{at' lo hi w:Nat->Rat}{h:Rat}(hn:2<=n)(hr:Rising n at')(hLH:∀i,i<n->lo i<=hi i):
 (∃s m,LnFits n at' lo hi (shp at' w h) s m)↔
 ∀i j k,i<j->j<k->k<n->abv at' lo hi i j k<=h*abv at' (shp at' w 1) (shp at' w 1) i j k/\h*abv at' (shp at' w 1) (shp at' w 1) i j k<=abv at' hi lo i j k:=by
 have key:∀i j k,h*abv at' (shp at' w 1) (shp at' w 1) i j k=abv at' (shp at' w h) (shp at' w h) i j k:=by
  intro i j k;unfold abv;rw[Qbm at' w h i,Qbm at' w h j,Qbm at' w h k];grind
 constructor
 .
  rintro⟨s,m,hf⟩ i j k hij hjk hk;have:=Qka (n:=n) (x:=at') (L:=fun i=>lo i - shp at' w h i) (H:=fun i=>hi i - shp at' w h i) hr (s:=s) (m:=m)
   (fun i hi'=>by have:=hf i hi';unfold lnAt at this;constructor<;>grind) i j k hij hjk hk
  rw[key];unfold abv;constructor<;>grind
 .
  intro hall;obtain⟨s,m,hf⟩:=helly (n:=n) (x:=at') (L:=fun i=>lo i - shp at' w h i) (H:=fun i=>hi i - shp at' w h i) hn hr
   (fun i hi'=>by have:=hLH i hi';grind)
   (fun i j k hij hjk hk=>by
     have:=hall i j k hij hjk hk;rw[key] at this;unfold abv at this
     grind)
   (fun i j k hij hjk hk=>by
     have:=hall i j k hij hjk hk;rw[key] at this;unfold abv at this
     grind)
  exact⟨s,m,fun i hi'=>by have:=hf i hi';unfold lnAt;constructor<;>grind⟩
def falTo(at' w:Nat->Rat)(i:Nat):Nat->Rat
 |0=>0
 |k+1=>falTo at' w i k+w (k+1)*(at' i - at' (k+1))
theorem Qf1(at' w:Nat->Rat)(i j:Nat):∀k,falTo at' w j k=falTo at' w i k - slo w 1 (k+1)*(at' j - at' i)
 |0=>by simp only[falTo,slo];grind
 |k+1=>by
  simp only[falTo,slo];rw[Qf1 at' w i j k];grind
theorem Qce(at' w:Nat->Rat):∀i,shp at' w 1 i= - falTo at' w i (i - 1)
 |0=>by show (0:Rat)= -(0:Rat);grind
 |1=>by show (0:Rat)= -(0:Rat);grind
 |i+2=>by
  have h1:=Qce at' w (i+1);simp only[Nat.add_sub_cancel] at h1
  show shp at' w 1 (i+1+1)= - falTo at' w (i+2) (i+1)
  rw[Qbl,h1];simp only[falTo];rw[Qf1 at' w (i+1) (i+2) i];simp only[slo];grind
theorem Qkg{n:Nat}{at' lo hi w:Nat->Rat}{h:Rat}(hn:2<=n)(hr:Rising n at')(hLH:∀i,i<n->lo i<=hi i):
 (∃s m,LnFits n at' lo hi (shp at' w h) s m)↔
 ∀c d a b,c<d->d<n->a<b->b<n->
  h*((falTo at' w d (d - 1) - falTo at' w c (c - 1)) / (at' d - at' c) - (falTo at' w b (b - 1) - falTo at' w a (a - 1)) / (at' b - at' a))<=
  (hi b - lo a) / (at' b - at' a) - (lo d - hi c) / (at' d - at' c):=by
 have e:=Qkb (n:=n) (x:=at') (L:=fun i=>lo i - shp at' w h i) (H:=fun i=>hi i - shp at' w h i) hn hr
  (fun i hi'=>by have:=hLH i hi';grind)
 have e1:(∃s m,LnFits n at' lo hi (shp at' w h) s m)↔(∃s m,∀i,i<n->lo i - shp at' w h i<=s+m*at' i/\s+m*at' i<=hi i - shp at' w h i):=by
  constructor
  . rintro⟨s,m,hf⟩;exact⟨s,m,fun i hi'=>by have:=hf i hi';unfold lnAt at this;constructor<;>grind⟩
  . rintro⟨s,m,hf⟩;exact⟨s,m,fun i hi'=>by have:=hf i hi';unfold lnAt;constructor<;>grind⟩
 rw[e1,e];have key:∀c d a b,((lo d - shp at' w h d) - (hi c - shp at' w h c)) / (at' d - at' c)<=((hi b - shp at' w h b) - (lo a - shp at' w h a)) / (at' b - at' a)↔
  h*((falTo at' w d (d - 1) - falTo at' w c (c - 1)) / (at' d - at' c) - (falTo at' w b (b - 1) - falTo at' w a (a - 1)) / (at' b - at' a))<=
  (hi b - lo a) / (at' b - at' a) - (lo d - hi c) / (at' d - at' c):=by
  intro c d a b;rw[Qbm at' w h a,Qbm at' w h b,Qbm at' w h c,Qbm at' w h d,Qce,Qce,Qce,Qce];simp only[Rat.div_def];constructor<;>intro h1<;>grind
 constructor
 . intro hall c d a b h1 h2 h3 h4;exact(key c d a b).mp (hall c d a b h1 h2 h3 h4)
 . intro hall c d a b h1 h2 h3 h4;exact(key c d a b).mpr (hall c d a b h1 h2 h3 h4)
theorem Qkh{n:Nat}{at' w y:Nat->Rat}{h:Rat}(hr:Rising n at')(h2:2<=n)
 (hs:∀i,i+2<n->(y (i+1) - y i) / (at' (i+1) - at' i) - (y (i+2) - y (i+1)) / (at' (i+2) - at' (i+1))=h*w (i+1)):
 ∃s m,∀i,i<n->y i=lnAt at' (shp at' w h) s m i:=by
 have hm:∃m,m=(y 1 - y 0) / (at' 1 - at' 0):=⟨_,rfl⟩;obtain⟨m,em⟩:=hm;have sl:∀i,i+1<n->(y (i+1) - y i) / (at' (i+1) - at' i)=m+slo w h (i+1):=by
  intro i
  induction i with
  |zero=>intro _;simp only[slo];rw[em];grind
  |succ i ih=>
   intro hi;have h3:=ih (by omega);have h4:=hs i hi
   show (y (i+2) - y (i+1)) / (at' (i+2) - at' (i+1))=m+slo w h (i+2)
   simp only[slo];rw[h3] at h4;grind
 refine⟨y 0 - m*at' 0,m,?_⟩;intro i
 induction i with
 |zero=>intro _;unfold lnAt;simp only[shp];grind
 |succ i ih=>
  intro hi;have h3:=ih (by omega);have h4:=sl i hi;have hp:=hr i (i+1) (by omega) hi;have h5:y (i+1) - y i=(m+slo w h (i+1))*(at' (i+1) - at' i):=by
   rw[<-h4,Rat.div_mul_cancel (by grind)]
  unfold lnAt at h3 ⊢;rw[Qbl];grind
theorem Qki{n:Nat}{at' w y:Nat->Rat}{h s m:Rat}(hr:Rising n at')
 (hy:∀i,i<n->y i=lnAt at' (shp at' w h) s m i):
 ∀i,i+2<n->(y (i+1) - y i) / (at' (i+1) - at' i) - (y (i+2) - y (i+1)) / (at' (i+2) - at' (i+1))=h*w (i+1):=by
 have sl:∀i,i+1<n->(y (i+1) - y i) / (at' (i+1) - at' i)=m+slo w h (i+1):=by
  intro i hi;have hp:=hr i (i+1) (by omega) hi;have h5:y (i+1) - y i=(m+slo w h (i+1))*(at' (i+1) - at' i):=by
   rw[hy i (by omega),hy (i+1) hi];unfold lnAt;rw[Qbl];grind
  rw[h5,Rat.mul_div_cancel (by grind)]
 intro i hi;have a:=sl i (by omega);have b:=sl (i+1) hi;rw[a];have b':(y (i+2) - y (i+1)) / (at' (i+2) - at' (i+1))=m+slo w h (i+2):=b;rw[b'];simp only[slo];grind
end Go.Proofs.YtldjeecnapgakaaGreatDoor
