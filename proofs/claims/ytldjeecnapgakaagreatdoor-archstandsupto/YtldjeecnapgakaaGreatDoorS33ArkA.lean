/- package arch: Check. -/
import Derived.Test.YtldjeecnapgakaaGreatDoorS29RegI
import Derived.Test.YtldjeecnapgakaaGreatDoorS32FracD
namespace Go.Proofs.YtldjeecnapgakaaGreatDoor
set_option linter.unusedVariables false
def lnAt(at' sh:Nat→Rat)(s m:Rat)(i:Nat):Rat:=s+m*at' i+sh i
def LnFits(n:Nat)(at' lo hi sh:Nat→Rat)(s m:Rat):Prop:=∀i,i<n→lo i≤lnAt at' sh s m i∧lnAt at' sh s m i≤hi i
def Rising(n:Nat)(at':Nat→Rat):Prop:=∀i j,i<j→j<n→at' i<at' j
theorem Rising.of{n:Nat}{at':Nat→Rat}(h:∀i,i+1<n→at' i<at' (i+1)):Rising n at':=by
 intro i j hij hj
 induction j with
 |zero=>omega
 |succ j ih=>
  by_cases e:i=j
  · subst e;exact h i hj
  ·
   have h1:=ih (by omega) (by omega);have h2:=h j hj;grind
theorem Qds{A:Type}(f:A→Rat):∀(l:List A),l≠ []→∃p,p∈ l∧∀q,q∈ l→f p≤f q
 | [],h=>absurd rfl h
 | [a],_=>⟨a,by simp,by intro q hq;simp at hq;subst hq;grind⟩
 |a :: b :: l,_=>by
  obtain⟨p,hp,hm⟩:=Qds f (b :: l) (by simp);by_cases e:f a≤f p
  ·
   refine⟨a,by simp,?_⟩;intro q hq;rcases List.mem_cons.mp hq with rfl|hq
   · grind
   · have:=hm q hq;grind
  ·
   refine⟨p,List.mem_cons_of_mem _ hp,?_⟩;intro q hq;rcases List.mem_cons.mp hq with rfl|hq
   · grind
   · exact hm q hq
theorem Qb3{a b c:Rat}(hc:0<c):a≤b / c↔a*c≤b:=by
 have e:b / c*c=b:=Rat.div_mul_cancel (by grind);constructor
 ·
  intro h;have:=Rat.mul_le_mul_of_nonneg_right h (show (0:Rat)≤c by grind);grind
 ·
  intro h;rcases Rat.le_total (a:=a) (b:=b / c) with h1|h1
  · exact h1
  ·
   have h2:=Rat.mul_le_mul_of_nonneg_right h1 (show (0:Rat)≤c by grind);have h3:a*c=b / c*c:=by grind
   have h4:a=b / c:=by
    have h5:a*c / c=b / c*c / c:=by rw[h3]
    rw[Rat.mul_div_cancel (by grind),Rat.mul_div_cancel (by grind)] at h5;exact h5
   grind
def pairsB(n:Nat):List (Nat × Nat):=((List.range n).flatMap (fun i=>(List.range n).map (fun j=>(i,j)))).filter (fun p=>decide (p.1<p.2))
theorem mem_pairsB{n:Nat}{p:Nat × Nat}:p∈ pairsB n↔p.1<p.2∧p.2<n:=by
 unfold pairsB;simp only[List.mem_filter,List.mem_flatMap,List.mem_map,List.mem_range,decide_eq_true_eq];constructor
 · rintro⟨⟨i,hi,j,hj,rfl⟩,h⟩
   exact⟨h,hj⟩
 · rintro⟨h1,h2⟩
   exact⟨⟨p.1,by omega,p.2,h2,rfl⟩,h1⟩
def thrM(at' sh:Nat→Rat)(p:Nat)(u:Rat)(q:Nat)(v:Rat):Rat:=(v - sh q - (u - sh p)) / (at' q - at' p)
def thr(at' sh:Nat→Rat)(p:Nat)(u:Rat)(q:Nat)(v:Rat)(i:Nat):Rat:=(u - sh p)+thrM at' sh p u q v*(at' i - at' p)+sh i
theorem Qje{n:Nat}{at' lo hi sh:Nat→Rat}(hn:2≤n)(hr:Rising n at'){s m:Rat}(hf:LnFits n at' lo hi sh s m):
 ∃i j,i<j∧j<n∧∀k,k<n→lo k≤thr at' sh i (lo i) j (hi j) k∧thr at' sh i (lo i) j (hi j) k≤hi k:=by
 obtain⟨⟨i,j⟩,hm,hl⟩:=Qds (fun p:Nat × Nat=>thrM at' sh p.1 (lo p.1) p.2 (hi p.2)) (pairsB n) (by
  intro h;have:((0,1):Nat × Nat)∈ pairsB n:=mem_pairsB.mpr ⟨by decide,by show 1<n;omega⟩
  rw[h] at this;cases this)
 obtain⟨hij,hj⟩:=mem_pairsB.mp hm;simp only at hij hj hl;refine⟨i,j,hij,hj,?_⟩;have hM:∃M,M=thrM at' sh i (lo i) j (hi j):=⟨_,rfl⟩;obtain⟨M,eM⟩:=hM;have hpos:∀a b,a<b→b<n→0<at' b - at' a:=fun a b h1 h2=>by have:=hr a b h1 h2;grind
 have hmM:m≤M:=by
  have h1:=hf i (by omega);have h2:=hf j hj;have hp:=hpos i j hij hj;unfold lnAt at h1 h2;rw[eM];unfold thrM;rw[Qb3 hp];grind
 have hall:∀a b,a<n→b<n→M*(at' b - at' a)≤(hi b - sh b) - (lo a - sh a):=by
  intro a b ha hb;rcases Nat.lt_trichotomy a b with h|h|h
  ·
   have h1:=hl (a,b) (mem_pairsB.mpr ⟨h,hb⟩);simp only[←eM] at h1;unfold thrM at h1;have hp:=hpos a b h hb;rw[Qb3 hp] at h1;grind
  ·
   subst h;have h1:=hf a ha;grind
  ·
   have hp:=hpos b a h ha;have h1:=hf a ha;have h2:=hf b hb;unfold lnAt at h1 h2;have h3:m*(at' a - at' b)≤M*(at' a - at' b):=Rat.mul_le_mul_of_nonneg_right hmM (by grind);grind
 have hpj:=hpos i j hij hj;have eR:M*(at' j - at' i)=(hi j - sh j) - (lo i - sh i):=by
  rw[eM];unfold thrM;rw[Rat.div_mul_cancel (by grind)];
 intro k hk;have h1:=hall k j hk hj;have h2:=hall i k (by omega) hk;unfold thr;rw[←eM];constructor<;>grind
theorem Qjf{n:Nat}{at' lo hi sa sb sm:Nat→Rat}{s m s' m' k:Rat}(hk0:0≤k)(hk1:k≤1)
 (ha:LnFits n at' lo hi sa s m) (hb:LnFits n at' lo hi sb s' m') (hs:∀i,i<n→sm i=sa i+k*(sb i - sa i)):
 LnFits n at' lo hi sm (s+k*(s' - s)) (m+k*(m' - m)):=by
 intro i hi';have h1:=ha i hi';have h2:=hb i hi';have e:lnAt at' sm (s+k*(s' - s)) (m+k*(m' - m)) i=(1 - k)*lnAt at' sa s m i+k*lnAt at' sb s' m' i:=by
  unfold lnAt;rw[hs i hi'];grind
 rw[e];have hk2:0≤1 - k:=by grind
 have a1:=Rat.mul_le_mul_of_nonneg_left h1.1 hk2;have a2:=Rat.mul_le_mul_of_nonneg_left h1.2 hk2;have b1:=Rat.mul_le_mul_of_nonneg_left h2.1 hk0;have b2:=Rat.mul_le_mul_of_nonneg_left h2.2 hk0;constructor<;>grind
def slo(w:Nat→Rat)(h:Rat):Nat→Rat
 |0=>0
 |1=>0
 |i+2=>slo w h (i+1) - h*w (i+1)
def shp(at' w:Nat→Rat)(h:Rat):Nat→Rat
 |0=>0
 |1=>0
 |i+2=>shp at' w h (i+1)+slo w h (i+2)*(at' (i+2) - at' (i+1))
theorem Qfe(w:Nat→Rat)(a b k:Rat):∀i,slo w (a+k*(b - a)) i=slo w a i+k*(slo w b i - slo w a i)
 |0=>by simp only[slo];grind
 |1=>by simp only[slo];grind
 |i+2=>by
  simp only[slo];rw[Qfe w a b k (i+1)];grind
theorem Qdt(at' w:Nat→Rat)(a b k:Rat):∀i,shp at' w (a+k*(b - a)) i=shp at' w a i+k*(shp at' w b i - shp at' w a i)
 |0=>by simp only[shp];grind
 |1=>by simp only[shp];grind
 |i+2=>by
  simp only[shp];rw[Qdt at' w a b k (i+1),Qfe];grind
theorem helly{n:Nat}{x L H:Nat→Rat}(hn:2≤n)(hr:Rising n x)(hLH:∀i,i<n→L i≤H i)
 (h1:∀i j k,i<j→j<k→k<n→L j*(x k - x i)≤H i*(x k - x j)+H k*(x j - x i))
 (h2:∀i j k,i<j→j<k→k<n→L i*(x k - x j)+L k*(x j - x i)≤H j*(x k - x i)):
 ∃s m,∀i,i<n→L i≤s+m*x i∧s+m*x i≤H i:=by
 have hpos:∀a b,a<b→b<n→0<x b - x a:=fun a b h1 h2=>by have:=hr a b h1 h2;grind
 obtain⟨⟨a,b⟩,hm,hl⟩:=Qds (fun p:Nat × Nat=>(H p.2 - L p.1) / (x p.2 - x p.1)) (pairsB n) (by
  intro h;have:((0,1):Nat × Nat)∈ pairsB n:=mem_pairsB.mpr ⟨by decide,by show 1<n;omega⟩
  rw[h] at this;cases this)
 obtain⟨hab,hb⟩:=mem_pairsB.mp hm;simp only at hab hb hl;have hM:∃M,M=(H b - L a) / (x b - x a):=⟨_,rfl⟩;obtain⟨M,eM⟩:=hM;have hpab:=hpos a b hab hb;have eR:M*(x b - x a)=H b - L a:=by
  rw[eM,Rat.div_mul_cancel (by grind)]
 have hlow:∀c d,c<d→d<n→L d - H c≤M*(x d - x c):=by
  intro c d hcd hd;have hpcd:=hpos c d hcd hd;rcases Rat.le_total (a:=L d - H c) (b:=M*(x d - x c)) with h|h
  · exact h
  rcases Decidable.em (L d - H c=M*(x d - x c)) with he|he
  · grind
  exfalso
  have hN:∃N,N=(L d - H c) / (x d - x c):=⟨_,rfl⟩;obtain⟨N,eN⟩:=hN;have eN':N*(x d - x c)=L d - H c:=by
   rw[eN,Rat.div_mul_cancel (by grind)]
  have hNM:M<N:=by
   rcases Rat.le_total (a:=M) (b:=N) with h3|h3
   ·
    rcases Decidable.em (M=N) with h4|h4
    · subst h4;exact absurd eN'.symm he
    · grind
   · have h4:=Rat.mul_le_mul_of_nonneg_right h3 (show (0:Rat)≤x d - x c by grind)
     grind
  have gup:∀y z:Rat,y<z→H c+N*(y - x c) - (L a+M*(y - x a))<H c+N*(z - x c) - (L a+M*(z - x a)):=by
   intro y z hyz;have h5:0<(N - M)*(z - y):=Rat.mul_pos (by grind) (by grind);grind
  have cancel:∀u v:Rat,0<u→0≤u*v→0≤v:=by
   intro u v hu h;rcases Rat.le_total (a:=0) (b:=v) with h6|h6
   · exact h6
   ·
    have h7:=Rat.mul_le_mul_of_nonneg_left h6 (show (0:Rat)≤u by grind);have h8:u*v=0:=by grind
    rcases Rat.mul_eq_zero.mp h8 with h9|h9<;>grind
  have hleft:∃p,p≤a∧p≤c∧0≤H c+N*(x p - x c) - (L a+M*(x p - x a)):=by
   rcases Nat.lt_trichotomy a c with h5|h5|h5
   ·
    refine⟨a,Nat.le_refl _,by omega,?_⟩;have h6:=h2 a c d h5 hcd hd;have h7:0≤(x d - x c)*(H c+N*(x a - x c) - L a):=by
     have e:(x d - x c)*(H c+N*(x a - x c) - L a)=(x d - x c)*H c+(N*(x d - x c))*(x a - x c) - (x d - x c)*L a:=by grind
     rw[e,eN'];grind
    have h8:=cancel _ _ hpcd h7;grind
   ·
    subst h5;refine⟨a,Nat.le_refl _,Nat.le_refl _,?_⟩;have:=hLH a (by omega);grind
   ·
    refine⟨c,by omega,Nat.le_refl _,?_⟩;have h6:=h1 c a b h5 hab hb;have h7:0≤(x b - x a)*(H c - L a - M*(x c - x a)):=by
     have e:(x b - x a)*(H c - L a - M*(x c - x a))=(x b - x a)*(H c - L a) - (M*(x b - x a))*(x c - x a):=by grind
     rw[e,eR];grind
    have h8:=cancel _ _ hpab h7;grind
  have hright:∃p,p<n∧b≤p∧d≤p∧H c+N*(x p - x c) - (L a+M*(x p - x a))≤0:=by
   rcases Nat.lt_trichotomy b d with h5|h5|h5
   ·
    refine⟨d,hd,by omega,Nat.le_refl _,?_⟩;have h6:=h2 a b d hab h5 hd;have h7:0≤(x b - x a)*(L a+M*(x d - x a) - L d):=by
     have e:(x b - x a)*(L a+M*(x d - x a) - L d)=(x b - x a)*(L a - L d)+(M*(x b - x a))*(x d - x a):=by grind
     rw[e,eR];grind
    have h8:=cancel _ _ hpab h7;grind
   ·
    subst h5;refine⟨b,hb,Nat.le_refl _,Nat.le_refl _,?_⟩;have:=hLH b hb;grind
   ·
    refine⟨b,hb,Nat.le_refl _,by omega,?_⟩;have h6:=h1 c d b hcd h5 hb;have h7:0≤(x d - x c)*(H b - H c - N*(x b - x c)):=by
     have e:(x d - x c)*(H b - H c - N*(x b - x c))=(x d - x c)*(H b - H c) - (N*(x d - x c))*(x b - x c):=by grind
     rw[e,eN'];grind
    have h8:=cancel _ _ hpcd h7;grind
  obtain⟨p,hpa,hpc,hp⟩:=hleft;obtain⟨q,hqn,hqb,hqd,hq⟩:=hright;have:=gup (x p) (x q) (hr p q (by omega) hqn);grind
 have hall:∀i j,i<n→j<n→M*(x j - x i)≤H j - L i:=by
  intro i j hi hj;rcases Nat.lt_trichotomy i j with h|h|h
  ·
   have h5:=hl (i,j) (mem_pairsB.mpr ⟨h,hj⟩);simp only[←eM] at h5;rw[Qb3 (hpos i j h hj)] at h5;exact h5
  ·
   subst h;have h5:=hLH i hi;grind
  · have h5:=hlow j i h hi
    grind
 refine⟨L a - M*x a,M,?_⟩;intro k hk;have h5:=hall k b hk hb;have h6:=hall a k (by omega) hk;constructor<;>grind
theorem Qjg{n:Nat}{x L H:Nat→Rat}(hr:Rising n x){s m:Rat}(hf:∀i,i<n→L i≤s+m*x i∧s+m*x i≤H i):
 ∀i j k,i<j→j<k→k<n→L j*(x k - x i)≤H i*(x k - x j)+H k*(x j - x i)∧L i*(x k - x j)+L k*(x j - x i)≤H j*(x k - x i):=by
 intro i j k hij hjk hk;have a1:=hf i (by omega);have a2:=hf j (by omega);have a3:=hf k hk;have p1:=hr i j hij (by omega);have p2:=hr j k hjk hk;have e1:0≤x k - x j:=by grind
 have e2:0≤x j - x i:=by grind
 have e3:0≤x k - x i:=by grind
 have b1:=Rat.mul_le_mul_of_nonneg_right a2.1 e3;have b2:=Rat.mul_le_mul_of_nonneg_right a2.2 e3;have b3:=Rat.mul_le_mul_of_nonneg_right a1.1 e1;have b4:=Rat.mul_le_mul_of_nonneg_right a1.2 e1;have b5:=Rat.mul_le_mul_of_nonneg_right a3.1 e2;have b6:=Rat.mul_le_mul_of_nonneg_right a3.2 e2;constructor<;>grind
def InR(least:Rat)(most:Option Rat)(h:Rat):Prop:=least≤h∧∀m,most=some m→h≤m
theorem InR.uniq{a b:Rat}{p q:Option Rat}(hs:∀h,InR a p h↔InR b q h)(ha:InR a p a):a=b∧p=q:=by
 have h1:=(hs a).mp ha;have hb:InR b q b:=⟨by grind,fun m hm=>by have:=h1.2 m hm;have:=h1.1;grind⟩;have h2:=(hs b).mpr hb;have e:a=b:=by have:=h1.1;have:=h2.1;grind
 refine⟨e,?_⟩;subst e;cases p with
 |none=>
  cases q with
  |none=>rfl
  |some m=>
   exfalso
   have hm:a≤m:=hb.2 m rfl;have h3:=(hs (m+1)).mp ⟨by grind,fun _ h=>by cases h⟩;have:=h3.2 m rfl;grind
 |some m=>
  cases q with
  |none=>
   exfalso
   have hm:a≤m:=ha.2 m rfl;have h3:=(hs (m+1)).mpr ⟨by grind,fun _ h=>by cases h⟩;have:=h3.2 m rfl;grind
  |some k=>
   have hm:a≤m:=ha.2 m rfl;have hk:a≤k:=hb.2 k rfl;have h3:=(hs m).mp ⟨hm,fun _ h=>by cases h;grind⟩;have h4:=(hs k).mpr ⟨hk,fun _ h=>by cases h;grind⟩;have:=h3.2 k rfl;have:=h4.2 m rfl
   congr 1;grind
theorem Qjh{a b c:Rat}(hc:0<c):b / c≤a↔b≤a*c:=by
 have e:b / c*c=b:=Rat.div_mul_cancel (by grind);constructor
 ·
  intro h;have:=Rat.mul_le_mul_of_nonneg_right h (show (0:Rat)≤c by grind);rw[e] at this;exact this
 ·
  intro h;rcases Rat.le_total (a:=b / c) (b:=a) with h1|h1
  · exact h1
  ·
   have h2:=(Qb3 hc).mp h1;have h3:a*c=b / c*c:=by rw[e];grind
   have h4:a=b / c:=by
    have h5:a*c / c=b / c*c / c:=by rw[h3]
    rw[Rat.mul_div_cancel (by grind),Rat.mul_div_cancel (by grind)] at h5;exact h5
   rw[←h4];grind
def cutM(most:Option Rat)(x:Rat):Option Rat:=match most with
 |none=>some x
 |some m=>if x<m then some x else some m
def cutL(least x:Rat):Rat:=if least<x then x else least
theorem Qji(least:Rat)(most:Option Rat)(x h:Rat):InR least (cutM most x) h↔InR least most h∧h≤x:=by
 unfold InR cutM;cases most with
 |none=>
  simp only[Option.some.injEq,reduceCtorEq,false_implies,implies_true,and_true];constructor
  · rintro⟨h1,h2⟩;exact⟨h1,h2 x rfl⟩
  · rintro⟨h1,h2⟩;exact⟨h1,fun m hm=>by subst hm;exact h2⟩
 |some k=>
  by_cases e:x<k
  ·
   simp only[if_pos e,Option.some.injEq];constructor
   · rintro⟨h1,h2⟩;have:=h2 x rfl;exact⟨⟨h1,fun m hm=>by subst hm;grind⟩,this⟩
   · rintro⟨⟨h1,h2⟩,h3⟩;exact⟨h1,fun m hm=>by subst hm;exact h3⟩
  ·
   simp only[if_neg e,Option.some.injEq];constructor
   · rintro⟨h1,h2⟩;have:=h2 k rfl;exact⟨⟨h1,fun m hm=>by subst hm;grind⟩,by grind⟩
   · rintro⟨⟨h1,h2⟩,h3⟩;exact⟨h1,fun m hm=>h2 m hm⟩
theorem Qjj(least:Rat)(most:Option Rat)(x h:Rat):InR (cutL least x) most h↔InR least most h∧x≤h:=by
 unfold InR cutL;by_cases e:least<x
 ·
  rw[if_pos e];constructor
  · rintro⟨h1,h2⟩;exact⟨⟨by grind,h2⟩,h1⟩
  · rintro⟨⟨h1,h2⟩,h3⟩;exact⟨h3,h2⟩
 ·
  rw[if_neg e];constructor
  · rintro⟨h1,h2⟩;exact⟨⟨h1,h2⟩,by grind⟩
  · rintro⟨⟨h1,h2⟩,h3⟩;exact⟨h1,h2⟩
theorem Qjk{least:Rat}{most:Option Rat}{need room by':Rat}(hb:0<by')(h:Rat):
 InR (cutL least (need / by')) (cutM most (room / by')) h↔InR least most h∧need≤h*by'∧h*by'≤room:=by
 rw[Qjj,Qji,Qb3 hb,Qjh hb];constructor
 · rintro⟨⟨h1,h2⟩,h3⟩;exact⟨h1,h3,h2⟩
 · rintro⟨h1,h2,h3⟩;exact⟨⟨h1,h3⟩,h2⟩
theorem Qff{need room:Rat}(h:Rat):(need≤h*0∧h*0≤room)↔(need≤0∧0≤room):=by
 rw[Rat.mul_zero]
theorem Qcl(at' w:Nat→Rat)(h:Rat):∀i,shp at' w h (i+1)=shp at' w h i+slo w h (i+1)*(at' (i+1) - at' i)
 |0=>by simp only[shp,slo];grind
 |i+1=>rfl
theorem Qfg{w:Nat→Rat}{h:Rat}(h0:0≤h){n:Nat}(hw:∀i,i<n→0≤w i):∀i j,i≤j→j≤n→slo w h j≤slo w h i:=by
 have one:∀i,i+1≤n→slo w h (i+1)≤slo w h i:=by
  intro i hi;cases i with
  |zero=>simp only[slo];grind
  |succ i=>
   simp only[slo];have:=Rat.mul_nonneg h0 (hw (i+1) (by omega));grind
 intro i j hij hj
 induction j with
 |zero=>have:i=0:=by omega
        subst this;grind
 |succ j ih=>
  by_cases e:i=j+1
  · subst e;grind
  ·
   have:=ih (by omega) (by omega);have:=one j hj;grind
theorem Qjl{n:Nat}{at' w:Nat→Rat}{h:Rat}(hr:Rising n at')(h0:0≤h)(hw:∀i,i<n→0≤w i):
 ∀i j,i≤j→j<n→slo w h j*(at' j - at' i)≤shp at' w h j - shp at' w h i:=by
 intro i j hij hj
 induction j with
 |zero=>have:i=0:=by omega
        subst this;grind
 |succ j ih=>
  by_cases e:i=j+1
  · subst e;grind
  ·
   have h1:=ih (by omega) (by omega);rw[Qcl];have h2:=Qfg (w:=w) h0 hw j (j+1) (by omega) (by omega);have h3:0≤at' j - at' i:=by
    by_cases e2:i=j
    · subst e2;grind
    · have:=hr i j (by omega) (by omega);grind
   have h4:=Rat.mul_le_mul_of_nonneg_right h2 h3;grind
theorem Qjm{n:Nat}{at' w:Nat→Rat}{h:Rat}(hr:Rising n at')(h0:0≤h)(hw:∀i,i<n→0≤w i):
 ∀i j,i≤j→j<n→shp at' w h j - shp at' w h i≤slo w h i*(at' j - at' i):=by
 intro i j hij hj
 induction j with
 |zero=>have:i=0:=by omega
        subst this;grind
 |succ j ih=>
  by_cases e:i=j+1
  · subst e;grind
  ·
   have h1:=ih (by omega) (by omega);rw[Qcl];have h2:=Qfg (w:=w) h0 hw i (j+1) (by omega) (by omega);have h3:0≤at' (j+1) - at' j:=by
    have:=hr j (j+1) (by omega) hj;grind
   have h4:=Rat.mul_le_mul_of_nonneg_right h2 h3;grind
def abv(x m o:Nat→Rat)(i j k:Nat):Rat:=m j*((x j - x i)+(x k - x j)) - o i*(x k - x j) - o k*(x j - x i)
theorem Qjn{n:Nat}{at' w:Nat→Rat}{h:Rat}(hr:Rising n at')(h0:0≤h)(hw:∀i,i<n→0≤w i)
 {i j k:Nat} (hij:i<j) (hjk:j<k) (hk:k<n):0≤abv at' (shp at' w h) (shp at' w h) i j k:=by
 have a1:=Qjl hr h0 hw i j (by omega) (by omega);have a2:=Qjm hr h0 hw j k (by omega) hk;have p1:=hr i j hij (by omega);have p2:=hr j k hjk hk;have b1:=Rat.mul_le_mul_of_nonneg_right a1 (show 0≤at' k - at' j by grind);have b2:=Rat.mul_le_mul_of_nonneg_right a2 (show 0≤at' j - at' i by grind);unfold abv;grind
theorem Qdu(at' w:Nat→Rat)(h:Rat)(i:Nat):shp at' w h i=h*shp at' w 1 i:=by
 have h1:=Qdt at' w 0 1 h i;have h2:∀i,slo w 0 i=0:=by
  intro i
  induction i with
  |zero=>rfl
  |succ i ih=>
   cases i with
   |zero=>rfl
   |succ i=>simp only[slo];rw[ih];grind
 have h3:∀i,shp at' w 0 i=0:=by
  intro i
  induction i with
  |zero=>rfl
  |succ i ih=>rw[Qcl,ih,h2];grind
 rw[h3] at h1;have e:(0:Rat)+h*(1 - 0)=h:=by grind
 rw[e] at h1;rw[h1];grind
theorem Qfh{n:Nat}{at' lo hi w:Nat→Rat}{h:Rat}(hn:2≤n)(hr:Rising n at')(hLH:∀i,i<n→lo i≤hi i):
 (∃s m,LnFits n at' lo hi (shp at' w h) s m)↔
 ∀i j k,i<j→j<k→k<n→abv at' lo hi i j k≤h*abv at' (shp at' w 1) (shp at' w 1) i j k∧h*abv at' (shp at' w 1) (shp at' w 1) i j k≤abv at' hi lo i j k:=by
 have key:∀i j k,h*abv at' (shp at' w 1) (shp at' w 1) i j k=abv at' (shp at' w h) (shp at' w h) i j k:=by
  intro i j k;unfold abv;rw[Qdu at' w h i,Qdu at' w h j,Qdu at' w h k];grind
 constructor
 ·
  rintro⟨s,m,hf⟩ i j k hij hjk hk;have:=Qjg (n:=n) (x:=at') (L:=fun i=>lo i - shp at' w h i) (H:=fun i=>hi i - shp at' w h i) hr (s:=s) (m:=m)
   (fun i hi'=>by have:=hf i hi';unfold lnAt at this;constructor<;>grind) i j k hij hjk hk
  rw[key];unfold abv;constructor<;>grind
 ·
  intro hall;obtain⟨s,m,hf⟩:=helly (n:=n) (x:=at') (L:=fun i=>lo i - shp at' w h i) (H:=fun i=>hi i - shp at' w h i) hn hr
   (fun i hi'=>by have:=hLH i hi';grind)
   (fun i j k hij hjk hk=>by
     have:=hall i j k hij hjk hk;rw[key] at this;unfold abv at this
     grind)
   (fun i j k hij hjk hk=>by
     have:=hall i j k hij hjk hk;rw[key] at this;unfold abv at this
     grind)
  exact⟨s,m,fun i hi'=>by have:=hf i hi';unfold lnAt;constructor<;>grind⟩
open Go.RowKit
set_option linter.unusedSimpArgs false
def FF(q:Rat)(k:Nat):Fact:=fun v w=>FracV w v q∧Fits q k∧0<k
theorem FF.stays(q:Rat)(k:Nat):Stays (FF q k):=fun _ _ _ hb h=>⟨h.1.below hb,h.2⟩
theorem FF.below{q:Rat}{k:Nat}{v:Value}{w w':World}(h:FF q k v w)(hb:Below w.heap.size w w'):FF q k v w':=FF.stays q k v w w' hb h
def Makes(w:World)(φ:Fact)(e:Ending)(w':World):Prop:=∃v,e=.returned v∧Below w.heap.size w w'∧φ v w'
theorem Makes.use{P:Program}{f:FuncId}{args:Array Value}{w:World}{φ:Fact}{R:Ending→World→Prop}(h:Calls P f args w (Makes w φ))(hR:∀v w',Below w.heap.size w w'→φ v w'→R (.returned v) w'):Calls P f args w R:=
 h.mono fun e w' ⟨v,he,hb,hv⟩=>by subst he;exact hR v w' hb hv
theorem FNew.makes{w w':World}{q:Rat}{k:Nat}{e:Ending}(h:FNew w q e w')(hf:Fits q k)(hk:0<k):Makes w (FF q k) e w':=by
 obtain⟨⟨v,rfl,hv⟩,hb⟩:=h;exact⟨v,rfl,hb,hv,hf,hk⟩
theorem FF.plus{u v:Value}{p q:Rat}{j k:Nat}{w:World}(h1:FF p j u w)(h2:FF q k v w)(hj:j+k<68719476000):Calls Tryz.prog 72 #[u,v] w (Makes w (FF (p+q) (j+k+1))):=
 (Qmt h1.1 h2.1 h1.2.1 h2.2.1 hj).mono fun e w' h=>h.makes (h1.2.1.add h2.2.1) (by omega)
theorem FF.minus{u v:Value}{p q:Rat}{j k:Nat}{w:World}(h1:FF p j u w)(h2:FF q k v w)(hj:j+k<68719476000):Calls Tryz.prog 70 #[u,v] w (Makes w (FF (p - q) (j+k+1))):=
 (Qmy h1.1 h2.1 h1.2.1 h2.2.1 hj).mono fun e w' h=>h.makes (h1.2.1.sub h2.2.1) (by omega)
theorem FF.times{u v:Value}{p q:Rat}{j k:Nat}{w:World}(h1:FF p j u w)(h2:FF q k v w)(hj:j+k<68719476000):Calls Tryz.prog 71 #[u,v] w (Makes w (FF (p*q) (j+k))):=
 (Qmu h1.1 h2.1 h1.2.1 h2.2.1 hj).mono fun e w' h=>h.makes (h1.2.1.mul h2.2.1 h1.2.2) (by have:=h1.2.2;omega)
theorem FF.over{u v:Value}{p q:Rat}{j k:Nat}{w:World}(h1:FF p j u w)(h2:FF q k v w)(hj:j+k<68719476000):Calls Tryz.prog 83 #[u,v] w (Makes w (FF (p / q) (j+k))):=
 (Qmz h1.1 h2.1 h1.2.1 h2.2.1 hj).mono fun e w' h=>h.makes (h1.2.1.div h2.2.1 h1.2.2 h2.2.2) (by have:=h1.2.2;omega)
theorem FF.compare{u v:Value}{p q:Rat}{j k:Nat}{w:World}(h1:FF p j u w)(h2:FF q k v w)(hj:j+k<68719476000):Calls Tryz.prog 41 #[u,v] w (Makes w (Is (.int .i64 (cmpQ p q)))):=
 (Qm5 h1.1 h2.1 h1.2.1 h2.2.1 hj).mono fun e w' h=>⟨_,h.1,h.2,rfl⟩
theorem FF.equal{u v:Value}{p q:Rat}{j k:Nat}{w:World}(h1:FF p j u w)(h2:FF q k v w):Calls Tryz.prog 85 #[u,v] w (Makes w (Is (.bool (decide (p=q))))):=
 (Qnc h1.1 h2.1).mono fun e w' h=>⟨_,h.1,h.2,rfl⟩
theorem FF.sign{u:Value}{p:Rat}{j:Nat}{w:World}(h1:FF p j u w):Calls Tryz.prog 35 #[u] w (Makes w (Is (.int .i64 (sgn3 p.num)))):=
 (Qfa h1.1).mono fun e w' h=>⟨_,h.1,h.2,rfl⟩
theorem FF.isZero{u:Value}{p:Rat}{j:Nat}{w:World}(h1:FF p j u w):Calls Tryz.prog 81 #[u] w (Makes w (Is (.bool (decide (p=0))))):=
 (Qgy h1.1).mono fun e w' h=>⟨_,h.1,h.2,rfl⟩
theorem FF.of{s:ByteArray}{q:Rat}{n K:Nat}{w:World}(hg:Glob w)(hq:QOf s.data.toList q)(hs:s.size≤n)(hn:n≤1073741824)(hK:4*n+1≤K):Calls Tryz.prog 34 #[.string s] w (Makes w (FF q K)):=by
 refine((FBag.start hg).of s hs hn).mono ?_;rintro e w' ⟨q',hq',x,y,z,rfl,hb⟩;obtain rfl:=hq.inj hq';have:=hb.get List.mem_cons_self;exact⟨_,rfl,hb.base,this.1,this.2.1.mono hK,by omega⟩
theorem FF.ofFits{s:ByteArray}{q:Rat}{K:Nat}{w:World}(hg:Glob w)(hq:QOf s.data.toList q)(hs:s.size≤1073741824)(hf:Fits q K)(hK:0<K):Calls Tryz.prog 34 #[.string s] w (Makes w (FF q K)):=
 (FF.of hg hq hs (Nat.le_refl _) (Nat.le_refl _)).mono fun e w' ⟨v,he,hb,hv⟩=>⟨v,he,hb,hv.1,hf,hK⟩
def TF(q:Rat):Fact:=fun v _=>∃s:ByteArray,v=.string s∧QText s.data.toList q
theorem TF.stays(q:Rat):Stays (TF q):=fun _ _ _ _ h=>h
theorem FF.text{u:Value}{p:Rat}{j:Nat}{w:World}(hg:Glob w)(h1:FF p j u w)(hj:j≤274877906944):Calls Tryz.prog 33 #[u] w (Makes w (TF p)):=
 (Qm9 hg.tab h1.1 h1.2.1 hj).mono fun e w' h=>by
   obtain⟨⟨s,rfl,hs⟩,hb⟩:=h;exact⟨_,rfl,hb,s,rfl,hs⟩
theorem FF.zero(w:World):FF 0 1 (.agg #[.bool false,.slice none 0 0,.slice none 0 0]) w:=⟨FracV.zero _,Fits.zero,by decide⟩
theorem FF.mono{q:Rat}{k k':Nat}{v:Value}{w:World}(h:FF q k v w)(hk:k≤k'):FF q k' v w:=⟨h.1,h.2.1.mono hk,Nat.lt_of_lt_of_le h.2.2 hk⟩
theorem FF.parts{q:Rat}{k:Nat}{v:Value}{w:World}(h:FF q k v w):∃x y z,v=.agg #[x,y,z]:=by
 obtain⟨⟨neg,a,n,c,b,m,d,rfl,_⟩,_⟩:=h;exact⟨_,_,_,rfl⟩
def FE.cs(t:FE):List Value:=[t.x,t.y,t.z]
def FE.nil:FE:=⟨.bool false,.slice none 0 0,.slice none 0 0,0,1⟩
def FE.ok(w:World)(t:FE):Prop:=FF t.q t.k (.agg #[t.x,t.y,t.z]) w
theorem FE.ok.below{w w':World}{t:FE}(h:FE.ok w t)(hb:Below w.heap.size w w'):FE.ok w' t:=FF.below h hb
structure TBlk (T:TypeId) (w:World) (g:Nat) (ts:List FE):Prop where
 blk:SB w g T (ts.flatMap FE.cs).toArray
 ok:∀t,t∈ ts→FE.ok w t
section
variable {T:TypeId} {w w':World} {g:Nat} {ts:List FE}
theorem TBlk.below(h:TBlk T w g ts)(hb:Below w.heap.size w w'):TBlk T w' g ts:=⟨h.blk.below hb h.blk.lt,fun t ht=>(h.ok t ht).below hb⟩
theorem TBlk.no64(h:TBlk T w g ts):NoU64 (ts.flatMap FE.cs).toArray:=by
 refine Qda fun v hv n=>?_
 obtain⟨t,ht,hv⟩:=List.mem_flatMap.1 hv;obtain⟨h1,h2,h3⟩:=(h.ok t ht).1.no64 n;simp[FE.cs] at hv;rcases hv with rfl|rfl|rfl
 · exact h1
 · exact h2
 · exact h3
theorem TBlk.at(h:TBlk T w g ts){i:Nat}{e:FE}(hi:ts[i]?=some e):w.cell? ⟨g,i*3,none⟩=some e.x∧w.cell? ⟨g,i*3+1,none⟩=some e.y∧w.cell? ⟨g,i*3+2,none⟩=some e.z:=by
 have key:∀j u,(FE.cs e)[j]?=some u→w.cell? ⟨g,i*3+j,none⟩=some u:=fun j u hu=>by
  rw[h.blk.cell,List.getElem?_toArray];exact Qbt (sz:=3) (fun _=>rfl) ts i e j u hi hu
 exact⟨key 0 _ rfl,key 1 _ rfl,key 2 _ rfl⟩
theorem TBlk.keep(h:TBlk T w g ts)(ho:Only g w w'){t:FE}(ht:FE.ok w t):FE.ok w' t:=⟨ht.1.only ho h.blk h.no64,ht.2⟩
theorem TBlk.apart{T':TypeId}{c:Nat}{us:List FE}(h:TBlk T w g ts)(hc:TBlk T' w c us)(ho:Only c w w')(hne:g≠c):TBlk T w' g ts:=⟨h.blk.only ho hne,fun t ht=>hc.keep ho (h.ok t ht)⟩
theorem Qi3:∀(ts:List FE) (k:Nat) (e:FE),k<ts.length→(ts.set k e).flatMap FE.cs=(((ts.flatMap FE.cs).set (k*3) e.x).set (k*3+1) e.y).set (k*3+2) e.z
 | [],k,e,h=>by simp at h
 |t :: l,0,e,_=>by simp[FE.cs]
 |t :: l,k+1,e,h=>by
  have ih:=Qi3 l k e (by simpa using h);rw[List.set_cons_succ,List.flatMap_cons,ih,List.flatMap_cons];simp only[FE.cs,List.cons_append,List.nil_append];rw[show (k+1)*3=k*3+1+1+1 by omega];simp only[List.set_cons_succ,Nat.add_assoc]
theorem TBlk.set(h:TBlk T w g ts){k:Nat}{e:FE}(hk:k<ts.length)(he:FE.ok w e):
 TBlk T (((w.setCell ⟨g,k*3,none⟩ e.x).setCell ⟨g,k*3+1,none⟩ e.y).setCell ⟨g,k*3+2,none⟩ e.z) g (ts.set k e)∧Only g w (((w.setCell ⟨g,k*3,none⟩ e.x).setCell ⟨g,k*3+1,none⟩ e.y).setCell ⟨g,k*3+2,none⟩ e.z):=by
 have ho:Only g w (((w.setCell ⟨g,k*3,none⟩ e.x).setCell ⟨g,k*3+1,none⟩ e.y).setCell ⟨g,k*3+2,none⟩ e.z):=(((Only.refl g w).setCell _ _).setCell _ _).setCell _ _;have keep:∀t,FE.ok w t→FE.ok (((w.setCell ⟨g,k*3,none⟩ e.x).setCell ⟨g,k*3+1,none⟩ e.y).setCell ⟨g,k*3+2,none⟩ e.z) t:=fun t ht=>⟨ht.1.only ho h.blk h.no64,ht.2⟩
 refine⟨⟨?_,fun t ht=>?_⟩,ho⟩
 ·
  have:=((h.blk.set (k*3) e.x).set (k*3+1) e.y).set (k*3+2) e.z;rw[Qi3 ts k e hk]
  simpa using this
 ·
  rcases List.mem_or_eq_of_mem_set ht with ht|rfl
  · exact keep t (h.ok t ht)
  · exact keep t he
theorem TBlk.stone(h:TBlk T w g ts){i:Nat}{a l u s:FE}(ha:ts[i*4]?=some a)(hl:ts[i*4+1]?=some l)(hu:ts[i*4+2]?=some u)(hs:ts[i*4+3]?=some s):
 w.cell? ⟨g,i*12,none⟩=some a.x∧w.cell? ⟨g,i*12+1,none⟩=some a.y∧w.cell? ⟨g,i*12+2,none⟩=some a.z∧w.cell? ⟨g,i*12+3,none⟩=some l.x∧w.cell? ⟨g,i*12+4,none⟩=some l.y∧w.cell? ⟨g,i*12+5,none⟩=some l.z∧w.cell? ⟨g,i*12+6,none⟩=some u.x∧w.cell? ⟨g,i*12+7,none⟩=some u.y∧w.cell? ⟨g,i*12+8,none⟩=some u.z∧w.cell? ⟨g,i*12+9,none⟩=some s.x∧w.cell? ⟨g,i*12+10,none⟩=some s.y∧w.cell? ⟨g,i*12+11,none⟩=some s.z:=by
 have h0:=h.at ha;have h1:=h.at hl;have h2:=h.at hu;have h3:=h.at hs;rw[show i*4*3=i*12 by omega] at h0;rw[show (i*4+1)*3=i*12+3 by omega] at h1;rw[show (i*4+2)*3=i*12+6 by omega] at h2;rw[show (i*4+3)*3=i*12+9 by omega] at h3;exact⟨h0.1,h0.2.1,h0.2.2,h1.1,h1.2.1,h1.2.2,h2.1,h2.2.1,h2.2.2,h3.1,h3.2.1,h3.2.2⟩
theorem TBlk.set4(h:TBlk T w g ts){i:Nat}{a l u s:FE}(hi:i*4+3<ts.length)(ha:FE.ok w a)(hl:FE.ok w l)(hu:FE.ok w u)(hs:FE.ok w s){w':World}
 (e:(((((((((((w.setCell ⟨g,i*12,none⟩ a.x).setCell ⟨g,i*12+1,none⟩ a.y).setCell ⟨g,i*12+2,none⟩ a.z).setCell ⟨g,i*12+3,none⟩ l.x).setCell ⟨g,i*12+4,none⟩ l.y).setCell ⟨g,i*12+5,none⟩ l.z).setCell ⟨g,i*12+6,none⟩ u.x).setCell ⟨g,i*12+7,none⟩ u.y).setCell ⟨g,i*12+8,none⟩ u.z).setCell ⟨g,i*12+9,none⟩ s.x).setCell ⟨g,i*12+10,none⟩ s.y).setCell ⟨g,i*12+11,none⟩ s.z=w'):
 TBlk T w' g ((((ts.set (i*4) a).set (i*4+1) l).set (i*4+2) u).set (i*4+3) s)∧Only g w w':=by
 obtain⟨h0,k0⟩:=h.set (k:=i*4) (e:=a) (by omega) ha;rw[show i*4*3=i*12 by omega] at h0 k0;obtain⟨h1,k1⟩:=h0.set (k:=i*4+1) (e:=l) (by simp;omega) (h.keep k0 hl);rw[show (i*4+1)*3=i*12+3 by omega] at h1 k1;obtain⟨h2,k2⟩:=h1.set (k:=i*4+2) (e:=u) (by simp;omega) (h.keep (k0.trans k1) hu);rw[show (i*4+2)*3=i*12+6 by omega] at h2 k2;obtain⟨h3,k3⟩:=h2.set (k:=i*4+3) (e:=s) (by simp;omega) (h.keep ((k0.trans k1).trans k2) hs);rw[show (i*4+3)*3=i*12+9 by omega] at h3 k3;subst e;exact⟨h3,((k0.trans k1).trans k2).trans k3⟩
theorem TBlk.setS(h:TBlk T w g ts){i:Nat}{s:FE}(hi:i*4+3<ts.length)(hs:FE.ok w s){w':World}
 (e:((w.setCell ⟨g,i*12+9,none⟩ s.x).setCell ⟨g,i*12+10,none⟩ s.y).setCell ⟨g,i*12+11,none⟩ s.z=w'):TBlk T w' g (ts.set (i*4+3) s)∧Only g w w':=by
 obtain⟨h3,k3⟩:=h.set (k:=i*4+3) (e:=s) hi hs;rw[show (i*4+3)*3=i*12+9 by omega] at h3 k3;subst e;exact⟨h3,k3⟩
end
theorem FE.ok.nil(w:World):FE.ok w FE.nil:=FF.zero w
theorem TBlk.new(T:TypeId)(w:World)(n:Nat):TBlk T (w.alloc (.cells ((List.replicate n FE.nil).flatMap FE.cs).toArray T)) w.heap.size (List.replicate n FE.nil):=
 ⟨SB.new _ _ _,fun t ht=>by obtain⟨_,rfl⟩:=List.mem_replicate.1 ht;exact FE.ok.nil _⟩
theorem Qqz(n m:Nat)(z:Array Value)(hz:z=((List.replicate m FE.nil).flatMap FE.cs).toArray)(hm:0<m):madeCells z (n*(m*3))=((List.replicate (n*m) FE.nil).flatMap FE.cs).toArray:=by
 have hlen:∀k,((List.replicate k FE.nil).flatMap FE.cs).length=k*3:=fun k=>by rw[Qgq (sz:=3) (fun _=>rfl)];simp
 have hat:∀k i,i<k*3→((List.replicate k FE.nil).flatMap FE.cs)[i]?=(FE.cs FE.nil)[i % 3]?:=fun k i hi=>by
  obtain⟨u,hu⟩:∃u,(FE.cs FE.nil)[i % 3]?=some u:=⟨_,List.getElem?_eq_getElem (show i % 3<3 by omega)⟩;rw[hu];have:=Qbt (c:=FE.cs) (sz:=3) (fun _=>rfl) (List.replicate k FE.nil) (i / 3) FE.nil (i % 3) u (by rw[List.getElem?_replicate,if_pos (by omega)]) hu;rw[show i / 3*3+i % 3=i by omega] at this;exact this
 have hzs:z.size=m*3:=by rw[hz,List.size_toArray,hlen]
 apply Array.ext';apply List.ext_getElem?;intro i;by_cases hi:i<n*(m*3)
 ·
  have hmod:i % (m*3)<m*3:=Nat.mod_lt _ (by omega);have h1:(madeCells z (n*(m*3))).toList[i]?=some (z[i % (m*3)]!):=by
   simp[madeCells,hi,hzs]
  rw[h1];simp only[List.toList_toArray];rw[hat (n*m) i (by rw[Nat.mul_assoc];exact hi)];have h2:z[i % (m*3)]?=(FE.cs FE.nil)[i % (m*3) % 3]?:=by rw[hz,List.getElem?_toArray];exact hat m _ hmod
  rw[show i % (m*3) % 3=i % 3 from Nat.mod_mul_left_mod i m 3] at h2;rw[←h2,getElem!_pos z _ (by rw[hzs];exact hmod),Array.getElem?_eq_getElem (by rw[hzs];exact hmod)]
 · rw[List.getElem?_eq_none (by rw[Array.length_toList,size_madeCells];omega),List.getElem?_eq_none (by simp only[List.toList_toArray];rw[hlen,Nat.mul_assoc];omega)]
theorem TBlk.box{w:World}{g:Nat}{x y z:Value}{q:Rat}{k:Nat}(hs:SB w g 63 #[x,y,z])(h:FF q k (.agg #[x,y,z]) w):TBlk 63 w g [⟨x,y,z,q,k⟩]:=⟨hs,fun t ht=>by rw[List.mem_singleton] at ht;subst ht;exact h⟩
theorem Qq0{ts:List FE}{n k:Nat}(hl:ts.length=n*4)(hk:k<n):∃a l u s:FE,ts[k*4]?=some a∧ts[k*4+1]?=some l∧ts[k*4+2]?=some u∧ts[k*4+3]?=some s:=
 ⟨_,_,_,_,List.getElem?_eq_getElem (by omega),List.getElem?_eq_getElem (by omega),List.getElem?_eq_getElem (by omega),List.getElem?_eq_getElem (by omega)⟩
def S3(p q r:Rat)(k:Nat):Fact:=fun v w=>∃x1 x2 x3 x4 x5 x6 x7 x8 x9,v=.agg #[x1,x2,x3,x4,x5,x6,x7,x8,x9,.bool false,.slice none 0 0,.slice none 0 0]∧FF p k (.agg #[x1,x2,x3]) w∧FF q k (.agg #[x4,x5,x6]) w∧FF r k (.agg #[x7,x8,x9]) w
theorem S3.stays(p q r:Rat)(k:Nat):Stays (S3 p q r k):=fun _ _ _ hb ⟨x1,x2,x3,x4,x5,x6,x7,x8,x9,e,h1,h2,h3⟩=>⟨x1,x2,x3,x4,x5,x6,x7,x8,x9,e,h1.below hb,h2.below hb,h3.below hb⟩
theorem Qq1:(Tryz.prog.info? 82).map (fun i=>(i.zero,i.size,i.bytes))=some (some (.agg #[.bool false,.slice none 0 0,.slice none 0 0,.bool false,.slice none 0 0,.slice none 0 0,.bool false,.slice none 0 0,.slice none 0 0,.bool false,.slice none 0 0,.slice none 0 0]),12,224):=by kernel_rfl
theorem Qq2(n:Nat)(hn:n≤1048576)(w:World):(Instr.makeSlice 68 (.int .i64 n) (.int .i64 n)).run Tryz.prog w=.ok (.slice (some ⟨w.heap.size,0,none⟩) n n) (w.alloc (.cells ((List.replicate (n*4) FE.nil).flatMap FE.cs).toArray 82)):=by
 obtain⟨i,hi,h⟩:=Option.map_eq_some_iff.1 Qq1;simp only[Prod.mk.injEq] at h;obtain⟨hz,hs,hb⟩:=h;have:=run_make w 68 82 i _ Tryz.underlying68 hi hz .i64 .i64 n n (by omega) (by omega) (by rw[hb];omega) (by omega);rw[Int.toNat_natCast,hs,Qqz n 4 _ (by kernel_rfl) (by decide)] at this;exact this
structure T4 where
 a:ByteArray
 w:ByteArray
 l:ByteArray
 h:ByteArray
def T4.cells(s:T4):List Value:=[.string s.a,.string s.w,.string s.l,.string s.h]
theorem ARow.stone{w:World}{a:Option Addr}{cap:Nat}{es:List T4}(h:ARow T4.cells w a cap es){i:Nat}{e:T4}(hi:es[i]?=some e):
 ∃b off,a=some ⟨b,off,none⟩∧b<w.heap.size∧w.cell? ⟨b,off+i*4,none⟩=some (.string e.a)∧w.cell? ⟨b,off+i*4+1,none⟩=some (.string e.w)∧w.cell? ⟨b,off+i*4+2,none⟩=some (.string e.l)∧w.cell? ⟨b,off+i*4+3,none⟩=some (.string e.h):=by
 obtain⟨b,off,h1,h2,h3⟩:=h.at (sz:=4) (fun _=>rfl) (by decide) hi;exact⟨b,off,h1,h2,h3 0 _ rfl,h3 1 _ rfl,h3 2 _ rfl,h3 3 _ rfl⟩
abbrev V4:=Rat × Rat × Rat × Rat
structure StoneV (s:T4) (v:V4):Prop where
 a:QOf s.a.data.toList v.1
 w:QOf s.w.data.toList v.2.1
 l:QOf s.l.data.toList v.2.2.1
 h:QOf s.h.data.toList v.2.2.2
 za:s.a.size≤1073741824∧Fits v.1 4194400
 zw:s.w.size≤1073741824∧Fits v.2.1 4194400
 zl:s.l.size≤1073741824∧Fits v.2.2.1 4194400
 zh:s.h.size≤1073741824∧Fits v.2.2.2 4194400
structure StonesV (ss:List T4) (vs:List V4):Prop where
 len:vs.length=ss.length
 each:∀(i:Nat) (s:T4) (v:V4),ss[i]?=some s→vs[i]?=some v→StoneV s v
def valC(v:V4):Int:=if v.2.1<0∨v.2.2.2<v.2.2.1 then 5 else 0
def stoneC(pr:Option Rat)(v:V4):Int:=match pr with
 |some a=>if v.1≤a then 6 else valC v
 |none=>valC v
def archFrom:Nat→Option Rat→List V4→Int × Int
 |_,_,[]=>(0,0)
 |i,pr,v :: r=>if stoneC pr v=0 then archFrom (i+1) (some v.1) r else (stoneC pr v,(i:Int))
def archF(vs:List V4):Int × Int:=if vs.length<2∨10<vs.length then (2,0) else archFrom 0 none vs
def ahead(vs:List V4):Nat→Option Rat
 |0=>none
 |k+1=>(vs[k]?).map (·.1)
theorem Qcm{vs:List V4}{k:Nat}{v:V4}(hv:vs[k]?=some v):archFrom k (ahead vs k) (vs.drop k)=if stoneC (ahead vs k) v=0 then archFrom (k+1) (ahead vs (k+1)) (vs.drop (k+1)) else (stoneC (ahead vs k) v,(k:Int)):=by
 obtain⟨hk,e⟩:=List.getElem?_eq_some_iff.1 hv;have e2:ahead vs (k+1)=some v.1:=by simp[ahead,hv]
 rw[List.drop_eq_getElem_cons hk,e,e2];rfl
theorem Qfi{vs:List V4}:archFrom vs.length (ahead vs vs.length) (vs.drop vs.length)=(0,0):=by
 rw[List.drop_length];rfl
theorem Tryz.faultInfo:(Tryz.prog.info? 32).map (·.size)=some 2:=by kernel_rfl
theorem Qb4(p q:Rat):cmpQ p q≤0↔p≤q:=by
 have h1:=Qbb p q;have h2:¬q<p↔p≤q:=Rat.not_lt;rw[←h2,←h1];omega
theorem Qbe(q:Rat):sgn3 q.num<0↔q<0:=by
 rw[←Qbv];unfold cmpQ;rw[show q.num*((0:Rat).den:Int)=q.num from by simp,show (0:Rat).num*(q.den:Int)=0 from by simp];exact Iff.rfl
end Go.Proofs.YtldjeecnapgakaaGreatDoor
