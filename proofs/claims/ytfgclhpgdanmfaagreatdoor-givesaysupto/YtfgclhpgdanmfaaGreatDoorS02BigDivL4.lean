import Derived.Test.YtfgclhpgdanmfaaGreatDoorS01BigRight
import Derived.Laws.CopyOwn
import Derived.Deep.RegionWith
import Derived.LoopN
import Derived.Deep.QuietTactic
import Derived.BigQuiet
namespace Go.Proofs.YtfgclhpgdanmfaaGreatDoor
set_option linter.defProp false
open Go.RowKit
open Go.Proofs.Tryz
set_option linter.unusedSimpArgs false
set_option linter.unusedVariables false
set_option maxHeartbeats 8000000
set_option maxRecDepth 1000000
variable{us:List Nat}{L M Q V X a b c d e j n:Nat}{f v:Vy}{wr:Vz}
def Ok(B P h b e a f g W V:Nat)(l:0<P)(hB:0<B)(hW:W=h*(B*P)+b*P+e)(m:V=a*(B*P)+f*P+g)(i:e<P)(c:b<B)(d:0<a):W / V≤h / a:=by
 rw[Nat.le_div_iff_mul_le d];apply Classical.byContradiction;intro n;have o:=Nat.div_mul_le_self W V;have j:(h+1)*(B*P)≤W / V*a*(B*P):=Nat.mul_le_mul_right _ (by omega);have p:W / V*a*(B*P)≤W / V*V:=by rw[Nat.mul_assoc];apply Nat.mul_le_mul_left;omega
 have k:(b+1)*P≤B*P:=Nat.mul_le_mul_right _ c;rw[Nat.add_mul,Nat.one_mul]at j k;omega
def LU(B P h b d e a f W V g r:Nat)(n:0<P)(hW:W=h*(B*P)+b*P+d)(i:V=e*(B*P)+a*P+f)(j:d<P)(c:0<V)(k:g*e+r=h)(l:r*B+b<g*a):W / V<g:=by rw[Nat.div_lt_iff_lt_mul c,i,Nat.mul_add,Nat.mul_add,hW,←k,Nat.add_mul,Nat.mul_assoc];have m:(r*B+b+1)*P≤g*a*P:=Nat.mul_le_mul_right _ l;rw[Nat.add_mul,Nat.add_mul,Nat.one_mul,Nat.mul_assoc]at m;rw[←Nat.mul_assoc g a P];omega
def WA(B P h f k b d j W V g r:Nat)(l:0<P)(hW:W=h*(B*P)+f*P+k)(u:V=b*(B*P)+d*P+j)(m:j<P)(e:0<b)(n:g*b+r=h)(o:g<B)(v:g*d≤r*B+f):g≤W / V+1:=by
 apply Classical.byContradiction;intro w;have i:0<V:=by have:0<b*(B*P):=Nat.mul_pos e (Nat.mul_pos (by omega) l);omega
 obtain⟨c,rfl⟩:∃c,g=c+1:=⟨g - 1,by have:=Nat.zero_le (W / V);omega⟩;have x:W<c*V:=(Nat.div_lt_iff_lt_mul i).1 (by omega);have y:(c+1)*(b*B+d)*P≤W:=by
  have p:(c+1)*(b*B+d)≤h*B+f:=by rw[←n,Nat.mul_add,Nat.add_mul _ _ B,←Nat.mul_assoc];omega
  have q:=Nat.mul_le_mul_right P p;rw[Nat.add_mul _ _ P,Nat.mul_assoc h B P]at q;omega
 have s:V≤(b*B+d+1)*P:=by rw[Nat.add_mul,Nat.add_mul,Nat.one_mul,Nat.mul_assoc];omega
 have z:c*V≤c*(b*B+d+1)*P:=by rw[Nat.mul_assoc];exact Nat.mul_le_mul_left _ s
 have t:(c+1)*(b*B+d)<c*(b*B+d+1):=by apply Nat.lt_of_mul_lt_mul_right (a:=P);omega
 rw[Nat.add_mul,Nat.one_mul,Nat.mul_add c (b*B+d) 1,Nat.mul_one]at t;have A:1*B≤b*B:=Nat.mul_le_mul_right _ e;omega
def Wz(B c d b g r:Nat)(e:c≤b)(f:d<B)(h:g*b+r=c*B+d)(i:B≤r):g<B:=by apply Nat.lt_of_mul_lt_mul_right (a:=b);have:c*B≤b*B:=Nat.mul_le_mul_right _ e;rw[Nat.mul_comm B b];omega
def VO(B g a r b:Nat)(d:g<B)(e:a<B)(c:B≤r):g*a≤r*B+b:=by have f:g*a≤B*B:=Nat.mul_le_mul (by omega) (by omega);have h:B*B≤r*B:=Nat.mul_le_mul_right _ c;omega
def Oj(B:Nat)(us:List Nat)(j n:Nat)(h:j+n+3≤us.length)(a:val B (us.drop (j+n+3))=0):
 val B (us.drop j)=(us.getD (j+n+2) 0*B+us.getD (j+n+1) 0)*(B*B ^ n)+us.getD (j+n) 0*B ^ n+val B ((us.drop j).take n):=by
 rw[vv B (us.drop j) n (by rw[List.length_drop];omega),List.drop_drop,xb B us (j+n) (by omega),xb B us (j+n+1) (by omega),xb B us (j+n+2) (by omega),a];simp only[Nat.mul_zero,Nat.add_zero];have b:B ^ n*(us.getD (j+n) 0+B*(us.getD (j+n+1) 0+B*us.getD (j+n+2) 0))=(us.getD (j+n+2) 0*B+us.getD (j+n+1) 0)*(B*B ^ n)+us.getD (j+n) 0*B ^ n:=by generalize us.getD (j+n) 0=x;generalize us.getD (j+n+1) 0=y;generalize us.getD (j+n+2) 0=z;generalize B ^ n=P;rw[Nat.mul_add,Nat.mul_comm P x,Nat.mul_left_comm P B,Nat.mul_left_comm (z*B+y) B P,Nat.mul_comm P,Nat.add_comm,Nat.add_comm y,Nat.mul_comm B z]
 omega
def Oi(B:Nat)(v:List Nat)(n:Nat)(h:v.length=n+2):
 val B v=v.getD (n+1) 0*(B*B ^ n)+v.getD n 0*B ^ n+val B (v.take n):=by
 rw[vv B v n (by omega),xb B v n (by omega),xb B v (n+1) (by omega),List.drop_of_length_le (by omega)];simp only[val,Nat.mul_zero,Nat.add_zero];have a:B ^ n*(v.getD n 0+B*v.getD (n+1) 0)=v.getD (n+1) 0*(B*B ^ n)+v.getD n 0*B ^ n:=by generalize v.getD n 0=x;generalize v.getD (n+1) 0=y;generalize B ^ n=P;rw[Nat.mul_add,Nat.mul_comm P x,Nat.mul_left_comm P B y,Nat.mul_left_comm y B P,Nat.mul_comm P y,Nat.add_comm]
 omega
def LS(B:Nat)(hB:0<B)(us:List Nat)(p:Nat)(h:val B us<B ^ p)(a:p≤us.length):val B (us.drop p)=0:=by rw[vv B us p a]at h;apply Classical.byContradiction;intro b;have:=Nat.mul_le_mul_left (B ^ p) (show 1≤val B (us.drop p) by omega);omega
def VN(B j i q a c d g b f k R:Nat)(us v:List Nat)(u:q≤us.length)(l:j+i<q)(m:us.getD (j+i) 0=a)(n:v.getD i 0=b)(o:f+(c+g*b) % B+d=a+B*k)(h:val B (us.take q)+B ^ j*(g*val B (v.take i))=R+B ^ (j+i)*(c+d)):
 val B ((us.set (j+i) f).take q)+B ^ j*(g*val B (v.take (i+1)))=R+B ^ (j+(i+1))*((c+g*b) / B+k):=by
 rw[Pz];have p:=DC B (us.take q) (j+i) f (by rw[List.length_take];omega);rw[LB _ _ _ l,m]at p;have e:=Nat.mod_add_div (c+g*b) B;rw[sW,n,Nat.mul_add g,Nat.mul_add (B ^ j),show j+(i+1)=j+i+1 from by omega,Nat.pow_succ];have r:B ^ j*(g*(B ^ i*b))=B ^ (j+i)*(g*b):=by rw[Nat.pow_add,Nat.mul_left_comm g,Nat.mul_assoc]
 have s:B ^ (j+i)*(f+(c+g*b) % B+d)=B ^ (j+i)*(a+B*k):=by rw[o]
 have t:B ^ (j+i)*((c+g*b) % B+B*((c+g*b) / B))=B ^ (j+i)*(c+g*b):=by rw[e]
 rw[r,Nat.mul_add (B ^ (j+i)*B),Nat.mul_assoc,Nat.mul_assoc];simp only[Nat.mul_add]at s t h ⊢;omega
def VM(B j n a c d g L m V U:Nat)(w:L<B ^ (j+n))(x:U=m+B ^ (j+n)*a)(o:0<V)(f:V≤B ^ n)(h:L+B ^ j*(g*V)=m+B ^ (j+n)*(c+d))(p:U / (B ^ j*V)≤g)(s:g≤U / (B ^ j*V)+1)(hB:0<B):
 (g=U / (B ^ j*V)∧a=c+d∧L=U % (B ^ j*V))∨(g=U / (B ^ j*V)+1∧a+1=c+d∧L+B ^ j*V=U % (B ^ j*V)+B ^ (j+n)):=by
 have t:0<B ^ j*V:=Nat.mul_pos (Nat.pow_pos hB) o;have y:=Nat.div_add_mod U (B ^ j*V);have z:=Nat.mod_lt U t;have u:B ^ j*V≤B ^ (j+n):=by rw[Nat.pow_add];exact Nat.mul_le_mul_left _ f
 have v:B ^ j*(g*V)=B ^ j*V*g:=by rw[Nat.mul_comm g V,Nat.mul_assoc]
 rw[v]at h;generalize U / (B ^ j*V)=q at*;generalize U % (B ^ j*V)=r at*;generalize B ^ j*V=D at*;generalize B ^ (j+n)=T at*;have A:0<T:=by omega
 rcases(show g=q∨g=q+1 by omega) with rfl|rfl
 ·
  left;have i:L+T*a=r+T*(c+d):=by omega
  have e:a=c+d:=by
   rcases Nat.lt_trichotomy a (c+d) with k|b|l
   ·
    have:=Nat.mul_le_mul_left T (show a+1≤c+d by omega);rw[Nat.mul_add]at this;omega
   · exact b
   ·
    have:=Nat.mul_le_mul_left T (show c+d+1≤a by omega);rw[Nat.mul_add]at this;omega
  refine⟨rfl,e,?_⟩;rw[e]at i;omega
 ·
  right;rw[Nat.mul_add,Nat.mul_one]at h;have i:L+D+T*a=r+T*(c+d):=by omega
  have e:a+1=c+d:=by
   rcases Nat.lt_trichotomy (a+1) (c+d) with k|b|l
   ·
    have:=Nat.mul_le_mul_left T (show a+2≤c+d by omega);rw[Nat.mul_add]at this;omega
   · exact b
   · have:=Nat.mul_le_mul_left T (show c+d≤a by omega)
     omega
  refine⟨rfl,e,?_⟩;rw[←e,Nat.mul_add]at i;omega
def VL(a lo d:Nat)(f:a<4294967296)(e:lo<4294967296)(g:d≤1):∃b c:Nat,b<4294967296∧c≤1∧b+lo+d=a+4294967296*c∧
 ((((a:Int) - lo) % 18446744073709551616 - d) % 18446744073709551616) % 4294967296=(b:Int)∧((((a:Int) - lo) % 18446744073709551616 - d) % 18446744073709551616) / 9223372036854775808=(c:Int):=by
 by_cases h:a<lo+d
 · exact⟨a+4294967296 - lo - d,1,by omega,by omega,by omega,by omega,by omega⟩
 · exact⟨a - lo - d,0,by omega,by omega,by omega,by omega,by omega⟩
def Oh(B:Nat)(us:List Nat)(p a:Nat)(b:p<us.length)(c:us.getD p 0=a)(d:val B (us.drop (p+1))=0):val B us=val B (us.take p)+B ^ p*a:=by rw[vv B us p (by omega),xb B us p b,d,c];simp
def VK{B:Nat}(hB:0<B)(c:Small B us)(j:Nat)(a:j≤us.length):val B us / B ^ j=val B (us.drop j):=by have b:=qi hB (c.take j);rw[List.length_take,Nat.min_eq_left a]at b;rw[vv B us j a,Nat.add_mul_div_left _ _ (Nat.pow_pos hB),Nat.div_eq_of_lt b,Nat.zero_add]
structure nF (X V n M k:Nat) (us qs:List Nat):Prop where
 ulen:us.length=M+n+3
 qlen:qs.length=M+1
 usmall:Small 4294967296 us
 qsmall:Small 4294967296 qs
 eq:val 4294967296 us+4294967296 ^ k*V*val 4294967296 (qs.drop k)=X
 lt:val 4294967296 us<4294967296 ^ k*V
def nF.zero{a:List Nat}(h:nF X V n M (j+1) us a)(c:j≤M)(d:V<4294967296 ^ (n+2)):val 4294967296 (us.drop (j+n+3))=0:=by
 apply LS _ (by omega)
 ·
  have e:=h.lt;have b:4294967296 ^ (j+1)*V≤4294967296 ^ (j+1)*4294967296 ^ (n+2):=Nat.mul_le_mul_left _ (by omega);rw[←Nat.pow_add,show j+1+(n+2)=j+n+3 from by omega]at b;omega
 · rw[h.ulen];omega
def nF.FZ{b:List Nat}(h:nF X V n M (j+1) us b)(c:0<V):val 4294967296 us / (4294967296 ^ j*V)<4294967296:=by rw[Nat.div_lt_iff_lt_mul (Nat.mul_pos (Nat.pow_pos (by omega)) c)];have a:=h.lt;rw[Nat.pow_succ,Nat.mul_comm (4294967296 ^ j) 4294967296,Nat.mul_assoc]at a;exact a
def nF.F8{H v:List Nat}(h:nF X V n M (j+1) us H)(I:j≤M)(f:Num 4294967296 v V)(i:v.length=n+2){m s k:Nat}(J:us.getD (j+(n+2)) 0=m)(E:us.getD (j+(n+1)) 0=s)(F:us.getD (j+n) 0=k)(f1:v.getD (n+1) 0=b)(f0:v.getD n 0=c)(K:1≤b)(l:m*4294967296+s=e)(L:val 4294967296 us / (4294967296 ^ j*V)=Q):
 Q≤e / b∧(∀g r,g*b+r=e→r*4294967296+k<g*c→Q<g)∧(∀g r,g*b+r=e→g<4294967296→g*c≤r*4294967296+k→g≤Q+1)∧(∀g r,g*b+r=e→4294967296≤r→g<4294967296):=by
 have o:=qi (B:=4294967296) (by omega) f.small;rw[f.eq,i]at o;have N:=h.zero I o;have u:0<V:=by have:=f.trim.pK (B:=4294967296) (by omega);rw[f.eq]at this;have O:0<4294967296 ^ (v.length - 1):=Nat.pow_pos (by omega);omega
 have hW:=Oj 4294967296 us j n (by rw[h.ulen];omega) N;have d:=Oi 4294967296 v n i;rw[show j+n+2=j+(n+2) from by omega,show j+n+1=j+(n+1) from by omega,J,E,F,l]at hW;rw[f1,f0,f.eq]at d;have w:0<4294967296 ^ n:=Nat.pow_pos (by omega);have p:val 4294967296 ((us.drop j).take n)<4294967296 ^ n:=by have:=qi (B:=4294967296) (by omega) ((h.usmall.drop j).take n);rw[List.length_take,List.length_drop,h.ulen,Nat.min_eq_left (by omega)]at this;exact this
 have x:val 4294967296 (v.take n)<4294967296 ^ n:=by have:=qi (B:=4294967296) (by omega) (f.small.take n);rw[List.length_take,i,Nat.min_eq_left (by omega)]at this;exact this
 have y:k<4294967296:=by rw[←F];exact h.usmall.getD (by omega) _
 have z:s<4294967296:=by rw[←E];exact h.usmall.getD (by omega) _
 have G:c<4294967296:=by rw[←f0];exact f.small.getD (by omega) _
 have A:Q=val 4294967296 (us.drop j) / V:=by rw[←L,←Nat.div_div_eq_div_mul,VK (by omega) h.usmall j (by rw[h.ulen];omega)]
 have P:val 4294967296 (us.drop j)<4294967296*V:=by have R:=h.lt;have O:=vv 4294967296 us j (by rw[h.ulen];omega);rw[Nat.pow_succ,Nat.mul_assoc]at R;apply Nat.lt_of_mul_lt_mul_left (a:=4294967296 ^ j);omega
 have C:m≤b:=by
  apply Classical.byContradiction;intro t;have S:(b+1)*(4294967296*(4294967296*4294967296 ^ n))≤m*(4294967296*(4294967296*4294967296 ^ n)):=Nat.mul_le_mul_right _ (by omega);have U:m*(4294967296*(4294967296*4294967296 ^ n))≤val 4294967296 (us.drop j):=by rw[hW,←l,Nat.add_mul,Nat.mul_assoc];omega
  have W:c*4294967296 ^ n+4294967296 ^ n≤4294967296*4294967296 ^ n:=by have:=Nat.mul_le_mul_right (4294967296 ^ n) (show c+1≤4294967296 by omega);rw[Nat.add_mul,Nat.one_mul]at this;exact this
  have Y:4294967296*V<4294967296*((b+1)*(4294967296*4294967296 ^ n)):=by apply Nat.mul_lt_mul_of_pos_left _ (by omega);rw[Nat.add_mul,Nat.one_mul];omega
  rw[Nat.mul_left_comm]at S;omega
 refine⟨?_,?_,?_,?_⟩
 · rw[A];exact Ok _ _ e k _ b c _ _ V w (by omega) hW d p y (by omega)
 · intro g r q t;rw[A];exact LU _ _ e k _ b c _ _ V g r w hW d p u q t
 · intro g r q D t;rw[A];exact WA _ _ e k _ b c _ _ V g r w hW d x (by omega) q D t
 · intro g r q T;exact Wz _ m s b g r C z (by rw[l];exact q) T
def nF.next{b a:List Nat}(h:nF X V n M (j+1) us b)(m:j≤M)(c:0<V)(d:val 4294967296 us / (4294967296 ^ j*V)=Q)(hl:a.length=M+n+3)(g:Small 4294967296 a)(e:val 4294967296 a=val 4294967296 us % (4294967296 ^ j*V)):nF X V n M j a (b.set j Q):=by have i:0<4294967296 ^ j*V:=Nat.mul_pos (Nat.pow_pos (by omega)) c;have f:=h.FZ c;rw[d]at f;refine⟨hl,by rw[List.length_set];exact h.qlen,g,h.qsmall.set j f,?_,by rw[e];exact Nat.mod_lt _ i⟩;have k:=h.eq;have l:=Nat.div_add_mod (val 4294967296 us) (4294967296 ^ j*V);rw[d]at l;rw[GU _ j (by rw[List.length_set,h.qlen];omega),DE,DB _ _ _ (by rw[h.qlen];omega),List.drop_set_of_lt (by omega),e,Nat.mul_add];rw[Nat.pow_succ,Nat.mul_assoc (4294967296 ^ j) 4294967296 V,Nat.mul_left_comm,Nat.mul_assoc 4294967296 _ _,Nat.mul_left_comm 4294967296]at k;omega
def LR{x y p R:Nat}(c:0<p)(d:x*p=X)(a:y*p=V)(h:R+V*Q=X)(e:R<V):Q=x / y∧R / p=x % y:=by
 have i:0<y:=by
  rcases Nat.eq_zero_or_pos y with b|b
  · rw[b,Nat.zero_mul]at a;omega
  · exact b
 have f:Q=x / y:=by rw[←Nat.mul_div_mul_right x y c,d,a,←h,Nat.add_mul_div_left _ _ (by omega),Nat.div_eq_of_lt e,Nat.zero_add]
 refine⟨f,?_⟩;have g:R=X % V:=by rw[←h,Nat.add_mul_mod_self_left,Nat.mod_eq_of_lt e]
 rw[g,←d,←a,Nat.mul_mod_mul_right,Nat.mul_div_cancel _ c]
theorem LQ(B:Nat):∀(l:List Nat),(∀i,l.getD i 0=0)→val B l=0
 | [],_=>rfl
 |d :: l,h=>by have a:d=0:=h 0;have b:=LQ B l (fun i=>h (i+1));rw[DE,a,b];simp
theorem LP(B:Nat)(hB:0<B):∀(l:List Nat),val B l=0→∀i,l.getD i 0=0
 | [],_,i=>by simp
 |d :: l,h,i=>by
  rw[DE]at h;have b:val B l=0:=by
   rcases Nat.eq_zero_or_pos (val B l) with a|a
   · exact a
   · have:=Nat.mul_pos hB a;omega
  match i with
  |0=>show d=0;omega
  |i+1=>exact LP B hB l b i
def Iw(l:List Nat)(k i:Nat):(l.drop k).getD i 0=l.getD (k+i) 0:=by rw[List.getD_eq_getElem?_getD,List.getD_eq_getElem?_getD,List.getElem?_drop]
def VJ(B:Nat)(hB:0<B)(us:List Nat)(q:Nat)(h:val B (us.drop (q+1))=0)(p:Nat)(a:q<p):us.getD p 0=0:=by have:=LP B hB _ h (p - (q+1));rw[Iw,show q+1+(p - (q+1))=p from by omega]at this;exact this
def VI(B:Nat)(us:List Nat)(q:Nat)(h:∀p,q<p→us.getD p 0=0):val B (us.drop (q+1))=0:=
 LQ B _ (fun i=>by rw[Iw];exact h _ (by omega))
def Og(B:Nat)(us:List Nat)(q:Nat)(a:q<us.length)(b:∀p,q<p→us.getD p 0=0):val B (us.set q 0)=val B (us.take q):=by rw[Oh B (us.set q 0) q 0 (by rw[List.length_set];exact a) (DB _ _ _ a) (VI _ _ _ (fun p c=>by rw[getD_set_ne _ _ _ _ (by omega)];exact b p c)),List.take_set_of_le (Nat.le_refl _)];simp
def VH(L T c r D:Nat)(a:L<T)(b:r<D)(d:D≤T)(e:c≤1)(h:L+T*c=r+T):c=1∧L=r:=by
 have:c=0∨c=1:=by omega
 rcases this with rfl|rfl
 · omega
 · exact⟨rfl,by omega⟩
def uS(w:Vz)(x y:Nat)(e:As)(w':Vz):Prop:=
 (∃a cap r a' cap' r',e=.returned (.tuple #[.slice a r.length cap,.slice a' r'.length cap'])/\j7 w' a cap r (x / y)/\j7 w' a' cap' r' (x % y))/\Below w.heap.size w w'
def YX(c d:Vx)(c1 c2:Nat)(l m:Vy)(x y:Nat)(w:Vz)(h:j7 w c c1 l x)(f:j7 w d c2 m y)(b:x<y):
 Calls prog 185 #[.slice c l.length c1,.slice d m.length c2] w (uS w x y):=by
 have j:=f.short;have k:((m.length:Int) == 0)=false:=by rw[aJ];have:=(f.num.eV oO).2;omega
 have n:=(zM x y).2 b;go_enter func185,ntmps185;go_wp2_with fail;refine(DH c d c1 c2 l m x y w h f).mono ?_;rintro e w1 ⟨rfl,hb⟩;go_wp2_with fail;refine(IQ c c1 l x w1 (h.below hb)).mono ?_;rintro e w2 ⟨⟨a,cap,rfl,i⟩,g⟩;go_wp2;go_ret2;refine⟨⟨none,0,[],a,cap,l,rfl,?_,?_⟩,hb.trans (g.mono hb.size)⟩
 . rw[jG b];exact⟨qS _ _,rH _,sS⟩
 . rw[kH b];exact i
def YW(k n:Vx)(c1 c2:Nat)(l m:Vy)(x y:Nat)(w:Vz)(c:j7 w k c1 l x)(d:j7 w n c2 m y)(L:0<y)(F:y<=x)(hl:l.length<=2):
 Calls prog 185 #[.slice k l.length c1,.slice n m.length c2] w (uS w x y):=by
 have M:=d.short;have N:((m.length:Int) == 0)=false:=by rw[aJ];have:=(d.num.eV oO).2;omega
 have G:m.length<=l.length:=by apply bC;intro C;have:=zN (B:=4294967296) oO c.num.small d.num.trim oO;rw[c.num.eq,d.num.eq]at this;omega
 have C:¬kZ x y<0:=by rw[zM];omega
 have f:x<18446744073709551616:=by have H:=qi (B:=4294967296) oO c.num.small;have P:=FK (B:=4294967296) oO hl;rw[c.num.eq]at H;omega
 go_enter func185,ntmps185;go_wp2_with fail;refine(DH k n c1 c2 l m x y w c d).mono ?_;rintro e w1 ⟨rfl,hb⟩;go_wp2_with fail;refine(FN k c1 l x w1 (c.below hb) hl).mono ?_;rintro e w2 ⟨rfl,rfl⟩;go_wp2_with fail;refine(FN n c2 m y _ (d.below hb) oO).mono ?_;rintro e Q ⟨rfl,rfl⟩;have R:((y:Int) == 0)=false:=by rw[aJ];omega
 obtain⟨q,p⟩:=nm (x / y);obtain⟨r,s⟩:=nm (x % y);have t1:(x:Int) / (y:Int)=(q:Int):=by rw[<-p];simp
 have t2:(x:Int) % (y:Int)=(r:Int):=by rw[<-s];simp
 have t3:(x:Int).tmod (y:Int)=(r:Int):=by rw[kN oO];exact t2
 have t4:(x:Int).tdiv (y:Int)=(q:Int):=by rw[nw oO];exact t1
 have t:q<18446744073709551616:=by rw[<-p];exact bQ (mR _ _) f
 have I:r<18446744073709551616:=by rw[<-s];exact bQ (Nat.mod_le _ _) f
 have t5:=FM q t;have J:O (x / y=q):=p;have K:O (x % y=r):=s;clear p s C;go_wp2;go_region_with (first|(go_at_call_of 135 (Value.int IntKind.u64 (q:Int));refine(DG _ _ ?_ ?_).mono ?_;omega;omega;rintro e S ⟨⟨u,g,v,rfl,h,D⟩,a⟩)|(go_at_call_of 135 (Value.int IntKind.u64 (r:Int));refine(DG _ _ ?_ ?_).mono ?_;omega;omega;rintro e T ⟨⟨z,i,A,rfl,j,E⟩,b⟩))
 all_goals
  go_wp2;go_ret2;rw[fC]at h j;refine⟨⟨u,g,v,z,i,A,rfl,?_,?_⟩,hb.drew.trans ((a.mono hb.size).trans (b.mono (aE hb.size a.size)))⟩
  . rw[J.o];exact h.below b
  . rw[K.o];exact j
theorem YV(g v:Vx)(c1 c2:Nat)(l m:Vy)(x y:Nat)(w:Vz)(p:j7 w g c1 l x)(k:j7 w v c2 m y)(A:0<y)(C:y<=x)(hl:2<l.length)(D:m.length=1):
 Calls prog 185 #[.slice g l.length c1,.slice v m.length c2] w (uS w x y):=by
 have K:=p.short;have E:¬kZ x y<0:=by rw[zM];omega
 obtain⟨d,rfl⟩:∃d,m= [d]:=by
  match m,D with
  | [d],_=>exact⟨d,rfl⟩
 have q:d=y:=by have:=k.num.eq;simp[val]at this;exact this
 subst q;have h:=k.num.small d sS;obtain⟨b,c,rfl,s,f⟩:=k.row.cell 0 sS;have f:w.cell? ⟨b,c,none⟩=some (.int .u32 (d:Int)):=sU f
 show Calls prog 185 #[.slice g l.length c1,.slice (some ⟨b,c,none⟩) 1 c2] w (uS w x d)
 go_enter func185,ntmps185;go_wp2_with fail;refine(DH g (some ⟨b,c,none⟩) c1 c2 l [d] x d w p k).mono ?_;rintro e w1 ⟨rfl,hb⟩;have B:=ce hb s f;go_wp2_with fail;refine(Yj g c1 d l x w1 (p.below hb) A h).mono ?_;rintro e w2 ⟨⟨a,cap,r,rfl,F⟩,i⟩;have t:x % d<4294967296:=JF (eU _ A) h;obtain⟨z,n⟩:=nm (x % d);have G:O (x % d=z):=n;rw[n]at t;rw[n];clear n E;go_wp2_with fail;refine(B9 w2.heap.size 1 1 z [z] _ (mn .u32 213 w2 [z]) rfl ?_ lZ oO (by simp[val])).mono ?_
 . intro e H;simp at H;omega
 rintro e L ⟨⟨I,cap',J,rfl,u⟩,rfl⟩;go_wp2;go_ret2;have j:Bl w2 (w2.alloc (.cells (dA .u32 [z]) 213)):=bR.alloc lZ _;refine⟨⟨a,cap,r,I,cap',J,rfl,F.below j,?_⟩,hb.trans ((i.mono hb.size).trans (j.mono (aE hb.size i.size)))⟩;rw[G.o];exact u
def mE:Code->List Code
 | .loop c=>c :: mE c
 | .seq a b=>mE a++mE b
 | .block _ c=>mE c
 | .scope c=>mE c
 | .cond _ a b=>mE a++mE b
 |_=>[]
structure jt (w3 wr:Vz) (bv ov gu gq n L:Nat) (v us qs:Vy):Prop where
 below:Below gu w3 wr
 bvlt:bv<gu
 cell:∀i,i<n+2->w3.cell? ⟨bv,ov+i,none⟩=some (.int .u32 ((v.getD i 0:Nat):Int))
 vsmall:Small 4294967296 v
 ub:jf .u32 213 wr gu us
 qb:jf .u32 213 wr gq qs
 ne:gu<gq
 ul:us.length=L
 usmall:Small 4294967296 us
def jt.C4{c:Vz}{us:Vy}(h:jt c wr a b d e n L v us f)(i:Nat)(g:i<n+2):wr.cell? ⟨a,b+i,none⟩=some (.int .u32 ((v.getD i 0:Nat):Int)):=
 (h.below.cell (p:=⟨a,b+i,none⟩) h.bvlt).trans (h.cell i g)
def jt.drew{a:Vz}{us:Vy}(h:jt a wr b c d e n L v us f):jt a wr.drew b c d e n L v us f:=
 ⟨h.below.drew,h.bvlt,h.cell,h.vsmall,h.ub.drew,h.qb.drew,h.ne,h.ul,h.usmall⟩
def jt.drewN{a:Vz}{us:Vy}(h:jt a wr b c d e n L v us f)(k:Nat):jt a (wr.drewN k) b c d e n L v us f:=
 ⟨⟨h.below.os,h.below.tape,h.below.output,h.below.size,h.below.block⟩,h.bvlt,h.cell,h.vsmall,h.ub,h.qb,h.ne,h.ul,h.usmall⟩
def jt.A0{b:Vz}{us:Vy}(h:jt b wr c d a e n L v us f)(i x:Nat)(g:x<4294967296):jt b (wr.setCell ⟨a,i,none⟩ (.int .u32 (x:Int))) c d a e n L v (us.set i x) f:=
 ⟨h.below.setCell lZ _,h.bvlt,h.cell,h.vsmall,h.ub.set i x,h.qb.other (oB h.ne) i _,h.ne,by rw[aQ];exact h.ul,h.usmall.set i g⟩
def jt.FV{c:Vz}{us:Vy}(h:jt c wr d e b a n L v us f)(i x:Nat):jt c (wr.setCell ⟨a,i,none⟩ (.int .u32 (x:Int))) d e b a n L v us (f.set i x):=
 ⟨h.below.setCell (by have:=h.ne;show b<=a;omega) _,h.bvlt,h.cell,h.vsmall,h.ub.other (oB h.ne) i _,h.qb.set i x,h.ne,h.ul,h.usmall⟩
def Yt(B j i q c b a R:Nat)(us v:Vy)(g:q<=us.length)(d:i+j<q)(f:us.getD (i+j) 0=a)(k:v.getD i 0=b)(h:val B (us.take q)+B ^ (j+i)*c=R+B ^ j*val B (v.take i)):
 val B ((us.set (i+j) ((c+(a+b)) % B)).take q)+B ^ (j+(i+1))*((c+(a+b)) / B)=R+B ^ j*val B (v.take (i+1)):=by
 rw[tR i j]at d f ⊢;have e:=Py B (j+i) q c b a _ us g d f h;rw[show c+(a+b)=c+(b+a) from by omega,show j+(i+1)=j+i+1 from by omega,e,sW,k,cF,<-dQ (B ^ j),<-eG];omega
def wM(Q:Ab)(w3:Vz)(bv ov cv gu gq n j L R a2:Nat)(v qs:Vy)(x10 x15 x16 x17 x20:Ac):Prop:=
 ∀(c:Nat)(us:Vy) {e0 e1 e2 e3 e4 e5 e6 e7 e8 e9 ef el ep es et eu ev ew ex ey ez d0 d1 d2 d3 d4 d5 d6 d7 d8 d9 da db dc dd de df dg dh di dj dk dl dm dn dp dq dr ds dt du dv dw dx dy dz k0 k1 k2 k3 k4 k5 k6 k7 k8 k9 ka kb kc kd ke kf kg kh ki kj kk kl km kn ko kp kq kr ks kt ku kv kw kx ky kz p0 p1 p2 p3 p4 p5 p6 p7 p8 p9 pa pb pc pd pe pf pg ph pi pj pk pl pm pn po pp pq pr ps pt pu pv pw px py pz y0 y1 y2 y3 y4 y5 y6 y7 y8 y9 ya yb yc yd ye yf yg yh yi yj yk yl ym yn yo yp yq yr ys yt yu yv yw yx yy yz z0 z1 z2 z3 z4 z5 z6 z7 z8 z9 za zb zc zd ze zf zg zh zi zj zk zl zm zn zo zp zq zr zs zt zu zv zw zx zy zz E0 E1 E2 E3 E4 E5 E6 E7 E8 E9 Ea Eb Ec Ed Ee Ef Eg Eh Ei Ej Ek El Em En Eo Ep Eq Er Es Et Eu Ev Ew Ex Ey Ez K0 K1 K2 K3 K4 K5 K6 K7 K8 K9 Ka Kb Kc Kd Ke Kf Kg Kh Ki Kj Kk Kl Km Kn Ko Kp Kq:Ac} (wr:Vz),jt w3 wr bv ov gu gq n L v us qs->c<=1->us.getD (j+(n+2)) 0=a2->(∀p,j+(n+2)<p->us.getD p 0=0)->
    val 4294967296 (us.take (j+(n+2)))+4294967296 ^ (j+(n+2))*c=R+4294967296 ^ j*val 4294967296 (v.take (n+2))->
    Q (.exit 6) ⟨#[e0,e1,e2,e3,e4,e5,e6,e7,e8,e9,x10,.slice (some ⟨bv,ov,none⟩) (n+2) cv,.slice (some ⟨gu,0,none⟩) L L,.int .i64 ((n:Int)+2),ef,x15,x16,x17,.int .i64 (j:Int),el,x20,ep,.int .u64 (c:Int),es,et,eu,ev,ew,ex,ey,ez,d0,d1,d2,d3,d4,d5,d6,d7,d8,d9,da,db,dc,dd,de,df,dg,dh,di,dj,dk,dl,dm,dn,dp,dq,dr,ds,dt,du,dv,dw,dx,dy,dz,k0,k1,k2,k3,k4,k5,k6,k7,k8,k9,ka,kb,kc,kd,ke,kf,kg,kh,ki,kj,kk,kl,km,kn,ko,kp,kq,kr,ks,kt,ku,kv,kw,kx,ky,kz,p0,p1,p2,p3,p4,p5,p6,p7,p8,p9,pa,pb,pc,pd,pe,pf,pg,ph,pi,pj,pk,pl,pm,pn,po,pp,pq,pr,ps,pt,pu,pv,pw,px,py,pz,y0,y1,y2,y3,y4,y5,y6,y7,y8,y9,ya,yb,yc,yd,ye,yf,yg,yh,yi,yj,yk,yl,ym,yn,yo,yp,yq,yr,ys,yt,yu,yv,yw,yx,yy,yz,z0,z1,z2,z3,z4,z5,z6,z7,z8,z9,za,zb,zc,zd,ze,zf,zg,zh,zi,zj,zk,zl,zm,zn,zo,zp,zq,zr,zs,zt,zu,zv,zw,zx,zy,zz,E0,E1,E2,E3,E4,E5,E6,E7,E8,E9,Ea,Eb,Ec,Ed,Ee,Ef,Eg,Eh,Ei,Ej,Ek,El,Em,En,Eo,Ep,Eq,Er,Es,Et,Eu,Ev,Ew,Ex,Ey,Ez,K0,K1,K2,K3,K4,K5,K6,K7,K8,K9,Ka,Kb,Kc,Kd,Ke,Kf,Kg,Kh,Ki,Kj,Kk,Kl,Km,Kn,Ko,Kp,Kq],[]⟩ wr
def vr(Q:Ab)(w3:Vz)(bv ov cv gu gq n j L R a2:Nat)(v qs:Vy)(x10 x15 x16 x17 x20:Ac)(t:Nat):Prop:=
 ∀(i c:Nat)(us:Vy) {e0 e1 e2 e3 e4 e5 e6 e7 e8 e9 ef el ep es et eu ev ex ey ez d0 d1 d2 d3 d4 d5 d6 d7 d8 d9 da db dc dd de df dg dh di dj dk dl dm dn dp dq dr ds dt du dv dw dx dy dz k0 k1 k2 k3 k4 k5 k6 k7 k8 k9 ka kb kc kd ke kf kg kh ki kj kk kl km kn ko kp kq kr ks kt ku kv kw kx ky kz p0 p1 p2 p3 p4 p5 p6 p7 p8 p9 pa pb pc pd pe pf pg ph pi pj pk pl pm pn po pp pq pr ps pt pu pv pw px py pz y0 y1 y2 y3 y4 y5 y6 y7 y8 y9 ya yb yc yd ye yf yg yh yi yj yk yl ym yn yo yp yq yr ys yt yu yv yw yx yy yz z0 z1 z2 z3 z4 z5 z6 z7 z8 z9 za zb zc zd ze zf zg zh zi zj zk zl zm zn zo zp zq zr zs zt zu zv zw zx zy zz E0 E1 E2 E3 E4 E5 E6 E7 E8 E9 Ea Eb Ec Ed Ee Ef Eg Eh Ei Ej Ek El Em En Eo Ep Eq Er Es Et Eu Ev Ew Ex Ey Ez K0 K1 K2 K3 K4 K5 K6 K7 K8 K9 Ka Kb Kc Kd Ke Kf Kg Kh Ki Kj Kk Kl Km Kn Ko Kp Kq:Ac} (wr:Vz),i+t=n+2->jt w3 wr bv ov gu gq n L v us qs->c<=1->us.getD (j+(n+2)) 0=a2->(∀p,j+(n+2)<p->us.getD p 0=0)->
    val 4294967296 (us.take (j+(n+2)))+4294967296 ^ (j+i)*c=R+4294967296 ^ j*val 4294967296 (v.take i)->
    Code.rounds prog (((Tryz.f185.body.map mE).getD []).getD 3 .skip) Q (t+1) ⟨#[e0,e1,e2,e3,e4,e5,e6,e7,e8,e9,x10,.slice (some ⟨bv,ov,none⟩) (n+2) cv,.slice (some ⟨gu,0,none⟩) L L,.int .i64 ((n:Int)+2),ef,x15,x16,x17,.int .i64 (j:Int),el,x20,ep,.int .u64 (c:Int),es,et,eu,ev,.int .i64 (i:Int),ex,ey,ez,d0,d1,d2,d3,d4,d5,d6,d7,d8,d9,da,db,dc,dd,de,df,dg,dh,di,dj,dk,dl,dm,dn,dp,dq,dr,ds,dt,du,dv,dw,dx,dy,dz,k0,k1,k2,k3,k4,k5,k6,k7,k8,k9,ka,kb,kc,kd,ke,kf,kg,kh,ki,kj,kk,kl,km,kn,ko,kp,kq,kr,ks,kt,ku,kv,kw,kx,ky,kz,p0,p1,p2,p3,p4,p5,p6,p7,p8,p9,pa,pb,pc,pd,pe,pf,pg,ph,pi,pj,pk,pl,pm,pn,po,pp,pq,pr,ps,pt,pu,pv,pw,px,py,pz,y0,y1,y2,y3,y4,y5,y6,y7,y8,y9,ya,yb,yc,yd,ye,yf,yg,yh,yi,yj,yk,yl,ym,yn,yo,yp,yq,yr,ys,yt,yu,yv,yw,yx,yy,yz,z0,z1,z2,z3,z4,z5,z6,z7,z8,z9,za,zb,zc,zd,ze,zf,zg,zh,zi,zj,zk,zl,zm,zn,zo,zp,zq,zr,zs,zt,zu,zv,zw,zx,zy,zz,E0,E1,E2,E3,E4,E5,E6,E7,E8,E9,Ea,Eb,Ec,Ed,Ee,Ef,Eg,Eh,Ei,Ej,Ek,El,Em,En,Eo,Ep,Eq,Er,Es,Et,Eu,Ev,Ew,Ex,Ey,Ez,K0,K1,K2,K3,K4,K5,K6,K7,K8,K9,Ka,Kb,Kc,Kd,Ke,Kf,Kg,Kh,Ki,Kj,Kk,Kl,Km,Kn,Ko,Kp,Kq],[]⟩ wr
def Ys(Q:Ab)(h:Vz)(k l t m q n j L R r:Nat)(v s:Vy)(b d e f g:Ac)(E:L<=1099511627776)(F:j+(n+2)<L)(a:wM Q h k l t m q n j L R r v s b d e f g):vr Q h k l t m q n j L R r v s b d e f g 0:=by
 intro i c us
 iterate 262 intro
 intro wr G u z w x y;obtain rfl:i=n+2:=oO;have A:O (val 4294967296 (us.take (j+(n+2)))+4294967296 ^ (j+(n+2))*c=R+4294967296 ^ j*val 4294967296 (v.take (n+2))):=y;have B:O (jt h wr k l m q n L v us s):=u;have C:O (∀p,j+(n+2)<p->us.getD p 0=0):=x;have D:O (us.getD (j+(n+2)) 0=r):=w;clear y u x w;rw[kM]
 conv=>arg 2;whnf
 go_wp2;exact a _ _ _ B.o z D.o C.o A.o
def Yq(Q:Ab)(r:Vz)(s u D w x n j L R y:Nat)(v z:Vy)(f g h k l:Ac)(Z:L<=1099511627776)(hj:j+(n+2)<L)(t:Nat)(J:vr Q r s u D w x n j L R y v z f g h k l t):vr Q r s u D w x n j L R y v z f g h k l (t+1):=by
 intro i c us
 iterate 262 intro
 intro wr E d hc F G A;have HV:O (val 4294967296 (us.take (j+(n+2)))+4294967296 ^ (j+i)*c=R+4294967296 ^ j*val 4294967296 (v.take i)):=A;have K:O (jt r wr s u w x n L v us z):=d;have M:O (∀p,j+(n+2)<p->us.getD p 0=0):=G;have N:O (us.getD (j+(n+2)) 0=y):=F;have B:=d.ul;obtain⟨e,q⟩:=nm (v.getD i 0);obtain⟨a,b⟩:∃a,us.getD (i+j) 0=a:=⟨_,rfl⟩;have P:e<4294967296:=by rw[<-q];exact d.vsmall.getD oO _
 have S:a<4294967296:=by rw[<-b];exact d.usmall.getD oO _
 have k1:=d.C4 i oO;have k2:=d.ub.cell (i+j) oO;have k3:=d.ub.free (i+j);rw[q]at k1;rw[b]at k2;have m:=Yt 4294967296 j i (j+(n+2)) c e a R us v oO oO b q A;have T:O (val 4294967296 ((us.set (i+j) ((c+(a+e)) % 4294967296)).take (j+(n+2)))+4294967296 ^ (j+(i+1))*((c+(a+e)) / 4294967296)=R+4294967296 ^ j*val 4294967296 (v.take (i+1))):=m;have U:O (((c:Int)+(a+e)) % 4294967296=(((c+(a+e)) % 4294967296:Nat):Int)):=by unfold O;omega
 have V:O (((c:Int)+(a+e)) / 4294967296=(((c+(a+e)) / 4294967296:Nat):Int)):=by unfold O;omega
 have W:i<n+2:=oO;have H:i+j<L:=oO;have I:(i:Int)<(n:Int)+2:=oO;have C:(i:Int)+(j:Int)<(L:Int):=oO;have X:O (i+(t+1)=n+2):=E;clear A d G F q b m B E;rw[kM]
 conv=>arg 2;whnf
 go_wp2;go_quiet (fail);go_wp2;rw[U.o,V.o];rw[show (i:Int)+1=((i+1:Nat):Int) from by omega]
 .
  refine J (i+1) ((c+(a+e)) / 4294967296) (us.set (i+j) ((c+(a+e)) % 4294967296)) _ (oB X.o) ((K.o.drewN _).A0 _ _ oO) oO ?_ ?_ T.o
  . rw[getD_set_ne _ _ _ _ oO];exact N.o
  . intro p Y;rw[getD_set_ne _ _ _ _ oO];exact M.o p Y
def Yp(Q:Ab)(g:Vz)(h i k l m n j L R o:Nat)(v p:Vy)(a b c d e:Ac)(q:L<=1099511627776)(r:j+(n+2)<L)(f:wM Q g h i k l m n j L R o v p a b c d e)(t:Nat):vr Q g h i k l m n j L R o v p a b c d e t:=by
 induction t with
 |zero=>exact Ys Q g h i k l m n j L R o v p a b c d e q r f
 |succ t s=>exact Yq Q g h i k l m n j L R o v p a b c d e q r t s
end Go.Proofs.YtfgclhpgdanmfaaGreatDoor
