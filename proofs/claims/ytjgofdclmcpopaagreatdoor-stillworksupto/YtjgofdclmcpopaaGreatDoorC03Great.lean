import Derived.Test.YtjgofdclmcpopaaGreatDoorC02BigRight
import Derived.Laws.CopyOwn
import Derived.Deep.RegionWith
import Derived.LoopN
namespace Go.Proofs.YtjgofdclmcpopaaGreatDoor
set_option linter.unusedSimpArgs false
set_option linter.unusedVariables false
set_option maxHeartbeats 8000000
set_option maxRecDepth 1000000
theorem Qia(B P h u0 lw v1 v0 lv W V:Nat)(hP:0<P)(hB:0<B)(hW:W=h*(B*P)+u0*P+lw)(hV:V=v1*(B*P)+v0*P+lv)(hlw:lw<P)(hu0:u0<B)(hv1:0<v1):W / V≤h / v1:=by
 rw[Nat.le_div_iff_mul_le hv1];apply Classical.byContradiction;intro hc;have h1:W / V*V≤W:=Nat.div_mul_le_self W V;have h2:(h+1)*(B*P)≤W / V*v1*(B*P):=Nat.mul_le_mul_right _ (by omega);have h3:W / V*v1*(B*P)≤W / V*V:=by
  rw[Nat.mul_assoc];apply Nat.mul_le_mul_left;omega
 have h4:(u0+1)*P≤B*P:=Nat.mul_le_mul_right _ hu0;rw[Nat.add_mul,Nat.one_mul] at h2 h4;omega
theorem Qfi(B P h u0 lw v1 v0 lv W V g r:Nat)(hP:0<P)(hW:W=h*(B*P)+u0*P+lw)(hV:V=v1*(B*P)+v0*P+lv)(hlw:lw<P)(hV0:0<V)
 (hg:g*v1+r=h) (hc:r*B+u0<g*v0):W / V<g:=by
 rw[Nat.div_lt_iff_lt_mul hV0,hV,Nat.mul_add,Nat.mul_add,hW,←hg,Nat.add_mul,Nat.mul_assoc];have h1:(r*B+u0+1)*P≤g*v0*P:=Nat.mul_le_mul_right _ hc;rw[Nat.add_mul,Nat.add_mul,Nat.one_mul,Nat.mul_assoc] at h1;rw[←Nat.mul_assoc g v0 P];omega
theorem Qom(B P h u0 lw v1 v0 lv W V g r:Nat)(hP:0<P)(hW:W=h*(B*P)+u0*P+lw)(hV:V=v1*(B*P)+v0*P+lv)(hlv:lv<P)(hv1:0<v1)
 (hg:g*v1+r=h) (hgB:g<B) (hc:g*v0≤r*B+u0):g≤W / V+1:=by
 apply Classical.byContradiction;intro hn;have hV0:0<V:=by
  have:0<v1*(B*P):=Nat.mul_pos hv1 (Nat.mul_pos (by omega) hP);omega
 obtain⟨g1,rfl⟩:∃g1,g=g1+1:=⟨g - 1,by have:=Nat.zero_le (W / V);omega⟩;have h1:W<g1*V:=(Nat.div_lt_iff_lt_mul hV0).1 (by omega);have h2:(g1+1)*(v1*B+v0)*P≤W:=by
  have e1:(g1+1)*(v1*B+v0)≤h*B+u0:=by
   rw[←hg,Nat.mul_add,Nat.add_mul _ _ B,←Nat.mul_assoc];omega
  have e2:=Nat.mul_le_mul_right P e1;rw[Nat.add_mul _ _ P,Nat.mul_assoc h B P] at e2;omega
 have h3:V≤(v1*B+v0+1)*P:=by
  rw[Nat.add_mul,Nat.add_mul,Nat.one_mul,Nat.mul_assoc];omega
 have h4:g1*V≤g1*(v1*B+v0+1)*P:=by
  rw[Nat.mul_assoc];exact Nat.mul_le_mul_left _ h3
 have h5:(g1+1)*(v1*B+v0)<g1*(v1*B+v0+1):=by
  apply Nat.lt_of_mul_lt_mul_right (a:=P);omega
 rw[Nat.add_mul,Nat.one_mul,Nat.mul_add g1 (v1*B+v0) 1,Nat.mul_one] at h5;have h6:1*B≤v1*B:=Nat.mul_le_mul_right _ hv1;omega
theorem Qon(B u2 u1 v1 g r:Nat)(h2:u2≤v1)(h1:u1<B)(hg:g*v1+r=u2*B+u1)(hr:B≤r):g<B:=by
 apply Nat.lt_of_mul_lt_mul_right (a:=v1);have:u2*B≤v1*B:=Nat.mul_le_mul_right _ h2;rw[Nat.mul_comm B v1];omega
theorem Qib(B g v0 r u0:Nat)(hg:g<B)(hv:v0<B)(hr:B≤r):g*v0≤r*B+u0:=by
 have h1:g*v0≤B*B:=Nat.mul_le_mul (by omega) (by omega);have h2:B*B≤r*B:=Nat.mul_le_mul_right _ hr;omega
theorem Qic(B:Nat)(us:List Nat)(j n:Nat)(h:j+n+3≤us.length)(hz:val B (us.drop (j+n+3))=0):
 val B (us.drop j)=(us.getD (j+n+2) 0*B+us.getD (j+n+1) 0)*(B*B ^ n)+us.getD (j+n) 0*B ^ n+val B ((us.drop j).take n):=by
 rw[Qai B (us.drop j) n (by rw[List.length_drop];omega),List.drop_drop,Qan B us (j+n) (by omega),Qan B us (j+n+1) (by omega),Qan B us (j+n+2) (by omega),hz];simp only[Nat.mul_zero,Nat.add_zero];have e1:B ^ n*(us.getD (j+n) 0+B*(us.getD (j+n+1) 0+B*us.getD (j+n+2) 0))=(us.getD (j+n+2) 0*B+us.getD (j+n+1) 0)*(B*B ^ n)+us.getD (j+n) 0*B ^ n:=by
  generalize us.getD (j+n) 0=x;generalize us.getD (j+n+1) 0=y;generalize us.getD (j+n+2) 0=z;generalize B ^ n=P;rw[Nat.mul_add,Nat.mul_comm P x,Nat.mul_left_comm P B,Nat.mul_left_comm (z*B+y) B P,Nat.mul_comm P,Nat.add_comm,Nat.add_comm y,Nat.mul_comm B z]
 omega
theorem Qid(B:Nat)(v:List Nat)(n:Nat)(h:v.length=n+2):
 val B v=v.getD (n+1) 0*(B*B ^ n)+v.getD n 0*B ^ n+val B (v.take n):=by
 rw[Qai B v n (by omega),Qan B v n (by omega),Qan B v (n+1) (by omega),List.drop_of_length_le (by omega)];simp only[val,Nat.mul_zero,Nat.add_zero];have e1:B ^ n*(v.getD n 0+B*v.getD (n+1) 0)=v.getD (n+1) 0*(B*B ^ n)+v.getD n 0*B ^ n:=by
  generalize v.getD n 0=x;generalize v.getD (n+1) 0=y;generalize B ^ n=P;rw[Nat.mul_add,Nat.mul_comm P x,Nat.mul_left_comm P B y,Nat.mul_left_comm y B P,Nat.mul_comm P y,Nat.add_comm]
 omega
theorem Qfj(B:Nat)(hB:0<B)(us:List Nat)(p:Nat)(h:val B us<B ^ p)(hp:p≤us.length):val B (us.drop p)=0:=by
 rw[Qai B us p hp] at h;apply Classical.byContradiction;intro hc;have:=Nat.mul_le_mul_left (B ^ p) (show 1≤val B (us.drop p) by omega);omega
theorem Qoo(B j i q a c d g vi nd d' R:Nat)(us v:List Nat)(hq:q≤us.length)(hp:j+i<q)(ha:us.getD (j+i) 0=a)(hv:v.getD i 0=vi)(hn:nd+(c+g*vi) % B+d=a+B*d')
 (h:val B (us.take q)+B ^ j*(g*val B (v.take i))=R+B ^ (j+i)*(c+d)):
 val B ((us.set (j+i) nd).take q)+B ^ j*(g*val B (v.take (i+1)))=R+B ^ (j+(i+1))*((c+g*vi) / B+d'):=by
 rw[Qhq];have e1:=Qba B (us.take q) (j+i) nd (by rw[List.length_take];omega);rw[Qe9 _ _ _ hp,ha] at e1;have e:=Nat.mod_add_div (c+g*vi) B;rw[Qad,hv,Nat.mul_add g,Nat.mul_add (B ^ j),show j+(i+1)=j+i+1 from by omega,Nat.pow_succ];have e3:B ^ j*(g*(B ^ i*vi))=B ^ (j+i)*(g*vi):=by
  rw[Nat.pow_add,Nat.mul_left_comm g,Nat.mul_assoc]
 have e4:B ^ (j+i)*(nd+(c+g*vi) % B+d)=B ^ (j+i)*(a+B*d'):=by rw[hn]
 have e5:B ^ (j+i)*((c+g*vi) % B+B*((c+g*vi) / B))=B ^ (j+i)*(c+g*vi):=by rw[e]
 rw[e3,Nat.mul_add (B ^ (j+i)*B),Nat.mul_assoc,Nat.mul_assoc];simp only[Nat.mul_add] at e4 e5 h ⊢;omega
theorem Qop(B j n a c d g L L0 V U:Nat)(hL:L<B ^ (j+n))(hU:U=L0+B ^ (j+n)*a)(hV:0<V)(hVB:V≤B ^ n)
 (h:L+B ^ j*(g*V)=L0+B ^ (j+n)*(c+d)) (hg1:U / (B ^ j*V)≤g) (hg2:g≤U / (B ^ j*V)+1) (hB:0<B):
 (g=U / (B ^ j*V)∧a=c+d∧L=U % (B ^ j*V))∨(g=U / (B ^ j*V)+1∧a+1=c+d∧L+B ^ j*V=U % (B ^ j*V)+B ^ (j+n)):=by
 have hD:0<B ^ j*V:=Nat.mul_pos (Nat.pow_pos hB) hV;have e1:=Nat.div_add_mod U (B ^ j*V);have e2:=Nat.mod_lt U hD;have hDV:B ^ j*V≤B ^ (j+n):=by rw[Nat.pow_add];exact Nat.mul_le_mul_left _ hVB
 have e3:B ^ j*(g*V)=B ^ j*V*g:=by rw[Nat.mul_comm g V,Nat.mul_assoc]
 rw[e3] at h;generalize U / (B ^ j*V)=q at*;generalize U % (B ^ j*V)=r at*;generalize B ^ j*V=D at*;generalize B ^ (j+n)=T at*;have hT:0<T:=by omega
 rcases(show g=q∨g=q+1 by omega) with rfl|rfl
 ·
  left;have h1:L+T*a=r+T*(c+d):=by omega
  have h2:a=c+d:=by
   rcases Nat.lt_trichotomy a (c+d) with hlt|heq|hgt
   ·
    have:=Nat.mul_le_mul_left T (show a+1≤c+d by omega);rw[Nat.mul_add] at this;omega
   · exact heq
   ·
    have:=Nat.mul_le_mul_left T (show c+d+1≤a by omega);rw[Nat.mul_add] at this;omega
  refine⟨rfl,h2,?_⟩;rw[h2] at h1;omega
 ·
  right;rw[Nat.mul_add,Nat.mul_one] at h;have h1:L+D+T*a=r+T*(c+d):=by omega
  have h2:a+1=c+d:=by
   rcases Nat.lt_trichotomy (a+1) (c+d) with hlt|heq|hgt
   ·
    have:=Nat.mul_le_mul_left T (show a+2≤c+d by omega);rw[Nat.mul_add] at this;omega
   · exact heq
   · have:=Nat.mul_le_mul_left T (show c+d≤a by omega)
     omega
  refine⟨rfl,h2,?_⟩;rw[←h2,Nat.mul_add] at h1;omega
theorem Qoq(a lo d:Nat)(ha:a<4294967296)(hlo:lo<4294967296)(hd:d≤1):∃nd d':Nat,nd<4294967296∧d'≤1∧nd+lo+d=a+4294967296*d'∧
 ((((a:Int) - lo) % 18446744073709551616 - d) % 18446744073709551616) % 4294967296=(nd:Int)∧((((a:Int) - lo) % 18446744073709551616 - d) % 18446744073709551616) / 9223372036854775808=(d':Int):=by
 by_cases h:a<lo+d
 · exact⟨a+4294967296 - lo - d,1,by omega,by omega,by omega,by omega,by omega⟩
 · exact⟨a - lo - d,0,by omega,by omega,by omega,by omega,by omega⟩
theorem Qie(B:Nat)(us:List Nat)(p a:Nat)(hp:p<us.length)(ha:us.getD p 0=a)(hz:val B (us.drop (p+1))=0):val B us=val B (us.take p)+B ^ p*a:=by
 rw[Qai B us p (by omega),Qan B us p hp,hz,ha];simp
theorem Qor{B:Nat}(hB:0<B){us:List Nat}(hs:Small B us)(j:Nat)(hj:j≤us.length):val B us / B ^ j=val B (us.drop j):=by
 have h1:=Qaa hB (hs.take j);rw[List.length_take,Nat.min_eq_left hj] at h1;rw[Qai B us j hj,Nat.add_mul_div_left _ _ (Nat.pow_pos hB),Nat.div_eq_of_lt h1,Nat.zero_add]
structure DivInv (X V n M k:Nat) (us qs:List Nat):Prop where
 ulen:us.length=M+n+3
 qlen:qs.length=M+1
 usmall:Small 4294967296 us
 qsmall:Small 4294967296 qs
 eq:val 4294967296 us+4294967296 ^ k*V*val 4294967296 (qs.drop k)=X
 lt:val 4294967296 us<4294967296 ^ k*V
theorem DivInv.zero{X V n M j:Nat}{us qs:List Nat}(h:DivInv X V n M (j+1) us qs)(hj:j≤M)(hV:V<4294967296 ^ (n+2)):val 4294967296 (us.drop (j+n+3))=0:=by
 apply Qfj _ (by omega)
 ·
  have h1:=h.lt;have h2:4294967296 ^ (j+1)*V≤4294967296 ^ (j+1)*4294967296 ^ (n+2):=Nat.mul_le_mul_left _ (by omega);rw[←Nat.pow_add,show j+1+(n+2)=j+n+3 from by omega] at h2;omega
 · rw[h.ulen];omega
theorem DivInv.q_lt{X V n M j:Nat}{us qs:List Nat}(h:DivInv X V n M (j+1) us qs)(hV:0<V):val 4294967296 us / (4294967296 ^ j*V)<4294967296:=by
 rw[Nat.div_lt_iff_lt_mul (Nat.mul_pos (Nat.pow_pos (by omega)) hV)];have h1:=h.lt;rw[Nat.pow_succ,Nat.mul_comm (4294967296 ^ j) 4294967296,Nat.mul_assoc] at h1;exact h1
theorem DivInv.guess{X V n M j:Nat}{us qs v:List Nat}(h:DivInv X V n M (j+1) us qs)(hj:j≤M)(hv:Num 4294967296 v V)(hvl:v.length=n+2)
 {u2 u1 u0 v1 v0 hh Q:Nat} (e2:us.getD (j+(n+2)) 0=u2) (e1:us.getD (j+(n+1)) 0=u1) (e0:us.getD (j+n) 0=u0) (f1:v.getD (n+1) 0=v1) (f0:v.getD n 0=v0) (hv1:1≤v1)
 (hh':u2*4294967296+u1=hh) (hQ:val 4294967296 us / (4294967296 ^ j*V)=Q):
 Q≤hh / v1∧(∀g r,g*v1+r=hh→r*4294967296+u0<g*v0→Q<g)∧(∀g r,g*v1+r=hh→g<4294967296→g*v0≤r*4294967296+u0→g≤Q+1)∧(∀g r,g*v1+r=hh→4294967296≤r→g<4294967296):=by
 have hVb:=Qaa (B:=4294967296) (by omega) hv.small;rw[hv.eq,hvl] at hVb;have hz:=h.zero hj hVb;have hV0:0<V:=by
  have:=hv.trim.pow_le (B:=4294967296) (by omega);rw[hv.eq] at this;have h2:0<4294967296 ^ (v.length - 1):=Nat.pow_pos (by omega);omega
 have hW:=Qic 4294967296 us j n (by rw[h.ulen];omega) hz;have hVv:=Qid 4294967296 v n hvl;rw[show j+n+2=j+(n+2) from by omega,show j+n+1=j+(n+1) from by omega,e2,e1,e0,hh'] at hW;rw[f1,f0,hv.eq] at hVv;have hP:0<4294967296 ^ n:=Nat.pow_pos (by omega);have hlw:val 4294967296 ((us.drop j).take n)<4294967296 ^ n:=by
  have:=Qaa (B:=4294967296) (by omega) ((h.usmall.drop j).take n);rw[List.length_take,List.length_drop,h.ulen,Nat.min_eq_left (by omega)] at this;exact this
 have hlv:val 4294967296 (v.take n)<4294967296 ^ n:=by
  have:=Qaa (B:=4294967296) (by omega) (hv.small.take n);rw[List.length_take,hvl,Nat.min_eq_left (by omega)] at this;exact this
 have hu0:u0<4294967296:=by rw[←e0];exact h.usmall.getD (by omega) _
 have hu1:u1<4294967296:=by rw[←e1];exact h.usmall.getD (by omega) _
 have hv0b:v0<4294967296:=by rw[←f0];exact hv.small.getD (by omega) _
 have hq:Q=val 4294967296 (us.drop j) / V:=by
  rw[←hQ,←Nat.div_div_eq_div_mul,Qor (by omega) h.usmall j (by rw[h.ulen];omega)]
 have hWV:val 4294967296 (us.drop j)<4294967296*V:=by
  have h1:=h.lt;have h2:=Qai 4294967296 us j (by rw[h.ulen];omega);rw[Nat.pow_succ,Nat.mul_assoc] at h1;apply Nat.lt_of_mul_lt_mul_left (a:=4294967296 ^ j);omega
 have hu2:u2≤v1:=by
  apply Classical.byContradiction;intro hc;have h3:(v1+1)*(4294967296*(4294967296*4294967296 ^ n))≤u2*(4294967296*(4294967296*4294967296 ^ n)):=Nat.mul_le_mul_right _ (by omega);have h4:u2*(4294967296*(4294967296*4294967296 ^ n))≤val 4294967296 (us.drop j):=by
   rw[hW,←hh',Nat.add_mul,Nat.mul_assoc];omega
  have h5:v0*4294967296 ^ n+4294967296 ^ n≤4294967296*4294967296 ^ n:=by
   have:=Nat.mul_le_mul_right (4294967296 ^ n) (show v0+1≤4294967296 by omega);rw[Nat.add_mul,Nat.one_mul] at this;exact this
  have h6:4294967296*V<4294967296*((v1+1)*(4294967296*4294967296 ^ n)):=by
   apply Nat.mul_lt_mul_of_pos_left _ (by omega);rw[Nat.add_mul,Nat.one_mul];omega
  rw[Nat.mul_left_comm] at h3;omega
 refine⟨?_,?_,?_,?_⟩
 · rw[hq];exact Qia _ _ hh u0 _ v1 v0 _ _ V hP (by omega) hW hVv hlw hu0 (by omega)
 · intro g r hg hc;rw[hq];exact Qfi _ _ hh u0 _ v1 v0 _ _ V g r hP hW hVv hlw hV0 hg hc
 · intro g r hg hgB hc;rw[hq];exact Qom _ _ hh u0 _ v1 v0 _ _ V g r hP hW hVv hlv (by omega) hg hgB hc
 · intro g r hg hr;exact Qon _ u2 u1 v1 g r hu2 hu1 (by rw[hh'];exact hg) hr
theorem DivInv.next{X V n M j Q:Nat}{us qs us':List Nat}(h:DivInv X V n M (j+1) us qs)(hj:j≤M)(hV:0<V)(hQ:val 4294967296 us / (4294967296 ^ j*V)=Q)
 (hl:us'.length=M+n+3) (hs:Small 4294967296 us') (hu:val 4294967296 us'=val 4294967296 us % (4294967296 ^ j*V)):DivInv X V n M j us' (qs.set j Q):=by
 have hD:0<4294967296 ^ j*V:=Nat.mul_pos (Nat.pow_pos (by omega)) hV;have hq:=h.q_lt hV;rw[hQ] at hq;refine⟨hl,by rw[List.length_set];exact h.qlen,hs,h.qsmall.set j hq,?_,by rw[hu];exact Nat.mod_lt _ hD⟩;have e1:=h.eq;have e2:=Nat.div_add_mod (val 4294967296 us) (4294967296 ^ j*V);rw[hQ] at e2;rw[Qcl _ j (by rw[List.length_set,h.qlen];omega),Qbl,Qbb _ _ _ (by rw[h.qlen];omega),List.drop_set_of_lt (by omega),hu,Nat.mul_add];rw[Nat.pow_succ,Nat.mul_assoc (4294967296 ^ j) 4294967296 V,Nat.mul_left_comm,Nat.mul_assoc 4294967296 _ _,Nat.mul_left_comm 4294967296] at e1;omega
theorem Qfk{X V x y p Q R:Nat}(hp:0<p)(hX:x*p=X)(hV:y*p=V)(h:R+V*Q=X)(hR:R<V):Q=x / y∧R / p=x % y:=by
 have hQ:Q=x / y:=by
  rw[←Nat.mul_div_mul_right x y hp,hX,hV,←h,Nat.add_mul_div_left _ _ (by omega),Nat.div_eq_of_lt hR,Nat.zero_add]
 refine⟨hQ,?_⟩;have h1:R=X % V:=by rw[←h,Nat.add_mul_mod_self_left,Nat.mod_eq_of_lt hR]
 rw[h1,←hX,←hV,Nat.mul_mod_mul_right,Nat.mul_div_cancel _ hp]
theorem Qfl(B:Nat):∀(l:List Nat),(∀i,l.getD i 0=0)→val B l=0
 | [],_=>rfl
 |d :: l,h=>by
  have h0:d=0:=h 0;have h1:=Qfl B l (fun i=>h (i+1));rw[Qbl,h0,h1];simp
theorem Qfm(B:Nat)(hB:0<B):∀(l:List Nat),val B l=0→∀i,l.getD i 0=0
 | [],_,i=>by simp
 |d :: l,h,i=>by
  rw[Qbl] at h;have h1:val B l=0:=by
   rcases Nat.eq_zero_or_pos (val B l) with h2|h2
   · exact h2
   · have:=Nat.mul_pos hB h2;omega
  match i with
  |0=>show d=0;omega
  |i+1=>exact Qfm B hB l h1 i
theorem Qds(l:List Nat)(k i:Nat):(l.drop k).getD i 0=l.getD (k+i) 0:=by
 rw[List.getD_eq_getElem?_getD,List.getD_eq_getElem?_getD,List.getElem?_drop]
theorem Qos(B:Nat)(hB:0<B)(us:List Nat)(q:Nat)(h:val B (us.drop (q+1))=0)(p:Nat)(hp:q<p):us.getD p 0=0:=by
 have:=Qfm B hB _ h (p - (q+1));rw[Qds,show q+1+(p - (q+1))=p from by omega] at this;exact this
theorem Qot(B:Nat)(us:List Nat)(q:Nat)(h:∀p,q<p→us.getD p 0=0):val B (us.drop (q+1))=0:=
 Qfl B _ (fun i=>by rw[Qds];exact h _ (by omega))
theorem Qif(B:Nat)(us:List Nat)(q:Nat)(hq:q<us.length)(hz:∀p,q<p→us.getD p 0=0):val B (us.set q 0)=val B (us.take q):=by
 rw[Qie B (us.set q 0) q 0 (by rw[List.length_set];exact hq) (Qbb _ _ _ hq) (Qot _ _ _ (fun p hp=>by rw[getD_set_ne _ _ _ _ (by omega)];exact hz p hp)),List.take_set_of_le (Nat.le_refl _)];simp
theorem Qou(L T c r D:Nat)(hL:L<T)(hr:r<D)(hD:D≤T)(hc:c≤1)(h:L+T*c=r+T):c=1∧L=r:=by
 have:c=0∨c=1:=by omega
 rcases this with rfl|rfl
 · omega
 · exact⟨rfl,by omega⟩
open Go.RowKit
open Go.Proofs.Tryz
def DivOk(w:World)(x y:Nat)(e:Ending)(w':World):Prop:=
 (∃a cap r a' cap' r',e=.returned (.tuple #[.slice a r.length cap,.slice a' r'.length cap'])/\U32 w' a cap r (x / y)/\U32 w' a' cap' r' (x % y))/\Below w.heap.size w w'
theorem Qml(a1 a2:Option Addr)(c1 c2:Nat)(l m:List Nat)(x y:Nat)(w:World)(h1:U32 w a1 c1 l x)(h2:U32 w a2 c2 m y)(hxy:x<y):
 Calls prog 236 #[.slice a1 l.length c1,.slice a2 m.length c2] w (DivOk w x y):=by
 have s2:=h2.short;have q1:((m.length:Int) == 0)=false:=by
  rw[beq_eq_false_iff_ne];have:=(h2.num.len_zero (by omega)).2;omega
 have hc:=(Qat x y).2 hxy;go_enter func236,ntmps236;go_wp2_with fail;refine(Qa8 a1 a2 c1 c2 l m x y w h1 h2).mono ?_;rintro e w1 ⟨rfl,hb⟩;go_wp2_with fail;refine(Qey a1 c1 l x w1 (h1.below hb)).mono ?_;rintro e w2 ⟨⟨a,cap,rfl,hu⟩,hb2⟩;go_wp2;go_ret2;refine⟨⟨none,0,[],a,cap,l,rfl,?_,?_⟩,hb.trans (hb2.mono hb.size)⟩
 . rw[Nat.div_eq_of_lt hxy];exact⟨Row.nil _ _,Num.zero _,by simp⟩
 . rw[Nat.mod_eq_of_lt hxy];exact hu
theorem Qmm(a1 a2:Option Addr)(c1 c2:Nat)(l m:List Nat)(x y:Nat)(w:World)(h1:U32 w a1 c1 l x)(h2:U32 w a2 c2 m y)(hy:0<y)(hxy:y<=x)(hl:l.length<=2):
 Calls prog 236 #[.slice a1 l.length c1,.slice a2 m.length c2] w (DivOk w x y):=by
 have s2:=h2.short;have q1:((m.length:Int) == 0)=false:=by
  rw[beq_eq_false_iff_ne];have:=(h2.num.len_zero (by omega)).2;omega
 have hml:m.length<=l.length:=by
  apply bC;intro hc;have:=Qas (B:=4294967296) (by omega) h1.num.small h2.num.trim (by omega);rw[h1.num.eq,h2.num.eq] at this;omega
 have hc:¬cmp3 x y<0:=by rw[Qat];omega
 have hxb:x<18446744073709551616:=by
  have e1:=Qaa (B:=4294967296) (by omega) h1.num.small;have e2:=Qb1 (B:=4294967296) (by omega) hl;rw[h1.num.eq] at e1;omega
 go_enter func236,ntmps236;go_wp2_with fail;refine(Qa8 a1 a2 c1 c2 l m x y w h1 h2).mono ?_;rintro e w1 ⟨rfl,hb⟩;go_wp2_with fail;refine(Qbx a1 c1 l x w1 (h1.below hb) hl).mono ?_;rintro e w2 ⟨rfl,rfl⟩;go_wp2_with fail;refine(Qbx a2 c2 m y _ (h2.below hb) (by omega)).mono ?_;rintro e w3 ⟨rfl,rfl⟩;have qy:((y:Int) == 0)=false:=by rw[beq_eq_false_iff_ne];omega
 obtain⟨q,hq⟩:=nm (x / y);obtain⟨r,hr⟩:=nm (x % y);have t1:(x:Int) / (y:Int)=(q:Int):=by rw[<-hq];simp
 have t2:(x:Int) % (y:Int)=(r:Int):=by rw[<-hr];simp
 have t3:(x:Int).tmod (y:Int)=(r:Int):=by rw[Int.tmod_eq_emod_of_nonneg (by omega)];exact t2
 have t4:(x:Int).tdiv (y:Int)=(q:Int):=by rw[Int.tdiv_eq_ediv_of_nonneg (by omega)];exact t1
 have hqb:q<18446744073709551616:=by rw[<-hq];exact Nat.lt_of_le_of_lt (Nat.div_le_self _ _) hxb
 have hrb:r<18446744073709551616:=by rw[<-hr];exact Nat.lt_of_le_of_lt (Nat.mod_le _ _) hxb
 have t5:=Qby q hqb;have HQ:O (x / y=q):=hq;have HR:O (x % y=r):=hr;clear hq hr hc;go_wp2;go_region_with (first|(go_at_call_of 173 (Value.int IntKind.u64 (q:Int));refine(Qbk _ _ ?_ ?_).mono ?_;omega;omega;rintro e w4 ⟨⟨aa1,caa1,rr1,rfl,hu1,hl21⟩,hb21⟩)|(go_at_call_of 173 (Value.int IntKind.u64 (r:Int));refine(Qbk _ _ ?_ ?_).mono ?_;omega;omega;rintro e w5 ⟨⟨aa2,caa2,rr2,rfl,hu2,hl22⟩,hb22⟩))
 all_goals
  go_wp2;go_ret2;rw[Int.toNat_natCast] at hu1 hu2;refine⟨⟨aa1,caa1,rr1,aa2,caa2,rr2,rfl,?_,?_⟩,hb.drew.trans ((hb21.mono hb.size).trans (hb22.mono (Nat.le_trans hb.size hb21.size)))⟩
  . rw[HQ.o];exact hu1.below hb22
  . rw[HR.o];exact hu2
theorem Qmn(a1 a2:Option Addr)(c1 c2:Nat)(l m:List Nat)(x y:Nat)(w:World)(h1:U32 w a1 c1 l x)(h2:U32 w a2 c2 m y)(hy:0<y)(hxy:y<=x)(hl:2<l.length)(hm:m.length=1):
 Calls prog 236 #[.slice a1 l.length c1,.slice a2 m.length c2] w (DivOk w x y):=by
 have s1:=h1.short;have hc:¬cmp3 x y<0:=by rw[Qat];omega
 obtain⟨d,rfl⟩:∃d,m= [d]:=by
  match m,hm with
  | [d],_=>exact⟨d,rfl⟩
 have hdy:d=y:=by have:=h2.num.eq;simp[val] at this;exact this
 subst hdy;have hdb:d<4294967296:=h2.num.small d (by simp);obtain⟨b,off,rfl,hb1,hc1⟩:=h2.row.cell 0 (by simp);have hc1:w.cell? ⟨b,off,none⟩=some (.int .u32 (d:Int)):=by simpa using hc1
 show Calls prog 236 #[.slice a1 l.length c1,.slice (some ⟨b,off,none⟩) 1 c2] w (DivOk w x d)
 go_enter func236,ntmps236;go_wp2_with fail;refine(Qa8 a1 (some ⟨b,off,none⟩) c1 c2 l [d] x d w h1 h2).mono ?_;rintro e w1 ⟨rfl,hb⟩;have hc1':=ce hb hb1 hc1;go_wp2_with fail;refine(Qm3 a1 c1 d l x w1 (h1.below hb) hy hdb).mono ?_;rintro e w2 ⟨⟨a,cap,r,rfl,hu⟩,hb2⟩;have hrb:x % d<4294967296:=Nat.lt_trans (Nat.mod_lt _ hy) hdb;obtain⟨z,hz⟩:=nm (x % d);have HZ:O (x % d=z):=hz;rw[hz] at hrb;rw[hz];clear hz hc;go_wp2_with fail;refine(Qay w2.heap.size 1 1 z [z] _ (Blk.new .u32 286 w2 [z]) rfl ?_ lZ (by omega) (by simp[val])).mono ?_
 . intro e he;simp at he;omega
 rintro e w3 ⟨⟨a',cap',r',rfl,hu'⟩,rfl⟩;go_wp2;go_ret2;have hb3:Below w2.heap.size w2 (w2.alloc (.cells (wordCells .u32 [z]) 286)):=bR.alloc lZ _;refine⟨⟨a,cap,r,a',cap',r',rfl,hu.below hb3,?_⟩,hb.trans ((hb2.mono hb.size).trans (hb3.mono (Nat.le_trans hb.size hb2.size)))⟩;rw[HZ.o];exact hu'
def loopsIn:Code->List Code
 | .loop c=>c :: loopsIn c
 | .seq a b=>loopsIn a++loopsIn b
 | .block _ c=>loopsIn c
 | .scope c=>loopsIn c
 | .cond _ a b=>loopsIn a++loopsIn b
 |_=>[]
end Go.Proofs.YtjgofdclmcpopaaGreatDoor
