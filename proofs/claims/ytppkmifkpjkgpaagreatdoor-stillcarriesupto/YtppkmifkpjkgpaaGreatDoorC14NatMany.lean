import Derived.Test.YtppkmifkpjkgpaaGreatDoorC13NatLess2
namespace Go.Proofs.YtppkmifkpjkgpaaGreatDoor
set_option linter.unusedSimpArgs false
set_option linter.unusedVariables false
set_option maxHeartbeats 8000000
set_option maxRecDepth 1000000
structure LInv (a0 b0 st:Nat) (odd:Bool) (xx xy yx yy nX nY a b pa:Nat):Prop where
 ra:if odd then yx*a0=yy*b0+a else yy*b0=yx*a0+a
 rb:if odd then nY*b0=nX*a0+b else nX*a0=nY*b0+b
 ab:b≤a
 d1:if odd then yx*nY=yy*nX+1 else yy*nX=yx*nY+1
 n1:nX≤nY
 n2:1≤nY
 s0:st=0→odd=true∧xy=0∧yx=1∧yy=0∧nX=0
 s1:1≤st→yx≤yy∧1≤yy∧yy≤a∧a+xy+yy≤pa∧1≤nX
 dd:1≤st→if odd then xy*yx=xx*yy+1 else xx*yy=xy*yx+1
 rp:1≤st→if odd then xy*b0=xx*a0+pa else xx*a0=xy*b0+pa
 s2:st=1→xy=0
 s3:2≤st→xx≤xy∧1≤xy∧1≤yx
theorem LInv.start(a b:Nat)(h:b≤a):LInv a b 0 true 0 0 1 0 0 1 a b 0:=
 ⟨by simp,by simp,h,by simp,by omega,by omega,fun _=>⟨rfl,rfl,rfl,rfl,rfl⟩,fun h=>by omega,fun h=>by omega,fun h=>by omega,fun h=>by omega,fun h=>by omega⟩
theorem LInv.whole{d e n:Nat}{c:Bool}{o p f g i j a b q:Nat}(h:LInv d e n c o p f g i j a b q):d=j*a+g*b∧e=i*a+f*b:=by
 have k:=h.ra;have l:=h.rb;have m:=h.d1;cases c
 · simp only[Bool.false_eq_true,if_false] at k l m
   constructor<;>grind
 · simp only[if_true] at k l m
   constructor<;>grind
theorem LInv.next{v w l q r:Nat}{c:Bool}{A B m n g e a b C:Nat}(h:LInv v w l c A B m n g e a b C)(D:e≤b)(E:b+n+e≤a)(I:q*b+r=a)(J:r<b)(o:1≤q):
 LInv v w (min (l+1) 2) (!c) m n g e (m+q*g) (n+q*e) b r a:=by
 have d:=h.ra;have j:=h.rb;have k:=h.d1;have p:=h.n1;have s:=h.n2;have F:q*g≤q*e:=Nat.mul_le_mul_left q p;have G:e≤q*e:=by have:=Nat.mul_le_mul_right e o;omega
 have H:g≤q*g:=by have:=Nat.mul_le_mul_right g o;omega
 have i:l=0∨1≤l:=by omega
 have t:m+q*g≤n+q*e:=by
  rcases i with f|f
  · obtain⟨_,_,x,y,z⟩:=h.s0 f
    rw[x,y,z,Nat.mul_zero];omega
  · have:=(h.s1 f).1;omega
 have u:1≤m+q*g:=by
  rcases i with f|f
  · obtain⟨_,_,x,y,z⟩:=h.s0 f
    omega
  · have:=(h.s1 f).2.2.2.2;omega
 refine⟨?_,?_,by omega,?_,t,by omega,fun f=>by omega,fun _=>⟨p,s,D,by omega,u⟩,fun _=>?_,fun _=>?_,fun f=>?_,fun f=>?_⟩
 ·
  cases c
  · simp only[Bool.not_false,if_true,Bool.false_eq_true,if_false] at j ⊢;exact j
  · simp only[Bool.not_true,Bool.false_eq_true,if_false,if_true] at j ⊢;exact j
 ·
  cases c
  · simp only[Bool.not_false,if_true,Bool.false_eq_true,if_false] at d j ⊢;grind
  · simp only[Bool.not_true,Bool.false_eq_true,if_false,if_true] at d j ⊢;grind
 ·
  cases c
  · simp only[Bool.not_false,if_true,Bool.false_eq_true,if_false] at k ⊢;grind
  · simp only[Bool.not_true,Bool.false_eq_true,if_false,if_true] at k ⊢;grind
 ·
  cases c
  · simp only[Bool.not_false,if_true,Bool.false_eq_true,if_false] at k ⊢;exact k
  · simp only[Bool.not_true,Bool.false_eq_true,if_false,if_true] at k ⊢;exact k
 ·
  cases c
  · simp only[Bool.not_false,if_true,Bool.false_eq_true,if_false] at d ⊢;exact d
  · simp only[Bool.not_true,Bool.false_eq_true,if_false,if_true] at d ⊢;exact d
 ·
  rcases i with d|d
  · exact(h.s0 d).2.2.2.1
  · omega
 · have d:1≤l:=by omega
   exact⟨(h.s1 d).1,(h.s1 d).2.1,(h.s1 d).2.2.2.2⟩
structure Lehm (odd:Bool) (xx xy yx yy x y X Y:Nat):Prop where
 fx:if odd then xy*y=xx*x+X else xx*x=xy*y+X
 fy:if odd then yx*x=yy*y+Y else yy*y=yx*x+Y
 le:Y≤X
 bx:x=yy*X+xy*Y
 by':y=yx*X+xx*Y
 p1:1≤xy
 p2:1≤yx
 p3:1≤yy
theorem Qd0{u v z P:Nat}(b:z<P)(a:u≤v):u*z≤v*P:=Nat.mul_le_mul a (Nat.le_of_lt b)
theorem LInv.done{i j t:Nat}{g:Bool}{e d f c C D a b o P k l x y:Nat}(h:LInv i j t g e d f c C D a b o)(E:2≤t)(p:x=i*P+k)(q:y=j*P+l)(m:k<P)(n:l<P):∃X Y,Lehm g e d f c x y X Y:=by
 obtain⟨F,u,G,M,N⟩:=h.s1 (by omega);obtain⟨H,v,w⟩:=h.s3 E;have z:=h.ra;have A:=h.rp (by omega);have B:=h.dd (by omega);have O:=Qd0 m H;have Q:=Qd0 n (Nat.le_refl d);have R:=Qd0 m F;have S:=Qd0 n (Nat.le_refl c);have T:d*P+c*P+a*P≤o*P:=by rw[←Nat.add_mul,←Nat.add_mul];exact Nat.mul_le_mul_right _ (by omega)
 have U:c*P≤a*P:=Nat.mul_le_mul_right _ G;cases g
 ·
  simp only[Bool.false_eq_true,if_false] at z A B;have I:e*x=d*(j*P)+o*P+e*k:=by rw[p];grind
  have J:d*y=d*(j*P)+d*l:=by rw[q];grind
  have K:c*y=f*(i*P)+a*P+c*l:=by rw[q];grind
  have L:f*x=f*(i*P)+f*k:=by rw[p];grind
  obtain⟨X,r⟩:∃X,e*x=d*y+X:=⟨e*x - d*y,by omega⟩;obtain⟨Y,s⟩:∃Y,c*y=f*x+Y:=⟨c*y - f*x,by omega⟩;refine⟨X,Y,by simpa using r,by simpa using s,by omega,?_,?_,v,w,u⟩
  · grind
  · grind
 ·
  simp only[if_true] at z A B;have I:d*y=e*(i*P)+o*P+d*l:=by rw[q];grind
  have J:e*x=e*(i*P)+e*k:=by rw[p];grind
  have K:f*x=c*(j*P)+a*P+f*k:=by rw[p];grind
  have L:c*y=c*(j*P)+c*l:=by rw[q];grind
  obtain⟨X,r⟩:∃X,d*y=e*x+X:=⟨d*y - e*x,by omega⟩;obtain⟨Y,s⟩:∃Y,f*x=c*y+Y:=⟨f*x - c*y,by omega⟩;refine⟨X,Y,by simpa using r,by simpa using s,by omega,?_,?_,v,w,u⟩
  · grind
  · grind
theorem Lehm.gcd{a:Bool}{b c d e x y X Y:Nat}(h:Lehm a b c d e x y X Y):Nat.gcd X Y=Nat.gcd x y:=by
 apply Nat.dvd_antisymm
 ·
  apply Nat.dvd_gcd
  · rw[h.bx]
    exact Nat.dvd_add (Nat.dvd_trans (Nat.gcd_dvd_left X Y) (Nat.dvd_mul_left X e)) (Nat.dvd_trans (Nat.gcd_dvd_right X Y) (Nat.dvd_mul_left Y c))
  · rw[h.by']
    exact Nat.dvd_add (Nat.dvd_trans (Nat.gcd_dvd_left X Y) (Nat.dvd_mul_left X d)) (Nat.dvd_trans (Nat.gcd_dvd_right X Y) (Nat.dvd_mul_left Y b))
 ·
  have j:=Nat.gcd_dvd_left x y;have k:=Nat.gcd_dvd_right x y;have f1:=h.fx;have f2:=h.fy;generalize Nat.gcd x y=g at*;have f:∀u,g ∣ u*x:=fun u=>Nat.dvd_trans j (Nat.dvd_mul_left x u)
  have i:∀u,g ∣ u*y:=fun u=>Nat.dvd_trans k (Nat.dvd_mul_left y u)
  apply Nat.dvd_gcd
  ·
   cases a
   · simp only[Bool.false_eq_true,if_false] at f1
     exact(Nat.dvd_add_right (i c)).1 (f1 ▸ f b)
   · simp only[if_true] at f1
     exact(Nat.dvd_add_right (f b)).1 (f1 ▸ i c)
  ·
   cases a
   · simp only[Bool.false_eq_true,if_false] at f2
     exact(Nat.dvd_add_right (f d)).1 (f2 ▸ i e)
   · simp only[if_true] at f2
     exact(Nat.dvd_add_right (i e)).1 (f2 ▸ f d)
theorem Lehm.less{a:Bool}{d e f g x y X Y:Nat}(h:Lehm a d e f g x y X Y)(i:0<y):X≤y∧X+Y<x+y:=by
 have j:=h.bx;have c:=h.by';have k:=Nat.mul_le_mul_right X h.p3;have l:=Nat.mul_le_mul_right Y h.p1;have m:=Nat.mul_le_mul_right X h.p2;have n:=h.le;have o:0<X:=by
  rcases Nat.eq_zero_or_pos X with b|b
  ·
   have:Y=0:=by omega
   rw[b,this] at c;simp at c;omega
  · exact b
 constructor<;>omega
open Go.RowKit
open Go.Proofs.Tryz
theorem Qjk(d e s:Nat)(n:s<64)(f:d*2 ^ s<18446744073709551616)(i:e<18446744073709551616):∃lo g b r:Nat,IntKind.u64.wrap ((d:Int)*2 ^ s)=(lo:Int)/\(e:Int) / 2 ^ (64 - s)=(g:Int)/\bits .or .u64 (lo:Int) (g:Int)=(b:Int)/\b<18446744073709551616/\r<2 ^ (64 - s)/\b*2 ^ (64 - s)+r=e+18446744073709551616*d:=by
 have c:=Qb1 (s:=s) (by omega);have j:=Qfk (lo:=e) (s:=s) (by omega) i;have o:=Nat.div_add_mod e (2 ^ (64 - s));have h:2 ^ s*d+e / 2 ^ (64 - s)<18446744073709551616:=by
  have k:d+1<=2 ^ (64 - s):=by
   apply Nat.lt_of_mul_lt_mul_left (a:=2 ^ s);rw[c,Nat.mul_comm];exact f
  have l:=Nat.mul_le_mul_left (2 ^ s) k;rw[c,Nat.mul_add,Nat.mul_one] at l;omega
 refine⟨d*2 ^ s,e / 2 ^ (64 - s),2 ^ s*d+e / 2 ^ (64 - s),e % 2 ^ (64 - s),?_,?_,?_,h,Nat.mod_lt _ (Nat.two_pow_pos _),?_⟩
 . rw[show (d:Int)*2 ^ s=((d*2 ^ s:Nat):Int) by rw[Int.natCast_mul,Int.natCast_pow];rfl,Qcb _ f]
 . rw[Int.natCast_ediv,Int.natCast_pow];rfl
 . exact or64 _ _ d (e / 2 ^ (64 - s)) s (by rw[Nat.mul_comm]) rfl j h
 .
  have m:2 ^ s*d*2 ^ (64 - s)=18446744073709551616*d:=by rw[Nat.mul_right_comm,c]
  rw[Nat.add_mul,m,Nat.mul_comm (e / 2 ^ (64 - s))];omega
theorem Qjl{l:Vy}{x N:Nat}(h:Num 18446744073709551616 l x)(hl:l.length<=N+2):∃a,a<18446744073709551616 ^ N/\x=a+18446744073709551616 ^ N*(l.getD N 0+18446744073709551616*l.getD (N+1) 0):=by
 refine⟨val 18446744073709551616 (l.take N),?_,?_⟩
 . have b:=Qaa (B:=18446744073709551616) (by decide) (h.small.take N)
   exact Nat.lt_of_lt_of_le b (Nat.pow_le_pow_right (by decide) (by rw[List.length_take];omega))
 .
  have b:=Qac 18446744073709551616 l (N+1);rw[List.take_of_length_le (by omega),h.eq,Qac,Nat.pow_succ] at b;rw[b,Nat.mul_add,Nat.mul_assoc];omega
structure Highs (x y a b P x' y':Nat):Prop where
 hx:x=a*P+x'
 hy:y=b*P+y'
 hx':x'<P
 hy':y'<P
 ab:b<=a
 ha:a<18446744073709551616
theorem Qqq{x y c d N s d1 d0 e g a b r t:Nat}(h:y<=x)(i:x=c+18446744073709551616 ^ N*(d0+18446744073709551616*d1))(j:y=d+18446744073709551616 ^ N*(g+18446744073709551616*e))(k:c<18446744073709551616 ^ N)(l:d<18446744073709551616 ^ N)
 (m:a*2 ^ (64 - s)+r=d0+18446744073709551616*d1) (n:b*2 ^ (64 - s)+t=g+18446744073709551616*e) (o:r<2 ^ (64 - s)) (q:t<2 ^ (64 - s)) (f:a<18446744073709551616):∃P u v,Highs x y a b P u v:=by
 generalize 18446744073709551616 ^ N=M at*;generalize 2 ^ (64 - s)=p at*;have w:M*(r+1)<=M*p:=Nat.mul_le_mul_left M o;have z:M*(t+1)<=M*p:=Nat.mul_le_mul_left M q;rw[Nat.mul_add,Nat.mul_one] at w z;have e:x=a*(M*p)+(c+M*r):=by rw[i,<-m];grind
 have A:y=b*(M*p)+(d+M*t):=by rw[j,<-n];grind
 refine⟨M*p,c+M*r,d+M*t,e,A,by omega,by omega,?_,f⟩;apply bC;intro C;have B:(a+1)*(M*p)<=b*(M*p):=Nat.mul_le_mul_right _ (by omega);rw[Nat.add_mul,Nat.one_mul] at B;omega
theorem Qqr(N:Nat)(l m:Vy)(x y:Nat)(v:Num 18446744073709551616 l x)(E:Num 18446744073709551616 m y)(F:y<=x)(hl:l.length=N+2)(ad:l.length<=1099511627776):
 ∃a b:Nat,(∃P x' y',Highs x y a b P x' y')/\∀(W G:Vx) (c1 c2:Nat) (w:Vz),U64 w W c1 l x->U64 w G c2 m y->Calls prog 213 #[.slice W l.length c1,.slice G m.length c2] w fun e w'=>e=.returned (.tuple #[.int .u64 (a:Int),.int .u64 (b:Int)])/\Below w.heap.size w w':=by
 have H:m.length<=N+2:=by
  apply bC;intro hc;have:=Qax (B:=18446744073709551616) (by decide) v.small E.trim (by omega);rw[v.eq,E.eq] at this;omega
 have g:m.length<=1099511627776:=by omega
 obtain⟨lx,I,X⟩:=Qjl v (N:=N) (by omega);obtain⟨ly,J,Y⟩:=Qjl E (N:=N) H;obtain⟨d1,j⟩:∃d,l.getD (N+1) 0=d:=⟨_,rfl⟩;obtain⟨d0,n⟩:∃d,l.getD N 0=d:=⟨_,rfl⟩;obtain⟨f1,z⟩:∃d,m.getD (N+1) 0=d:=⟨_,rfl⟩;obtain⟨f0,q⟩:∃d,m.getD N 0=d:=⟨_,rfl⟩;have K:d1<18446744073709551616:=by rw[<-j];exact v.small.getD (by omega) _
 have M:d0<18446744073709551616:=by rw[<-n];exact v.small.getD (by omega) _
 have O:f0<18446744073709551616:=by rw[<-q];exact E.small.getD (by omega) _
 have Q:0<d1:=by
  obtain⟨_,t,V,_,_,h,_⟩:=Qjh v (N:=N+1) (by omega);rw[<-j,V];exact h
 rw[j,n] at X;rw[z,q] at Y;have Z:f1<=d1:=by
  apply bC;intro hc;have k1:18446744073709551616 ^ N*(d0+18446744073709551616*d1+1)<=18446744073709551616 ^ N*(f0+18446744073709551616*f1):=Nat.mul_le_mul_left _ (by omega);rw[Nat.mul_add _ _ 1,Nat.mul_one] at k1;omega
 obtain⟨s,u,hs,R,k⟩:=Qfi d1 Q K;have c:=Hi (fun w=>Qfh (d1:Int) w (by omega) (by omega));rw[hs] at c;obtain⟨lo,hi,a,r,u1,u2,u3,aa,hr,S⟩:=Qjk d1 d0 s u k M;obtain⟨ae,af,b,t,v1,v2,v3,ag,V,T⟩:=Qjk f1 f0 s u (Nat.lt_of_le_of_lt (Nat.mul_le_mul_right _ Z) k) O;refine⟨a,b,Qqq F X Y I J S T hr V aa,?_⟩;intro W G c1 c2 w h1 h2;obtain⟨b1,o1,rfl,ah,U⟩:=h1.row.cell (N+1) (by omega);obtain⟨b2,o2,e2,ai,ab⟩:=h1.row.cell N (by omega);obtain⟨rfl,rfl⟩:b1=b2/\o1=o2:=by simp at e2;exact e2
 clear e2;have f:=Qb5 G c2 m (N+1);have i:=Qb5 G c2 m N;rw[z] at f;rw[q] at i;rw[j] at U;rw[n] at ab;obtain⟨D,f,i⟩:=Ib h2 f i;obtain⟨L,hL⟩:=nm l.length;obtain⟨p,hp⟩:=nm (N+1);rw[hL];rw[hp] at U f;have w1:IntKind.i64.wrap ((L:Int) - 1)=(p:Int):=by rw[wrap_i64 _ (by omega) (by omega)];omega
 have w2:IntKind.i64.wrap ((L:Int) - 2)=(N:Int):=by rw[wrap_i64 _ (by omega) (by omega)];omega
 have w3:IntKind.i64.wrap (64 - (s:Int))=((64 - s:Nat):Int):=by rw[wrap_i64 _ (by omega) (by omega)];omega
 have i1:(p:Int)<(L:Int):=by omega
 have i2:(N:Int)<(L:Int):=by omega
 have A:p<=2199023255552:=by omega
 have C:N<=2199023255552:=by omega
 clear h1 h2 v E X Y I J S T hr V R k j n z q hs F hl H hp;go_enter func213,ntmps213;go_wp2_with fail;go_fit (c.o _);rintro e w2 ⟨rfl,hw⟩;subst hw;clear c;go_wp2_with fail;go_region
 all_goals
  go_wp2_with fail;go_region_held3 (fun _=>True) (trivial) (first
   |(
    go_at_call 199
    first
     |go_fit (f.o _ (D.o.row) g A)
     |go_fit (f.o _ (D.o.drew.row) g A)
     |go_fit (f.o _ (D.o.drew.drew.row) g A)
     |go_fit (i.o _ (D.o.row) g C)
     |go_fit (i.o _ (D.o.drew.row) g C)
     |go_fit (i.o _ (D.o.drew.drew.row) g C)
    rintro e w6 ⟨rfl,hw⟩
    subst hw))
  all_goals
   go_wp2;go_ret2;exact⟨rfl,bR.drew.drew⟩
theorem SB.apart{w:Vz}{b g:Nat}{t:Vr}{C:Vw}(h:SB w b t C)(a:b≠g)(i:Nat)(v:Value):SB (w.setCell ⟨g,i,none⟩ v) b t C:=by
 unfold SB at h ⊢;rw[Below.heap_setCell _ _ _ _ a];exact h
def StepsVal(odd:Bool)(xx xy yx yy:Nat):Value:=.agg #[.int .u64 xx,.int .u64 xy,.int .u64 yx,.int .u64 yy,.bool odd]
structure Steps (x y:Nat) (odd:Bool) (xx xy yx yy:Nat):Prop where
 bxx:xx<18446744073709551616
 bxy:xy<18446744073709551616
 byx:yx<18446744073709551616
 byy:yy<18446744073709551616
 go:0<xy->∃X Y,Lehm odd xx xy yx yy x y X Y
def StepsSaid(x y:Nat)(w:Vz)(e:Ending)(w':Vz):Prop:=(∃odd xx xy yx yy,e=.returned (StepsVal odd xx xy yx yy)/\Steps x y odd xx xy yx yy)/\Below w.heap.size w w'
theorem LInv.small{d k f:Nat}{g:Bool}{l m i c j e a b n:Nat}(h:LInv d k f g l m i c j e a b n)(o:1<=b):j<=d/\e+c<=d/\i<=d+1:=by
 have p:=h.whole;have q:=h.ab;have r:e*1<=e*a:=Nat.mul_le_mul_left _ (by omega);have s:c*1<=c*b:=Nat.mul_le_mul_left _ o;have t:=h.n1;have u:i<=c+1:=by
  rcases(show f=0∨1<=f by omega) with h0|h0
  . have:=h.s0 h0;omega
  . have:=h.s1 h0;omega
 refine⟨by omega,by omega,by have:=h.n2;omega⟩
theorem LInv.step{j o p:Nat}{g:Bool}{t w k f i c a b x:Nat}(h:LInv j o p g t w k f i c a b x)(y:c<=b)(l:b+f+c<=a):∃q r u v d e:Nat,(a:Int) / (b:Int)=(q:Int)/\Int.tdiv (a:Int) (b:Int)=(q:Int)/\(a:Int) % (b:Int)=(r:Int)/\Int.tmod (a:Int) (b:Int)=(r:Int)/\(q:Int)*(i:Int)=(u:Int)/\(q:Int)*(c:Int)=(v:Int)/\(k:Int)+(u:Int)=(d:Int)/\(f:Int)+(v:Int)=(e:Int)/\
 d<=j/\e<=j/\u<=d/\v<=e/\r<b/\q<=a/\LInv j o (min (p+1) 2) (!g) k f i c d e b r a:=by
 have z:=h.n2;have A:a / b*b+a % b=a:=by rw[Nat.mul_comm];exact Nat.div_add_mod a b
 have s:a % b<b:=Nat.mod_lt _ (by omega);have m:1<=a / b:=(Nat.one_le_div_iff (by omega)).2 (by omega);have n:=h.next y l A s m;have B:=n.whole;have C:=n.n1;have D:(f+a / b*c)*1<=(f+a / b*c)*b:=Nat.mul_le_mul_left _ (by omega);refine⟨a / b,a % b,a / b*i,a / b*c,k+a / b*i,f+a / b*c,rfl,rfl,rfl,rfl,(Int.natCast_mul _ _).symm,(Int.natCast_mul _ _).symm,(Int.natCast_add _ _).symm,(Int.natCast_add _ _).symm,by omega,by omega,by omega,by omega,s,Nat.div_le_self _ _,n⟩
theorem Tryz.stepsInfo:(prog.info? 234).map (·.size)=some 5:=by kernel_rfl
theorem LInv.steps{j k d:Nat}{c:Bool}{e f g i l m a b n P o p x y:Nat}(h:LInv j k d c e f g i l m a b n)(H:Highs x y j k P o p)(q:e<18446744073709551616)(r:f<18446744073709551616)(s:g<18446744073709551616)(t:i<18446744073709551616):Steps x y c e f g i:=by
 refine⟨by omega,by omega,by omega,by omega,fun u=>?_⟩;rcases(show d=0∨d=1∨2<=d by omega) with h1|h1|h1
 . have:=h.s0 h1;omega
 . have:=h.s2 h1;omega
 . exact h.done h1 H.hx H.hy H.hx' H.hy'
theorem Qqv(M Q:Vx)(c1 c2 N:Nat)(l m:Vy)(x y:Nat)(w:Vz)(I:U64 w M c1 l x)(S:U64 w Q c2 m y)(D:y<=x)(hl:l.length=N+2):
 Calls prog 192 #[.slice M l.length c1,.slice Q m.length c2] w (StepsSaid x y w):=by
 obtain⟨J,T,⟨P,x',y',K⟩,hC⟩:=Qqr N l m x y I.num S.num D hl I.short;obtain⟨HC,HH⟩:=Ia hC K;have ao:=K.ha;have U:=K.ab;obtain⟨H1,H2⟩:=Ia I S;clear K hC I S D hl;go_enter func192,ntmps192;go_wp2_with fail;go_fit (HC.o M Q c1 c2 _ (H1.o.below (bR.alloc lZ _)) (H2.o.below (bR.alloc lZ _)));rintro e w1 ⟨rfl,B⟩;have HB:O (Below w.heap.size w w1):=Hi ((bR.alloc lZ _).trans (B.mono (by rw[World.size_alloc];omega)));have d:=SB.below (SB.new w _ _) B (by rw[World.size_alloc];omega);obtain⟨R,E⟩:=nm w.heap.size;obtain⟨g,L⟩:=nm w1.heap.size;have i:R<g:=by rw[<-L,<-E];exact d.lt
 have HS:=Hi d;rw[E] at HB HS;clear B HC d;go_wp2_with fail
 try rw[L]
 try rw[E]
 obtain⟨HG,HR⟩:=Ia L E;clear L E;go_loopw [5,6,8,9] (fun av V W X wr=>∃(Y:Nat) (c:Bool) (k n j f F p a b pa:Nat),av=.int .u64 a/\V=.int .u64 b/\W=.int .u64 F/\X=.int .u64 p/\a<=J/\F<18446744073709551616/\p<18446744073709551616/\k<18446744073709551616/\n<18446744073709551616/\j<18446744073709551616/\f<18446744073709551616/\LInv J T Y c k n j f F p a b pa/\
  SB wr g 234 #[.int .u64 k,.int .u64 n,.int .u64 j,.int .u64 f,.bool c]/\SB wr R 234 #[.int .u64 0,.int .u64 0,.int .u64 0,.int .u64 0,.bool false]/\Below R w wr) (fun _ V _ _ _=>(intOf V).toNat)
 case atStart=>
  refine⟨0,true,0,0,1,0,0,1,J,T,0,rfl,rfl,rfl,rfl,by omega,by omega,by omega,by omega,by omega,by omega,by omega,LInv.start J T U,?_,HS.o.alloc _,HB.o.alloc (by rw[HG.o];omega) _⟩;rw[<-HG.o];exact SB.new _ _ _
 case round=>
  obtain⟨Y,c,k,n,j,f,F,p,a,b,pa,rfl,rfl,rfl,rfl,ap,Z,aa,G,H,s,t,hL,d,h,B⟩:=hrel;obtain⟨C,ad,z,A⟩:=Ic hL d h B;have k0:=d.cell 0;have k1:=d.cell 1;have k2:=d.cell 2;have k3:=d.cell 3;have k4:=d.cell 4;have f0:=d.free 0;have f1:=d.free 1;have f2:=d.free 2;have f3:=d.free 3;have f4:=d.free 4;have r0:=h.cell 0;have r1:=h.cell 1;have r2:=h.cell 2;have r3:=h.cell 3;have r4:=h.cell 4;have q0:=h.free 0;have q1:=h.free 1;have q2:=h.free 2;have q3:=h.free 3;have q4:=h.free 4;simp at k0 k1 k2 k3 k4 r0 r1 r2 r3 r4;have aq:=hL.ab;clear d h B hL;by_cases ae:p<=b
  .
   have af:=C.o.small (by have:=C.o.n2;omega);obtain⟨aj,ak,al⟩:=af;by_cases ag:b+f+p<=a
   .
    obtain⟨q,r,u,v,ah,ai,d1,d2,d3,d4,d5,d6,d7,d8,am,an,hu,hv,h,ar,hN⟩:=C.o.step ae ag;have HN:=Hi hN;clear hN;have t1:((b:Int) == 0)=false:=by rw[beq_eq_false_iff_ne];have:=C.o.n2;omega
    have t2:decide ((f:Int)+(p:Int)<=(a:Int) - (b:Int))=true:=by simp;omega
    clear r0 r1 r2 r3 r4 q0 q1 q2 q3 q4;go_wp2_with fail;go_region
    all_goals
     go_wp2;refine⟨⟨min (Y+1) 2,!c,j,f,F,p,ah,ai,b,r,a,rfl,rfl,rfl,rfl,by omega,by omega,by omega,s,t,Z,aa,HN.o,?_,?_,?_⟩,?_⟩
     . exact SB.drew (((((ad.o.set 0 _).set 2 _).set 1 _).set 3 _).set 4 _)
     . refine SB.drew (SB.apart (SB.apart (SB.apart (SB.apart (SB.apart z.o ?_ 0 _) ?_ 2 _) ?_ 1 _) ?_ 3 _) ?_ 4 _)
       all_goals omega
     . exact(((((A.o.setCell (Nat.le_of_lt i) _).setCell (Nat.le_of_lt i) _).setCell (Nat.le_of_lt i) _).setCell (Nat.le_of_lt i) _).setCell (Nat.le_of_lt i) _).drew
     . simp[intOf];omega
   .
    have t1:((a:Int) - (b:Int)≥(f:Int)+(p:Int))=False:=by simp;omega
    have t2:decide ((f:Int)+(p:Int)<=(a:Int) - (b:Int))=false:=by simp;omega
    go_wp2;refine bodyPost_ret (v:=StepsVal c k n j f) (results_cell_row rfl _ _ R 234 #[.int .u64 k,.int .u64 n,.int .u64 j,.int .u64 f,.bool c] (0,0) _ rfl (((((z.o.set 0 _).set 1 _).set 2 _).set 3 _).set 4 _) underlying234 rfl Tryz.stepsInfo) rfl ?_;exact⟨⟨c,k,n,j,f,rfl,C.o.steps HH.o G H s t⟩,by rw[HR.o];exact((((A.o.setCell lZ _).setCell lZ _).setCell lZ _).setCell lZ _).setCell lZ _⟩
  .
   go_wp2;refine bodyPost_ret (v:=StepsVal c k n j f) (results_cell_row rfl _ _ R 234 #[.int .u64 k,.int .u64 n,.int .u64 j,.int .u64 f,.bool c] (0,0) _ rfl (((((z.o.set 0 _).set 1 _).set 2 _).set 3 _).set 4 _) underlying234 rfl Tryz.stepsInfo) rfl ?_;exact⟨⟨c,k,n,j,f,rfl,C.o.steps HH.o G H s t⟩,by rw[HR.o];exact((((A.o.setCell lZ _).setCell lZ _).setCell lZ _).setCell lZ _).setCell lZ _⟩
theorem Qqw(b:Bool)(c a d f:Nat)(w:Vz):
 Calls prog 193 #[StepsVal b c a d f] w fun e w'=>e=.returned (.bool (decide (a=0)))/\Below w.heap.size w w':=by
 rw[show (decide (a=0))=((a:Int) == 0) by by_cases h:a=0<;>simp[h]];unfold StepsVal;go_enter func193,ntmps193;go_wp2;go_ret;exact⟨rfl,bR.alloc lZ _⟩
theorem Qjp{w:Vz}{g cap n:Nat}{C l:Vy}{x:Nat}(h:ON w g cap C l x)(a:n<=l.length):∃t,x=val 18446744073709551616 (C.take n)+18446744073709551616 ^ n*t:=by
 refine⟨val 18446744073709551616 (l.drop n),?_⟩;have e:C.take n=l.take n:=by
  have:=congrArg (List.take n) h.fro;rw[List.take_take,Nat.min_eq_left a] at this;exact this
 rw[e,<-Qah _ _ _ a];exact h.num.eq.symm
theorem ON.lt{w:Vz}{g cap:Nat}{C l:Vy}{x:Nat}(h:ON w g cap C l x):x<18446744073709551616 ^ l.length:=by
 have:=Qaa (B:=18446744073709551616) (by decide) h.num.small;rw[h.num.eq] at this;exact this
def Both(w:Vz)(gx gy X Y:Nat)(e:Ending):Prop:=∃ga gb ca cb Ca Cb la lb,e=.returned (.tuple #[.slice (some ⟨ga,0,none⟩) (List.length la) ca,.slice (some ⟨gb,0,none⟩) (List.length lb) cb])/\ON w ga ca Ca la X/\ON w gb cb Cb lb Y/\((ga=gx/\gb=gy)∨(ga=gy/\gb=gx))
theorem Qqx(c:Bool)(H I J K:Nat)(j k v A:Nat)(Cx Cy l m:Vy)(x y X Y:Nat)(w:Vz)(d:ON w j v Cx l x)(g:ON w k A Cy m y)(af:j≠k)(ap:y<=x)(z:Steps x y c H I J K)(hL:Lehm c H I J K x y X Y)(hy:0<y)(B:Nat)(ag:B<=j)(ah:B<=k):
 Calls prog 195 #[StepsVal c H I J K,.slice (some ⟨j,0,none⟩) l.length v,.slice (some ⟨k,0,none⟩) m.length A] w fun e w'=>Both w' j k X Y e/\Below B w w':=by
 have hl:=hL.less hy;have aq:m.length<=l.length:=g.num.length_le_of_lt (by decide) (Nat.lt_of_le_of_lt ap d.lt);have L:=d.fit;have M:=g.fit;have N:=d.le;have P:=g.le;have Q:=d.len;have R:=g.len;have C:X<18446744073709551616 ^ m.length:=Nat.lt_of_le_of_lt hl.1 g.lt;have S:Y<18446744073709551616 ^ m.length:=Nat.lt_of_le_of_lt (by have:=hL.le;omega) C;have tx:=Qjp d aq;have ty:=Qjp g lZ;have fx:=hL.fx;have fy:=hL.fy;have i:=Hi (⟨C,S,tx,ty⟩:X<18446744073709551616 ^ m.length/\Y<18446744073709551616 ^ m.length/\_/\_);obtain⟨wa,n⟩:=nm (w.alloc (.cells #[Value.int .u64 H,.int .u64 I,.int .u64 J,.int .u64 K,.bool c] 234));obtain⟨gs,hg⟩:=nm w.heap.size;have f:Below w.heap.size w wa:=by rw[<-n];exact(Below.refl _ _).alloc lZ _
 have a:SB wa gs 234 #[Value.int .u64 H,.int .u64 I,.int .u64 J,.int .u64 K,.bool c]:=by rw[<-n,<-hg];exact SB.new _ _ _
 have p1:=d.pre.below f d.pre.lt;have p2:=g.pre.below f g.pre.lt;have HB:O (Below B w wa):=Hi (f.mono (by have:=d.pre.lt;omega));have ai:O (B<=wa.heap.size):=Hi (by have:=d.pre.lt;have:=f.size;omega);have k0:=a.cell 0;have k1:=a.cell 1;have k2:=a.cell 2;have k3:=a.cell 3;have k4:=a.cell 4;simp at k0 k1 k2 k3 k4;obtain⟨HW,HG,aj,ak,D,E,ar,au⟩:=Ig n hg Q R N P L M;have al:m.length<=v:=by omega
 have am:m.length<=A:=by omega
 obtain⟨an,ao⟩:=Ia al am;have im:(m.length:Int)<=(v:Int):=by omega
 have av:(0:Int)<=(m.length:Int):=by omega
 unfold StepsVal;cases c
 .
  simp only[Bool.false_eq_true,if_false] at fx fy;obtain⟨p,T,U⟩:=Ib (Qjo j k m.length v A H I K J Cx Cy wa p1 p2 af d.small g.small (by omega) (by omega) (by omega) (by omega) (by omega) z.bxx z.bxy z.byy z.byx) fx fy;clear d g z hL hl C S tx ty fx fy p1 p2 f a n hg Q R N P L M;go_enter func195,ntmps195;go_wp2_with fail;rw[HW.o,HG.o];go_wp2_with fail;go_fit p.o;rintro e w2 ⟨rfl,X2,Y2,q,r,F,G,V,W,oX,oY,s⟩;obtain⟨Z,aa⟩:=Ia (Qc7 j m.length v X X2 w2 q V (by rw[F];exact aj.o) (by rw[F];have:=D.o;omega) an.o (oX.end V (by rw[F];have:=D.o;omega) i.o.2.2.1 i.o.2.2.2 T.o i.o.1)) (Qc7 k m.length A Y Y2 w2 r W (by rw[G];exact ak.o) (by rw[G];have:=E.o;omega) ao.o (oY.end W (by rw[G];have:=E.o;omega) i.o.2.2.2 i.o.2.2.1 U.o i.o.2.1))
  have ab:=Hi (HB.o.trans (s.below ag ah ai.o));clear q r F G V W oX oY s p k0 k1 k2 k3 k4;go_wp2_with fail;go_fit Z.o;rintro e w3 ⟨⟨r1,rfl,t,_⟩,b⟩;subst b;have ad:=Hi t;clear t;go_wp2_with fail;go_fit aa.o;rintro e w3 ⟨⟨r2,rfl,u,_⟩,b⟩;subst b;have ae:=Hi u;clear u;go_wp2;go_ret2;exact⟨⟨j,k,v,A,X2,Y2,r1,r2,rfl,ad.o,ae.o,.inl ⟨rfl,rfl⟩⟩,ab.o⟩
 .
  simp only[if_true] at fx fy;obtain⟨p,T,U⟩:=Ib (Qjo k j m.length A v I H J K Cy Cx wa p2 p1 (fun h=>af h.symm) g.small d.small (by omega) (by omega) (by omega) (by omega) (by omega) z.bxy z.bxx z.byx z.byy) fx fy;clear d g z hL hl C S tx ty fx fy p1 p2 f a n hg Q R N P L M;go_enter func195,ntmps195;go_wp2_with fail;rw[HW.o,HG.o];go_wp2_with fail;go_fit p.o;rintro e w2 ⟨rfl,X2,Y2,q,r,F,G,V,W,oX,oY,s⟩;obtain⟨Z,aa⟩:=Ia (Qc7 k m.length A X X2 w2 q V (by rw[F];exact ak.o) (by rw[F];have:=E.o;omega) ao.o (oX.end V (by rw[F];have:=E.o;omega) i.o.2.2.2 i.o.2.2.1 T.o i.o.1)) (Qc7 j m.length v Y Y2 w2 r W (by rw[G];exact aj.o) (by rw[G];have:=D.o;omega) an.o (oY.end W (by rw[G];have:=D.o;omega) i.o.2.2.1 i.o.2.2.2 U.o i.o.2.1))
  have ab:=Hi (HB.o.trans (s.below ah ag ai.o));clear q r F G V W oX oY s p k0 k1 k2 k3 k4;go_wp2_with fail;go_fit Z.o;rintro e w3 ⟨⟨r1,rfl,t,_⟩,b⟩;subst b;have ad:=Hi t;clear t;go_wp2_with fail;go_fit aa.o;rintro e w3 ⟨⟨r2,rfl,u,_⟩,b⟩;subst b;have ae:=Hi u;clear u;go_wp2;go_ret2;exact⟨⟨k,j,A,v,X2,Y2,r1,r2,rfl,ad.o,ae.o,.inr ⟨rfl,rfl⟩⟩,ab.o⟩
end Go.Proofs.YtppkmifkpjkgpaaGreatDoor
