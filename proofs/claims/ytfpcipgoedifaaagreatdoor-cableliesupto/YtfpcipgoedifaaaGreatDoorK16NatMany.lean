/- num's manySteps, none, apply. -/
import Derived.Test.YtfpcipgoedifaaaGreatDoorK15NatLess2
namespace Go.Proofs.YtfpcipgoedifaaaGreatDoor
set_option linter.unusedVariables false
structure LInv (a0 b0 st:Nat) (odd:Bool) (xx xy yx yy nX nY a b pa:Nat):Prop where
 ra:if odd then yx*a0=yy*b0+a else yy*b0=yx*a0+a
 rb:if odd then nY*b0=nX*a0+b else nX*a0=nY*b0+b
 ab:b≤a
 d1:if odd then yx*nY=yy*nX+1 else yy*nX=yx*nY+1
 n1:nX≤nY
 n2:1≤nY
 s0:st=0→odd=true∧xy=0∧yx=1∧yy=0∧nX=0
 s1:1≤st→yx≤yy∧1≤yy∧yy≤a∧a+xy+yy≤pa∧1≤nX
 dd:1≤st→if odd then xy*yx=xx*yy+1 else xx*yy=xy*yx+1
 rp:1≤st→if odd then xy*b0=xx*a0+pa else xx*a0=xy*b0+pa
 s2:st=1→xy=0
 s3:2≤st→xx≤xy∧1≤xy∧1≤yx
theorem LInv.start(a0 b0:Nat)(h:b0≤a0):LInv a0 b0 0 true 0 0 1 0 0 1 a0 b0 0:=
 ⟨by simp,by simp,h,by simp,by omega,by omega,fun _=>⟨rfl,rfl,rfl,rfl,rfl⟩,fun h=>by omega,fun h=>by omega,fun h=>by omega,fun h=>by omega,fun h=>by omega⟩
theorem LInv.whole{a0 b0 st:Nat}{odd:Bool}{xx xy yx yy nX nY a b pa:Nat}(h:LInv a0 b0 st odd xx xy yx yy nX nY a b pa):a0=nY*a+yy*b∧b0=nX*a+yx*b:=by
 have h1:=h.ra;have h2:=h.rb;have h3:=h.d1;cases odd
 · simp only[Bool.false_eq_true,if_false] at h1 h2 h3
   constructor<;>grind
 · simp only[if_true] at h1 h2 h3
   constructor<;>grind
theorem LInv.next{a0 b0 st q r:Nat}{odd:Bool}{xx xy yx yy nX nY a b pa:Nat}(h:LInv a0 b0 st odd xx xy yx yy nX nY a b pa)(hb:nY≤b)(hab:b+yy+nY≤a)(hq:q*b+r=a)(hr:r<b)(hq1:1≤q):
 LInv a0 b0 (min (st+1) 2) (!odd) yx yy nX nY (yx+q*nX) (yy+q*nY) b r a:=by
 have h1:=h.ra;have h2:=h.rb;have h3:=h.d1;have hn1:=h.n1;have hn2:=h.n2;have hqn:q*nX≤q*nY:=Nat.mul_le_mul_left q hn1;have hqy:nY≤q*nY:=by have:=Nat.mul_le_mul_right nY hq1;omega
 have hqx:nX≤q*nX:=by have:=Nat.mul_le_mul_right nX hq1;omega
 have hst:st=0∨1≤st:=by omega
 have hnn:yx+q*nX≤yy+q*nY:=by
  rcases hst with h0|h0
  · obtain⟨_,_,e1,e2,e3⟩:=h.s0 h0
    rw[e1,e2,e3,Nat.mul_zero];omega
  · have:=(h.s1 h0).1;omega
 have hx1:1≤yx+q*nX:=by
  rcases hst with h0|h0
  · obtain⟨_,_,e1,e2,e3⟩:=h.s0 h0
    omega
  · have:=(h.s1 h0).2.2.2.2;omega
 refine⟨?_,?_,by omega,?_,hnn,by omega,fun h0=>by omega,fun _=>⟨hn1,hn2,hb,by omega,hx1⟩,fun _=>?_,fun _=>?_,fun h0=>?_,fun h0=>?_⟩
 ·
  cases odd
  · simp only[Bool.not_false,if_true,Bool.false_eq_true,if_false] at h2 ⊢;exact h2
  · simp only[Bool.not_true,Bool.false_eq_true,if_false,if_true] at h2 ⊢;exact h2
 ·
  cases odd
  · simp only[Bool.not_false,if_true,Bool.false_eq_true,if_false] at h1 h2 ⊢;grind
  · simp only[Bool.not_true,Bool.false_eq_true,if_false,if_true] at h1 h2 ⊢;grind
 ·
  cases odd
  · simp only[Bool.not_false,if_true,Bool.false_eq_true,if_false] at h3 ⊢;grind
  · simp only[Bool.not_true,Bool.false_eq_true,if_false,if_true] at h3 ⊢;grind
 ·
  cases odd
  · simp only[Bool.not_false,if_true,Bool.false_eq_true,if_false] at h3 ⊢;exact h3
  · simp only[Bool.not_true,Bool.false_eq_true,if_false,if_true] at h3 ⊢;exact h3
 ·
  cases odd
  · simp only[Bool.not_false,if_true,Bool.false_eq_true,if_false] at h1 ⊢;exact h1
  · simp only[Bool.not_true,Bool.false_eq_true,if_false,if_true] at h1 ⊢;exact h1
 ·
  rcases hst with h1|h1
  · exact(h.s0 h1).2.2.2.1
  · omega
 · have h1:1≤st:=by omega
   exact⟨(h.s1 h1).1,(h.s1 h1).2.1,(h.s1 h1).2.2.2.2⟩
structure Lehm (odd:Bool) (xx xy yx yy x y X Y:Nat):Prop where
 fx:if odd then xy*y=xx*x+X else xx*x=xy*y+X
 fy:if odd then yx*x=yy*y+Y else yy*y=yx*x+Y
 le:Y≤X
 bx:x=yy*X+xy*Y
 by':y=yx*X+xx*Y
 p1:1≤xy
 p2:1≤yx
 p3:1≤yy
theorem Qdp{u v z P:Nat}(hz:z<P)(huv:u≤v):u*z≤v*P:=Nat.mul_le_mul huv (Nat.le_of_lt hz)
theorem LInv.done{a0 b0 st:Nat}{odd:Bool}{xx xy yx yy nX nY a b pa P x' y' x y:Nat}(h:LInv a0 b0 st odd xx xy yx yy nX nY a b pa)(h2:2≤st)(hx:x=a0*P+x')(hy:y=b0*P+y')(hx':x'<P)(hy':y'<P):∃X Y,Lehm odd xx xy yx yy x y X Y:=by
 obtain⟨k1,k2,k3,k4,k5⟩:=h.s1 (by omega);obtain⟨j1,j2,j3⟩:=h.s3 h2;have ra:=h.ra;have rp:=h.rp (by omega);have dd:=h.dd (by omega);have m1:=Qdp hx' j1;have m2:=Qdp hy' (Nat.le_refl xy);have m3:=Qdp hx' k1;have m4:=Qdp hy' (Nat.le_refl yy);have m5:xy*P+yy*P+a*P≤pa*P:=by rw[←Nat.add_mul,←Nat.add_mul];exact Nat.mul_le_mul_right _ (by omega)
 have m6:yy*P≤a*P:=Nat.mul_le_mul_right _ k3;cases odd
 ·
  simp only[Bool.false_eq_true,if_false] at ra rp dd;have e1:xx*x=xy*(b0*P)+pa*P+xx*x':=by rw[hx];grind
  have e2:xy*y=xy*(b0*P)+xy*y':=by rw[hy];grind
  have e3:yy*y=yx*(a0*P)+a*P+yy*y':=by rw[hy];grind
  have e4:yx*x=yx*(a0*P)+yx*x':=by rw[hx];grind
  obtain⟨X,hX⟩:∃X,xx*x=xy*y+X:=⟨xx*x - xy*y,by omega⟩;obtain⟨Y,hY⟩:∃Y,yy*y=yx*x+Y:=⟨yy*y - yx*x,by omega⟩;refine⟨X,Y,by simpa using hX,by simpa using hY,by omega,?_,?_,j2,j3,k2⟩
  · grind
  · grind
 ·
  simp only[if_true] at ra rp dd;have e1:xy*y=xx*(a0*P)+pa*P+xy*y':=by rw[hy];grind
  have e2:xx*x=xx*(a0*P)+xx*x':=by rw[hx];grind
  have e3:yx*x=yy*(b0*P)+a*P+yx*x':=by rw[hx];grind
  have e4:yy*y=yy*(b0*P)+yy*y':=by rw[hy];grind
  obtain⟨X,hX⟩:∃X,xy*y=xx*x+X:=⟨xy*y - xx*x,by omega⟩;obtain⟨Y,hY⟩:∃Y,yx*x=yy*y+Y:=⟨yx*x - yy*y,by omega⟩;refine⟨X,Y,by simpa using hX,by simpa using hY,by omega,?_,?_,j2,j3,k2⟩
  · grind
  · grind
theorem Lehm.gcd{odd:Bool}{xx xy yx yy x y X Y:Nat}(h:Lehm odd xx xy yx yy x y X Y):Nat.gcd X Y=Nat.gcd x y:=by
 apply Nat.dvd_antisymm
 ·
  apply Nat.dvd_gcd
  · rw[h.bx]
    exact Nat.dvd_add (Nat.dvd_trans (Nat.gcd_dvd_left X Y) (Nat.dvd_mul_left X yy)) (Nat.dvd_trans (Nat.gcd_dvd_right X Y) (Nat.dvd_mul_left Y xy))
  · rw[h.by']
    exact Nat.dvd_add (Nat.dvd_trans (Nat.gcd_dvd_left X Y) (Nat.dvd_mul_left X yx)) (Nat.dvd_trans (Nat.gcd_dvd_right X Y) (Nat.dvd_mul_left Y xx))
 ·
  have g1:=Nat.gcd_dvd_left x y;have g2:=Nat.gcd_dvd_right x y;have f1:=h.fx;have f2:=h.fy;generalize Nat.gcd x y=g at*;have dx:∀u,g ∣ u*x:=fun u=>Nat.dvd_trans g1 (Nat.dvd_mul_left x u)
  have dy:∀u,g ∣ u*y:=fun u=>Nat.dvd_trans g2 (Nat.dvd_mul_left y u)
  apply Nat.dvd_gcd
  ·
   cases odd
   · simp only[Bool.false_eq_true,if_false] at f1
     exact(Nat.dvd_add_right (dy xy)).1 (f1 ▸ dx xx)
   · simp only[if_true] at f1
     exact(Nat.dvd_add_right (dx xx)).1 (f1 ▸ dy xy)
  ·
   cases odd
   · simp only[Bool.false_eq_true,if_false] at f2
     exact(Nat.dvd_add_right (dx yx)).1 (f2 ▸ dy yy)
   · simp only[if_true] at f2
     exact(Nat.dvd_add_right (dy yy)).1 (f2 ▸ dx yx)
theorem Lehm.less{odd:Bool}{xx xy yx yy x y X Y:Nat}(h:Lehm odd xx xy yx yy x y X Y)(hy:0<y):X≤y∧X+Y<x+y:=by
 have h1:=h.bx;have h2:=h.by';have h3:=Nat.mul_le_mul_right X h.p3;have h4:=Nat.mul_le_mul_right Y h.p1;have h5:=Nat.mul_le_mul_right X h.p2;have h6:=h.le;have h7:0<X:=by
  rcases Nat.eq_zero_or_pos X with h0|h0
  ·
   have:Y=0:=by omega
   rw[h0,this] at h2;simp at h2;omega
  · exact h0
 constructor<;>omega
open Go.RowKit
set_option linter.unusedSimpArgs false
theorem Qja(d e s:Nat)(hs:s<64)(hd:d*2 ^ s<18446744073709551616)(he:e<18446744073709551616):∃lo hi new r:Nat,IntKind.u64.wrap ((d:Int)*2 ^ s)=(lo:Int)/\(e:Int) / 2 ^ (64 - s)=(hi:Int)/\bits .or .u64 (lo:Int) (hi:Int)=(new:Int)/\new<18446744073709551616/\r<2 ^ (64 - s)/\new*2 ^ (64 - s)+r=e+18446744073709551616*d:=by
 have h0:=Qbl (s:=s) (by omega);have h2:=Qfb (lo:=e) (s:=s) (by omega) he;have h3:=Nat.div_add_mod e (2 ^ (64 - s));have h4:2 ^ s*d+e / 2 ^ (64 - s)<18446744073709551616:=by
  have a1:d+1<=2 ^ (64 - s):=by
   apply Nat.lt_of_mul_lt_mul_left (a:=2 ^ s);rw[h0,Nat.mul_comm];exact hd
  have a2:=Nat.mul_le_mul_left (2 ^ s) a1;rw[h0,Nat.mul_add,Nat.mul_one] at a2;omega
 refine⟨d*2 ^ s,e / 2 ^ (64 - s),2 ^ s*d+e / 2 ^ (64 - s),e % 2 ^ (64 - s),?_,?_,?_,h4,Nat.mod_lt _ (Nat.two_pow_pos _),?_⟩
 · rw[show (d:Int)*2 ^ s=((d*2 ^ s:Nat):Int) by rw[Int.natCast_mul,Int.natCast_pow];rfl,Qbx _ hd]
 · rw[Int.natCast_ediv,Int.natCast_pow];rfl
 · exact or64 _ _ d (e / 2 ^ (64 - s)) s (by rw[Nat.mul_comm]) rfl h2 h4
 ·
  have e1:2 ^ s*d*2 ^ (64 - s)=18446744073709551616*d:=by rw[Nat.mul_right_comm,h0]
  rw[Nat.add_mul,e1,Nat.mul_comm (e / 2 ^ (64 - s))];omega
theorem Qjb{l:List Nat}{x N:Nat}(h:Num 18446744073709551616 l x)(hl:l.length<=N+2):∃low,low<18446744073709551616 ^ N/\x=low+18446744073709551616 ^ N*(l.getD N 0+18446744073709551616*l.getD (N+1) 0):=by
 refine⟨val 18446744073709551616 (l.take N),?_,?_⟩
 · have h1:=Qab (B:=18446744073709551616) (by decide) (h.small.take N)
   exact Nat.lt_of_lt_of_le h1 (Nat.pow_le_pow_right (by decide) (by rw[List.length_take];omega))
 ·
  have h1:=Qad 18446744073709551616 l (N+1);rw[List.take_of_length_le (by omega),h.eq,Qad,Nat.pow_succ] at h1;rw[h1,Nat.mul_add,Nat.mul_assoc];omega
structure Highs (x y a b P x' y':Nat):Prop where
 hx:x=a*P+x'
 hy:y=b*P+y'
 hx':x'<P
 hy':y'<P
 ab:b<=a
 ha:a<18446744073709551616
theorem Qql{x y lx ly N s d1 d0 e1 e0 a b r t:Nat}(hle:y<=x)(hx:x=lx+18446744073709551616 ^ N*(d0+18446744073709551616*d1))(hy:y=ly+18446744073709551616 ^ N*(e0+18446744073709551616*e1))(hlx:lx<18446744073709551616 ^ N)(hly:ly<18446744073709551616 ^ N)
 (ha:a*2 ^ (64 - s)+r=d0+18446744073709551616*d1) (hb:b*2 ^ (64 - s)+t=e0+18446744073709551616*e1) (hr:r<2 ^ (64 - s)) (ht:t<2 ^ (64 - s)) (hab:a<18446744073709551616):∃P x' y',Highs x y a b P x' y':=by
 generalize 18446744073709551616 ^ N=M at*;generalize 2 ^ (64 - s)=p at*;have h1:M*(r+1)<=M*p:=Nat.mul_le_mul_left M hr;have h2:M*(t+1)<=M*p:=Nat.mul_le_mul_left M ht;rw[Nat.mul_add,Nat.mul_one] at h1 h2;have e1:x=a*(M*p)+(lx+M*r):=by rw[hx,<-ha];grind
 have e2:y=b*(M*p)+(ly+M*t):=by rw[hy,<-hb];grind
 refine⟨M*p,lx+M*r,ly+M*t,e1,e2,by omega,by omega,?_,hab⟩;apply bC;intro hc;have h3:(a+1)*(M*p)<=b*(M*p):=Nat.mul_le_mul_right _ (by omega);rw[Nat.add_mul,Nat.one_mul] at h3;omega
set_option maxRecDepth 100000 in
set_option maxHeartbeats 1000000 in
theorem Qqm(N:Nat)(l m:List Nat)(x y:Nat)(g1:Num 18446744073709551616 l x)(g2:Num 18446744073709551616 m y)(hle:y<=x)(hl:l.length=N+2)(hs1:l.length<=1099511627776):
 ∃a b:Nat,(∃P x' y',Highs x y a b P x' y')/\∀(a1 a2:Option Addr) (c1 c2:Nat) (w:World),U64 w a1 c1 l x->U64 w a2 c2 m y->Calls Tryz.prog 156 #[.slice a1 l.length c1,.slice a2 m.length c2] w fun e w'=>e=.returned (.tuple #[.int .u64 (a:Int),.int .u64 (b:Int)])/\Below w.heap.size w w':=by
 have hml:m.length<=N+2:=by
  apply bC;intro hc;have:=Qas (B:=18446744073709551616) (by decide) g1.small g2.trim (by omega);rw[g1.eq,g2.eq] at this;omega
 have hs2:m.length<=1099511627776:=by omega
 obtain⟨lx,hlx,hx⟩:=Qjb g1 (N:=N) (by omega);obtain⟨ly,hly,hy⟩:=Qjb g2 (N:=N) hml;obtain⟨d1,hd1⟩:∃d,l.getD (N+1) 0=d:=⟨_,rfl⟩;obtain⟨d0,hd0⟩:∃d,l.getD N 0=d:=⟨_,rfl⟩;obtain⟨f1,hf1⟩:∃d,m.getD (N+1) 0=d:=⟨_,rfl⟩;obtain⟨f0,hf0⟩:∃d,m.getD N 0=d:=⟨_,rfl⟩;have hd1b:d1<18446744073709551616:=by rw[<-hd1];exact g1.small.getD (by omega) _
 have hd0b:d0<18446744073709551616:=by rw[<-hd0];exact g1.small.getD (by omega) _
 have hf0b:f0<18446744073709551616:=by rw[<-hf0];exact g2.small.getD (by omega) _
 have hd1p:0<d1:=by
  obtain⟨_,t,ht,_,_,h,_⟩:=Qi7 g1 (N:=N+1) (by omega);rw[<-hd1,ht];exact h
 rw[hd1,hd0] at hx;rw[hf1,hf0] at hy;have hfd:f1<=d1:=by
  apply bC;intro hc;have k1:18446744073709551616 ^ N*(d0+18446744073709551616*d1+1)<=18446744073709551616 ^ N*(f0+18446744073709551616*f1):=Nat.mul_le_mul_left _ (by omega);rw[Nat.mul_add _ _ 1,Nat.mul_one] at k1;omega
 obtain⟨s,hs64,hs,hst1,hst2⟩:=Qe9 d1 hd1p hd1b;have HLEAD:=Hi (fun w=>Qe8 (d1:Int) w (by omega) (by omega));rw[hs] at HLEAD;obtain⟨lo,hi,a,r,u1,u2,u3,hab,hr,har⟩:=Qja d1 d0 s hs64 hst2 hd0b;obtain⟨lo',hi',b,t,v1,v2,v3,hbb,ht,hbt⟩:=Qja f1 f0 s hs64 (Nat.lt_of_le_of_lt (Nat.mul_le_mul_right _ hfd) hst2) hf0b;refine⟨a,b,Qql hle hx hy hlx hly har hbt hr ht hab,?_⟩;intro a1 a2 c1 c2 w h1 h2;obtain⟨b1,o1,rfl,hb1,hc1⟩:=h1.row.cell (N+1) (by omega);obtain⟨b2,o2,e2,hb2,hc2⟩:=h1.row.cell N (by omega);obtain⟨rfl,rfl⟩:b1=b2/\o1=o2:=by simp at e2;exact e2
 clear e2;have HW1:=Qbr a2 c2 m (N+1);have HW0:=Qbr a2 c2 m N;rw[hf1] at HW1;rw[hf0] at HW0;rw[hd1] at hc1;rw[hd0] at hc2;have H2:=Hi h2;have HW1:=Hi HW1;have HW0:=Hi HW0;obtain⟨L,hL⟩:=nm l.length;obtain⟨p,hp⟩:=nm (N+1);rw[hL];rw[hp] at hc1 HW1;have w1:IntKind.i64.wrap ((L:Int) - 1)=(p:Int):=by rw[Qa0 _ (by omega) (by omega)];omega
 have w2:IntKind.i64.wrap ((L:Int) - 2)=(N:Int):=by rw[Qa0 _ (by omega) (by omega)];omega
 have w3:IntKind.i64.wrap (64 - (s:Int))=((64 - s:Nat):Int):=by rw[Qa0 _ (by omega) (by omega)];omega
 have i1:(p:Int)<(L:Int):=by omega
 have i2:(N:Int)<(L:Int):=by omega
 have hpN:p<=2199023255552:=by omega
 have hNN:N<=2199023255552:=by omega
 clear h1 h2 g1 g2 hx hy hlx hly har hbt hr ht hst1 hst2 hd1 hd0 hf1 hf0 hs hle hl hml hp;go_enter Tryz.func156,Tryz.ntmps156;go_wp2_with fail;go_fit (HLEAD.out _);rintro e w2 ⟨rfl,hw⟩;subst hw;clear HLEAD;go_wp2_with fail;go_region
 all_goals
  go_wp2_with fail;go_region_held3 (fun _=>True) (trivial) (first
   |(
    go_at_call 166
    first
     |go_fit (HW1.out _ (H2.out.row) hs2 hpN)
     |go_fit (HW1.out _ (H2.out.drew.row) hs2 hpN)
     |go_fit (HW1.out _ (H2.out.drew.drew.row) hs2 hpN)
     |go_fit (HW0.out _ (H2.out.row) hs2 hNN)
     |go_fit (HW0.out _ (H2.out.drew.row) hs2 hNN)
     |go_fit (HW0.out _ (H2.out.drew.drew.row) hs2 hNN)
    rintro e w6 ⟨rfl,hw⟩
    subst hw))
  all_goals
   go_wp2;go_ret2;exact⟨rfl,bR.drew.drew⟩
theorem SB.apart{w:World}{b g:Nat}{t:TypeId}{C:Array Value}(h:SB w b t C)(hne:b≠g)(i:Nat)(v:Value):SB (w.setCell ⟨g,i,none⟩ v) b t C:=by
 unfold SB at h ⊢;rw[Below.heap_setCell _ _ _ _ hne];exact h
def StepsVal(odd:Bool)(xx xy yx yy:Nat):Value:=.agg #[.int .u64 xx,.int .u64 xy,.int .u64 yx,.int .u64 yy,.bool odd]
structure Steps (x y:Nat) (odd:Bool) (xx xy yx yy:Nat):Prop where
 bxx:xx<18446744073709551616
 bxy:xy<18446744073709551616
 byx:yx<18446744073709551616
 byy:yy<18446744073709551616
 go:0<xy->∃X Y,Lehm odd xx xy yx yy x y X Y
def StepsSaid(x y:Nat)(w:World)(e:Ending)(w':World):Prop:=(∃odd xx xy yx yy,e=.returned (StepsVal odd xx xy yx yy)/\Steps x y odd xx xy yx yy)/\Below w.heap.size w w'
theorem LInv.small{a0 b0 st:Nat}{odd:Bool}{xx xy yx yy nX nY a b pa:Nat}(h:LInv a0 b0 st odd xx xy yx yy nX nY a b pa)(hb:1<=b):nX<=a0/\nY+yy<=a0/\yx<=a0+1:=by
 have h1:=h.whole;have h2:=h.ab;have h3:nY*1<=nY*a:=Nat.mul_le_mul_left _ (by omega);have h4:yy*1<=yy*b:=Nat.mul_le_mul_left _ hb;have h5:=h.n1;have h6:yx<=yy+1:=by
  rcases(show st=0∨1<=st by omega) with h0|h0
  · have:=h.s0 h0;omega
  · have:=h.s1 h0;omega
 refine⟨by omega,by omega,by have:=h.n2;omega⟩
theorem LInv.step{a0 b0 st:Nat}{odd:Bool}{xx xy yx yy nX nY a b pa:Nat}(h:LInv a0 b0 st odd xx xy yx yy nX nY a b pa)(hb:nY<=b)(hab:b+yy+nY<=a):∃q r u v nX' nY':Nat,(a:Int) / (b:Int)=(q:Int)/\Int.tdiv (a:Int) (b:Int)=(q:Int)/\(a:Int) % (b:Int)=(r:Int)/\Int.tmod (a:Int) (b:Int)=(r:Int)/\(q:Int)*(nX:Int)=(u:Int)/\(q:Int)*(nY:Int)=(v:Int)/\(yx:Int)+(u:Int)=(nX':Int)/\(yy:Int)+(v:Int)=(nY':Int)/\
 nX'<=a0/\nY'<=a0/\u<=nX'/\v<=nY'/\r<b/\q<=a/\LInv a0 b0 (min (st+1) 2) (!odd) yx yy nX nY nX' nY' b r a:=by
 have hn2:=h.n2;have hq:a / b*b+a % b=a:=by rw[Nat.mul_comm];exact Nat.div_add_mod a b
 have hr:a % b<b:=Nat.mod_lt _ (by omega);have hq1:1<=a / b:=(Nat.one_le_div_iff (by omega)).2 (by omega);have hN:=h.next hb hab hq hr hq1;have hw:=hN.whole;have h1:=hN.n1;have h2:(yy+a / b*nY)*1<=(yy+a / b*nY)*b:=Nat.mul_le_mul_left _ (by omega);refine⟨a / b,a % b,a / b*nX,a / b*nY,yx+a / b*nX,yy+a / b*nY,rfl,rfl,rfl,rfl,(Int.natCast_mul _ _).symm,(Int.natCast_mul _ _).symm,(Int.natCast_add _ _).symm,(Int.natCast_add _ _).symm,by omega,by omega,by omega,by omega,hr,Nat.div_le_self _ _,hN⟩
theorem Tryz.stepsInfo:(Tryz.prog.info? 170).map (·.size)=some 5:=by kernel_rfl
theorem LInv.steps{a0 b0 st:Nat}{odd:Bool}{xx xy yx yy nX nY a b pa P x' y' x y:Nat}(h:LInv a0 b0 st odd xx xy yx yy nX nY a b pa)(H:Highs x y a0 b0 P x' y')(hxx:xx<18446744073709551616)(hxy:xy<18446744073709551616)(hyx:yx<18446744073709551616)(hyy:yy<18446744073709551616):Steps x y odd xx xy yx yy:=by
 refine⟨by omega,by omega,by omega,by omega,fun h0=>?_⟩;rcases(show st=0∨st=1∨2<=st by omega) with h1|h1|h1
 · have:=h.s0 h1;omega
 · have:=h.s2 h1;omega
 · exact h.done h1 H.hx H.hy H.hx' H.hy'
set_option maxRecDepth 100000 in
set_option maxHeartbeats 1000000 in
theorem Qqq(a1 a2:Option Addr)(c1 c2 N:Nat)(l m:List Nat)(x y:Nat)(w:World)(h1:U64 w a1 c1 l x)(h2:U64 w a2 c2 m y)(hle:y<=x)(hl:l.length=N+2):
 Calls Tryz.prog 121 #[.slice a1 l.length c1,.slice a2 m.length c2] w (StepsSaid x y w):=by
 obtain⟨a0,b0,⟨P,x',y',hH⟩,hC⟩:=Qqm N l m x y h1.num h2.num hle hl h1.short;have HC:=Hi hC;have HH:=Hi hH;have ha0:=hH.ha;have hb0:=hH.ab;have H1:=Hi h1;have H2:=Hi h2;clear hH hC h1 h2 hle hl;go_enter Tryz.func121,Tryz.ntmps121;go_wp2_with fail;go_fit (HC.out a1 a2 c1 c2 _ (H1.out.below (bR.alloc lZ _)) (H2.out.below (bR.alloc lZ _)));rintro e w1 ⟨rfl,hb⟩;have HB:Hid (Below w.heap.size w w1):=Hi ((bR.alloc lZ _).trans (hb.mono (by rw[World.size_alloc];omega)));have hs:=SB.below (SB.new w _ _) hb (by rw[World.size_alloc];omega);obtain⟨R,hR⟩:=nm w.heap.size;obtain⟨g,hg⟩:=nm w1.heap.size;have hRg:R<g:=by rw[<-hg,<-hR];exact hs.lt
 have HS:=Hi hs;rw[hR] at HB HS;clear hb HC hs;go_wp2_with fail
 try rw[hg]
 try rw[hR]
 have HG:=Hi hg;have HR:=Hi hR;clear hg hR;go_loopw [5,6,8,9] (fun av bv nxv nyv wr=>∃(st:Nat) (odd:Bool) (xx xy yx yy nX nY a b pa:Nat),av=.int .u64 a/\bv=.int .u64 b/\nxv=.int .u64 nX/\nyv=.int .u64 nY/\a<=a0/\nX<18446744073709551616/\nY<18446744073709551616/\xx<18446744073709551616/\xy<18446744073709551616/\yx<18446744073709551616/\yy<18446744073709551616/\LInv a0 b0 st odd xx xy yx yy nX nY a b pa/\
  SB wr g 170 #[.int .u64 xx,.int .u64 xy,.int .u64 yx,.int .u64 yy,.bool odd]/\SB wr R 170 #[.int .u64 0,.int .u64 0,.int .u64 0,.int .u64 0,.bool false]/\Below R w wr) (fun _ bv _ _ _=>(intOf bv).toNat)
 case atStart=>
  refine⟨0,true,0,0,1,0,0,1,a0,b0,0,rfl,rfl,rfl,rfl,by omega,by omega,by omega,by omega,by omega,by omega,by omega,LInv.start a0 b0 hb0,?_,HS.out.alloc _,HB.out.alloc (by rw[HG.out];omega) _⟩;rw[<-HG.out];exact SB.new _ _ _
 case round=>
  obtain⟨st,odd,xx,xy,yx,yy,nX,nY,a,b,pa,rfl,rfl,rfl,rfl,haa,hnx,hny,hxx,hxy,hyx,hyy,hL,hs,hr,hb⟩:=hrel;have HL:=Hi hL;have HS2:=Hi hs;have HR2:=Hi hr;have HB2:=Hi hb;have k0:=hs.cell 0;have k1:=hs.cell 1;have k2:=hs.cell 2;have k3:=hs.cell 3;have k4:=hs.cell 4;have f0:=hs.free 0;have f1:=hs.free 1;have f2:=hs.free 2;have f3:=hs.free 3;have f4:=hs.free 4;have r0:=hr.cell 0;have r1:=hr.cell 1;have r2:=hr.cell 2;have r3:=hr.cell 3;have r4:=hr.cell 4;have q0:=hr.free 0;have q1:=hr.free 1;have q2:=hr.free 2;have q3:=hr.free 3;have q4:=hr.free 4;simp at k0 k1 k2 k3 k4 r0 r1 r2 r3 r4;have hab:=hL.ab;clear hs hr hb hL;by_cases hc1:nY<=b
  ·
   have hsm:=HL.out.small (by have:=HL.out.n2;omega);obtain⟨hsm1,hsm2,hsm3⟩:=hsm;by_cases hc2:b+yy+nY<=a
   ·
    obtain⟨q,r,u,v,nX',nY',d1,d2,d3,d4,d5,d6,d7,d8,hnx',hny',hu,hv,hr,hqa,hN⟩:=HL.out.step hc1 hc2;have HN:=Hi hN;clear hN;have t1:((b:Int) == 0)=false:=by rw[beq_eq_false_iff_ne];have:=HL.out.n2;omega
    have t2:decide ((yy:Int)+(nY:Int)<=(a:Int) - (b:Int))=true:=by simp;omega
    clear r0 r1 r2 r3 r4 q0 q1 q2 q3 q4;go_wp2_with fail;go_region
    all_goals
     go_wp2;refine⟨⟨min (st+1) 2,!odd,yx,yy,nX,nY,nX',nY',b,r,a,rfl,rfl,rfl,rfl,by omega,by omega,by omega,hyx,hyy,hnx,hny,HN.out,?_,?_,?_⟩,?_⟩
     · exact SB.drew (((((HS2.out.set 0 _).set 2 _).set 1 _).set 3 _).set 4 _)
     · refine SB.drew (SB.apart (SB.apart (SB.apart (SB.apart (SB.apart HR2.out ?_ 0 _) ?_ 2 _) ?_ 1 _) ?_ 3 _) ?_ 4 _)
       all_goals omega
     · exact(((((HB2.out.setCell (Nat.le_of_lt hRg) _).setCell (Nat.le_of_lt hRg) _).setCell (Nat.le_of_lt hRg) _).setCell (Nat.le_of_lt hRg) _).setCell (Nat.le_of_lt hRg) _).drew
     · simp[intOf];omega
   ·
    have t1:((a:Int) - (b:Int)≥(yy:Int)+(nY:Int))=False:=by simp;omega
    have t2:decide ((yy:Int)+(nY:Int)<=(a:Int) - (b:Int))=false:=by simp;omega
    go_wp2;refine bodyPost_ret (v:=StepsVal odd xx xy yx yy) (results_cell_row rfl _ _ R 170 #[.int .u64 xx,.int .u64 xy,.int .u64 yx,.int .u64 yy,.bool odd] (0,0) _ rfl (((((HR2.out.set 0 _).set 1 _).set 2 _).set 3 _).set 4 _) Tryz.underlying170 rfl Tryz.stepsInfo) rfl ?_;exact⟨⟨odd,xx,xy,yx,yy,rfl,HL.out.steps HH.out hxx hxy hyx hyy⟩,by rw[HR.out];exact((((HB2.out.setCell lZ _).setCell lZ _).setCell lZ _).setCell lZ _).setCell lZ _⟩
  ·
   go_wp2;refine bodyPost_ret (v:=StepsVal odd xx xy yx yy) (results_cell_row rfl _ _ R 170 #[.int .u64 xx,.int .u64 xy,.int .u64 yx,.int .u64 yy,.bool odd] (0,0) _ rfl (((((HR2.out.set 0 _).set 1 _).set 2 _).set 3 _).set 4 _) Tryz.underlying170 rfl Tryz.stepsInfo) rfl ?_;exact⟨⟨odd,xx,xy,yx,yy,rfl,HL.out.steps HH.out hxx hxy hyx hyy⟩,by rw[HR.out];exact((((HB2.out.setCell lZ _).setCell lZ _).setCell lZ _).setCell lZ _).setCell lZ _⟩
set_option maxHeartbeats 400000 in
theorem Qqr(odd:Bool)(xx xy yx yy:Nat)(w:World):
 Calls Tryz.prog 122 #[StepsVal odd xx xy yx yy] w fun e w'=>e=.returned (.bool (decide (xy=0)))/\Below w.heap.size w w':=by
 rw[show (decide (xy=0))=((xy:Int) == 0) by by_cases h:xy=0<;>simp[h]];unfold StepsVal;go_enter Tryz.func122,Tryz.ntmps122;go_wp2;go_ret;exact⟨rfl,bR.alloc lZ _⟩
theorem Qjf{w:World}{g cap n:Nat}{C l:List Nat}{x:Nat}(h:ON w g cap C l x)(hn:n<=l.length):∃t,x=val 18446744073709551616 (C.take n)+18446744073709551616 ^ n*t:=by
 refine⟨val 18446744073709551616 (l.drop n),?_⟩;have e:C.take n=l.take n:=by
  have:=congrArg (List.take n) h.fro;rw[List.take_take,Nat.min_eq_left hn] at this;exact this
 rw[e,<-Qaj _ _ _ hn];exact h.num.eq.symm
theorem ON.lt{w:World}{g cap:Nat}{C l:List Nat}{x:Nat}(h:ON w g cap C l x):x<18446744073709551616 ^ l.length:=by
 have:=Qab (B:=18446744073709551616) (by decide) h.num.small;rw[h.num.eq] at this;exact this
def Both(w:World)(gx gy X Y:Nat)(e:Ending):Prop:=∃ga gb ca cb Ca Cb la lb,e=.returned (.tuple #[.slice (some ⟨ga,0,none⟩) (List.length la) ca,.slice (some ⟨gb,0,none⟩) (List.length lb) cb])/\ON w ga ca Ca la X/\ON w gb cb Cb lb Y/\((ga=gx/\gb=gy)∨(ga=gy/\gb=gx))
set_option maxRecDepth 100000 in
set_option maxHeartbeats 1000000 in
theorem Qqs(odd:Bool)(xx xy yx yy:Nat)(gx gy cx cy:Nat)(Cx Cy l m:List Nat)(x y X Y:Nat)(w:World)(h1:ON w gx cx Cx l x)(h2:ON w gy cy Cy m y)(hne:gx≠gy)(hyx:y<=x)(hS:Steps x y odd xx xy yx yy)(hL:Lehm odd xx xy yx yy x y X Y)(hy:0<y)(B:Nat)(hBx:B<=gx)(hBy:B<=gy):
 Calls Tryz.prog 124 #[StepsVal odd xx xy yx yy,.slice (some ⟨gx,0,none⟩) l.length cx,.slice (some ⟨gy,0,none⟩) m.length cy] w fun e w'=>Both w' gx gy X Y e/\Below B w w':=by
 have hl:=hL.less hy;have hml:m.length<=l.length:=h2.num.length_le_of_lt (by decide) (Nat.lt_of_le_of_lt hyx h1.lt);have hm1:=h1.fit;have hm2:=h2.fit;have hc1:=h1.le;have hc2:=h2.le;have hs1:=h1.len;have hs2:=h2.len;have hbX:X<18446744073709551616 ^ m.length:=Nat.lt_of_le_of_lt hl.1 h2.lt;have hbY:Y<18446744073709551616 ^ m.length:=Nat.lt_of_le_of_lt (by have:=hL.le;omega) hbX;have tx:=Qjf h1 hml;have ty:=Qjf h2 lZ;have fx:=hL.fx;have fy:=hL.fy;have HT:=Hi (⟨hbX,hbY,tx,ty⟩:X<18446744073709551616 ^ m.length/\Y<18446744073709551616 ^ m.length/\_/\_);obtain⟨wa,hwa⟩:=nm (w.alloc (.cells #[Value.int .u64 xx,.int .u64 xy,.int .u64 yx,.int .u64 yy,.bool odd] 170));obtain⟨gs,hg⟩:=nm w.heap.size;have hbw:Below w.heap.size w wa:=by rw[<-hwa];exact(Below.refl _ _).alloc lZ _
 have hsb:SB wa gs 170 #[Value.int .u64 xx,.int .u64 xy,.int .u64 yx,.int .u64 yy,.bool odd]:=by rw[<-hwa,<-hg];exact SB.new _ _ _
 have p1:=h1.pre.below hbw h1.pre.lt;have p2:=h2.pre.below hbw h2.pre.lt;have HB:Hid (Below B w wa):=Hi (hbw.mono (by have:=h1.pre.lt;omega));have HWB:Hid (B<=wa.heap.size):=Hi (by have:=h1.pre.lt;have:=hbw.size;omega);have k0:=hsb.cell 0;have k1:=hsb.cell 1;have k2:=hsb.cell 2;have k3:=hsb.cell 3;have k4:=hsb.cell 4;simp at k0 k1 k2 k3 k4;have HW:=Hi hwa;have HG:=Hi hg;have HS1:=Hi hs1;have HS2:=Hi hs2;have HC1:=Hi hc1;have HC2:=Hi hc2;have HM1:=Hi hm1;have HM2:=Hi hm2;have hmcx:m.length<=cx:=by omega
 have hmcy:m.length<=cy:=by omega
 have HMX:=Hi hmcx;have HMY:=Hi hmcy;have im:(m.length:Int)<=(cx:Int):=by omega
 have im0:(0:Int)<=(m.length:Int):=by omega
 unfold StepsVal;cases odd
 ·
  simp only[Bool.false_eq_true,if_false] at fx fy;have HTK:=Hi (Qje gx gy m.length cx cy xx xy yy yx Cx Cy wa p1 p2 hne h1.small h2.small (by omega) (by omega) (by omega) (by omega) (by omega) hS.bxx hS.bxy hS.byy hS.byx);have HFX:=Hi fx;have HFY:=Hi fy;clear h1 h2 hS hL hl hbX hbY tx ty fx fy p1 p2 hbw hsb hwa hg hs1 hs2 hc1 hc2 hm1 hm2;go_enter Tryz.func124,Tryz.ntmps124;go_wp2_with fail;rw[HW.out,HG.out];go_wp2_with fail;go_fit HTK.out;rintro e w2 ⟨rfl,X2,Y2,hX2,hY2,lX,lY,sX,sY,oX,oY,h2w⟩;have HR1:=Hi (Qcr gx m.length cx X X2 w2 hX2 sX (by rw[lX];exact HS1.out) (by rw[lX];have:=HC1.out;omega) HMX.out (oX.end sX (by rw[lX];have:=HC1.out;omega) HT.out.2.2.1 HT.out.2.2.2 HFX.out HT.out.1));have HR2:=Hi (Qcr gy m.length cy Y Y2 w2 hY2 sY (by rw[lY];exact HS2.out) (by rw[lY];have:=HC2.out;omega) HMY.out (oY.end sY (by rw[lY];have:=HC2.out;omega) HT.out.2.2.2 HT.out.2.2.1 HFY.out HT.out.2.1))
  have HB2:=Hi (HB.out.trans (h2w.below hBx hBy HWB.out));clear hX2 hY2 lX lY sX sY oX oY h2w HTK k0 k1 k2 k3 k4;go_wp2_with fail;go_fit HR1.out;rintro e w3 ⟨⟨r1,rfl,ho1,_⟩,hw3⟩;subst hw3;have HO1:=Hi ho1;clear ho1;go_wp2_with fail;go_fit HR2.out;rintro e w3 ⟨⟨r2,rfl,ho2,_⟩,hw3⟩;subst hw3;have HO2:=Hi ho2;clear ho2;go_wp2;go_ret2;exact⟨⟨gx,gy,cx,cy,X2,Y2,r1,r2,rfl,HO1.out,HO2.out,.inl ⟨rfl,rfl⟩⟩,HB2.out⟩
 ·
  simp only[if_true] at fx fy;have HTK:=Hi (Qje gy gx m.length cy cx xy xx yx yy Cy Cx wa p2 p1 (fun h=>hne h.symm) h2.small h1.small (by omega) (by omega) (by omega) (by omega) (by omega) hS.bxy hS.bxx hS.byx hS.byy);have HFX:=Hi fx;have HFY:=Hi fy;clear h1 h2 hS hL hl hbX hbY tx ty fx fy p1 p2 hbw hsb hwa hg hs1 hs2 hc1 hc2 hm1 hm2;go_enter Tryz.func124,Tryz.ntmps124;go_wp2_with fail;rw[HW.out,HG.out];go_wp2_with fail;go_fit HTK.out;rintro e w2 ⟨rfl,X2,Y2,hX2,hY2,lX,lY,sX,sY,oX,oY,h2w⟩;have HR1:=Hi (Qcr gy m.length cy X X2 w2 hX2 sX (by rw[lX];exact HS2.out) (by rw[lX];have:=HC2.out;omega) HMY.out (oX.end sX (by rw[lX];have:=HC2.out;omega) HT.out.2.2.2 HT.out.2.2.1 HFX.out HT.out.1));have HR2:=Hi (Qcr gx m.length cx Y Y2 w2 hY2 sY (by rw[lY];exact HS1.out) (by rw[lY];have:=HC1.out;omega) HMX.out (oY.end sY (by rw[lY];have:=HC1.out;omega) HT.out.2.2.1 HT.out.2.2.2 HFY.out HT.out.2.1))
  have HB2:=Hi (HB.out.trans (h2w.below hBy hBx HWB.out));clear hX2 hY2 lX lY sX sY oX oY h2w HTK k0 k1 k2 k3 k4;go_wp2_with fail;go_fit HR1.out;rintro e w3 ⟨⟨r1,rfl,ho1,_⟩,hw3⟩;subst hw3;have HO1:=Hi ho1;clear ho1;go_wp2_with fail;go_fit HR2.out;rintro e w3 ⟨⟨r2,rfl,ho2,_⟩,hw3⟩;subst hw3;have HO2:=Hi ho2;clear ho2;go_wp2;go_ret2;exact⟨⟨gy,gx,cy,cx,X2,Y2,r1,r2,rfl,HO1.out,HO2.out,.inr ⟨rfl,rfl⟩⟩,HB2.out⟩
end Go.Proofs.YtfpcipgoedifaaaGreatDoor
