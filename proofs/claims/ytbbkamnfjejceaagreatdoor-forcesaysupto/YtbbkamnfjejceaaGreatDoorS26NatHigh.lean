/- num's highWords. -/
import Derived.Test.YtbbkamnfjejceaaGreatDoorS25NatLess2
namespace Go.Proofs.YtbbkamnfjejceaaGreatDoor
set_option linter.unusedVariables false
structure LInv (a0 b0 st:Nat) (odd:Bool) (xx xy yx yy nX nY a b pa:Nat):Prop where
 ra:if odd then yx*a0=yy*b0+a else yy*b0=yx*a0+a
 rb:if odd then nY*b0=nX*a0+b else nX*a0=nY*b0+b
 ab:b≤a
 d1:if odd then yx*nY=yy*nX+1 else yy*nX=yx*nY+1
 n1:nX≤nY
 n2:1≤nY
 s0:st=0→odd=true∧xy=0∧yx=1∧yy=0∧nX=0
 s1:1≤st→yx≤yy∧1≤yy∧yy≤a∧a+xy+yy≤pa∧1≤nX
 dd:1≤st→if odd then xy*yx=xx*yy+1 else xx*yy=xy*yx+1
 rp:1≤st→if odd then xy*b0=xx*a0+pa else xx*a0=xy*b0+pa
 s2:st=1→xy=0
 s3:2≤st→xx≤xy∧1≤xy∧1≤yx
theorem LInv.start(a0 b0:Nat)(h:b0≤a0):LInv a0 b0 0 true 0 0 1 0 0 1 a0 b0 0:=
 ⟨by simp,by simp,h,by simp,by omega,by omega,fun _=>⟨rfl,rfl,rfl,rfl,rfl⟩,fun h=>by omega,fun h=>by omega,fun h=>by omega,fun h=>by omega,fun h=>by omega⟩
theorem LInv.whole{a0 b0 st:Nat}{odd:Bool}{xx xy yx yy nX nY a b pa:Nat}(h:LInv a0 b0 st odd xx xy yx yy nX nY a b pa):a0=nY*a+yy*b∧b0=nX*a+yx*b:=by
 have h1:=h.ra;have h2:=h.rb;have h3:=h.d1;cases odd
 · simp only[Bool.false_eq_true,if_false] at h1 h2 h3
   constructor<;>grind
 · simp only[if_true] at h1 h2 h3
   constructor<;>grind
theorem LInv.next{a0 b0 st q r:Nat}{odd:Bool}{xx xy yx yy nX nY a b pa:Nat}(h:LInv a0 b0 st odd xx xy yx yy nX nY a b pa)(hb:nY≤b)(hab:b+yy+nY≤a)(hq:q*b+r=a)(hr:r<b)(hq1:1≤q):
 LInv a0 b0 (min (st+1) 2) (!odd) yx yy nX nY (yx+q*nX) (yy+q*nY) b r a:=by
 have h1:=h.ra;have h2:=h.rb;have h3:=h.d1;have hn1:=h.n1;have hn2:=h.n2;have hqn:q*nX≤q*nY:=Nat.mul_le_mul_left q hn1;have hqy:nY≤q*nY:=by have:=Nat.mul_le_mul_right nY hq1;omega
 have hqx:nX≤q*nX:=by have:=Nat.mul_le_mul_right nX hq1;omega
 have hst:st=0∨1≤st:=by omega
 have hnn:yx+q*nX≤yy+q*nY:=by
  rcases hst with h0|h0
  · obtain⟨_,_,e1,e2,e3⟩:=h.s0 h0
    rw[e1,e2,e3,Nat.mul_zero];omega
  · have:=(h.s1 h0).1;omega
 have hx1:1≤yx+q*nX:=by
  rcases hst with h0|h0
  · obtain⟨_,_,e1,e2,e3⟩:=h.s0 h0
    omega
  · have:=(h.s1 h0).2.2.2.2;omega
 refine⟨?_,?_,by omega,?_,hnn,by omega,fun h0=>by omega,fun _=>⟨hn1,hn2,hb,by omega,hx1⟩,fun _=>?_,fun _=>?_,fun h0=>?_,fun h0=>?_⟩
 ·
  cases odd
  · simp only[Bool.not_false,if_true,Bool.false_eq_true,if_false] at h2 ⊢;exact h2
  · simp only[Bool.not_true,Bool.false_eq_true,if_false,if_true] at h2 ⊢;exact h2
 ·
  cases odd
  · simp only[Bool.not_false,if_true,Bool.false_eq_true,if_false] at h1 h2 ⊢;grind
  · simp only[Bool.not_true,Bool.false_eq_true,if_false,if_true] at h1 h2 ⊢;grind
 ·
  cases odd
  · simp only[Bool.not_false,if_true,Bool.false_eq_true,if_false] at h3 ⊢;grind
  · simp only[Bool.not_true,Bool.false_eq_true,if_false,if_true] at h3 ⊢;grind
 ·
  cases odd
  · simp only[Bool.not_false,if_true,Bool.false_eq_true,if_false] at h3 ⊢;exact h3
  · simp only[Bool.not_true,Bool.false_eq_true,if_false,if_true] at h3 ⊢;exact h3
 ·
  cases odd
  · simp only[Bool.not_false,if_true,Bool.false_eq_true,if_false] at h1 ⊢;exact h1
  · simp only[Bool.not_true,Bool.false_eq_true,if_false,if_true] at h1 ⊢;exact h1
 ·
  rcases hst with h1|h1
  · exact(h.s0 h1).2.2.2.1
  · omega
 · have h1:1≤st:=by omega
   exact⟨(h.s1 h1).1,(h.s1 h1).2.1,(h.s1 h1).2.2.2.2⟩
structure Lehm (odd:Bool) (xx xy yx yy x y X Y:Nat):Prop where
 fx:if odd then xy*y=xx*x+X else xx*x=xy*y+X
 fy:if odd then yx*x=yy*y+Y else yy*y=yx*x+Y
 le:Y≤X
 bx:x=yy*X+xy*Y
 by':y=yx*X+xx*Y
 p1:1≤xy
 p2:1≤yx
 p3:1≤yy
theorem Qcu{u v z P:Nat}(hz:z<P)(huv:u≤v):u*z≤v*P:=Nat.mul_le_mul huv (Nat.le_of_lt hz)
theorem LInv.done{a0 b0 st:Nat}{odd:Bool}{xx xy yx yy nX nY a b pa P x' y' x y:Nat}(h:LInv a0 b0 st odd xx xy yx yy nX nY a b pa)(h2:2≤st)(hx:x=a0*P+x')(hy:y=b0*P+y')(hx':x'<P)(hy':y'<P):∃X Y,Lehm odd xx xy yx yy x y X Y:=by
 obtain⟨k1,k2,k3,k4,k5⟩:=h.s1 (by omega);obtain⟨j1,j2,j3⟩:=h.s3 h2;have ra:=h.ra;have rp:=h.rp (by omega);have dd:=h.dd (by omega);have m1:=Qcu hx' j1;have m2:=Qcu hy' (Nat.le_refl xy);have m3:=Qcu hx' k1;have m4:=Qcu hy' (Nat.le_refl yy);have m5:xy*P+yy*P+a*P≤pa*P:=by rw[←Nat.add_mul,←Nat.add_mul];exact Nat.mul_le_mul_right _ (by omega)
 have m6:yy*P≤a*P:=Nat.mul_le_mul_right _ k3;cases odd
 ·
  simp only[Bool.false_eq_true,if_false] at ra rp dd;have e1:xx*x=xy*(b0*P)+pa*P+xx*x':=by rw[hx];grind
  have e2:xy*y=xy*(b0*P)+xy*y':=by rw[hy];grind
  have e3:yy*y=yx*(a0*P)+a*P+yy*y':=by rw[hy];grind
  have e4:yx*x=yx*(a0*P)+yx*x':=by rw[hx];grind
  obtain⟨X,hX⟩:∃X,xx*x=xy*y+X:=⟨xx*x - xy*y,by omega⟩;obtain⟨Y,hY⟩:∃Y,yy*y=yx*x+Y:=⟨yy*y - yx*x,by omega⟩;refine⟨X,Y,by simpa using hX,by simpa using hY,by omega,?_,?_,j2,j3,k2⟩
  · grind
  · grind
 ·
  simp only[if_true] at ra rp dd;have e1:xy*y=xx*(a0*P)+pa*P+xy*y':=by rw[hy];grind
  have e2:xx*x=xx*(a0*P)+xx*x':=by rw[hx];grind
  have e3:yx*x=yy*(b0*P)+a*P+yx*x':=by rw[hx];grind
  have e4:yy*y=yy*(b0*P)+yy*y':=by rw[hy];grind
  obtain⟨X,hX⟩:∃X,xy*y=xx*x+X:=⟨xy*y - xx*x,by omega⟩;obtain⟨Y,hY⟩:∃Y,yx*x=yy*y+Y:=⟨yx*x - yy*y,by omega⟩;refine⟨X,Y,by simpa using hX,by simpa using hY,by omega,?_,?_,j2,j3,k2⟩
  · grind
  · grind
theorem Lehm.gcd{odd:Bool}{xx xy yx yy x y X Y:Nat}(h:Lehm odd xx xy yx yy x y X Y):Nat.gcd X Y=Nat.gcd x y:=by
 apply Nat.dvd_antisymm
 ·
  apply Nat.dvd_gcd
  · rw[h.bx]
    exact Nat.dvd_add (Nat.dvd_trans (Nat.gcd_dvd_left X Y) (Nat.dvd_mul_left X yy)) (Nat.dvd_trans (Nat.gcd_dvd_right X Y) (Nat.dvd_mul_left Y xy))
  · rw[h.by']
    exact Nat.dvd_add (Nat.dvd_trans (Nat.gcd_dvd_left X Y) (Nat.dvd_mul_left X yx)) (Nat.dvd_trans (Nat.gcd_dvd_right X Y) (Nat.dvd_mul_left Y xx))
 ·
  have g1:=Nat.gcd_dvd_left x y;have g2:=Nat.gcd_dvd_right x y;have f1:=h.fx;have f2:=h.fy;generalize Nat.gcd x y=g at*;have dx:∀u,g ∣ u*x:=fun u=>Nat.dvd_trans g1 (Nat.dvd_mul_left x u)
  have dy:∀u,g ∣ u*y:=fun u=>Nat.dvd_trans g2 (Nat.dvd_mul_left y u)
  apply Nat.dvd_gcd
  ·
   cases odd
   · simp only[Bool.false_eq_true,if_false] at f1
     exact(Nat.dvd_add_right (dy xy)).1 (f1 ▸ dx xx)
   · simp only[if_true] at f1
     exact(Nat.dvd_add_right (dx xx)).1 (f1 ▸ dy xy)
  ·
   cases odd
   · simp only[Bool.false_eq_true,if_false] at f2
     exact(Nat.dvd_add_right (dx yx)).1 (f2 ▸ dy yy)
   · simp only[if_true] at f2
     exact(Nat.dvd_add_right (dy yy)).1 (f2 ▸ dx yx)
theorem Lehm.less{odd:Bool}{xx xy yx yy x y X Y:Nat}(h:Lehm odd xx xy yx yy x y X Y)(hy:0<y):X≤y∧X+Y<x+y:=by
 have h1:=h.bx;have h2:=h.by';have h3:=Nat.mul_le_mul_right X h.p3;have h4:=Nat.mul_le_mul_right Y h.p1;have h5:=Nat.mul_le_mul_right X h.p2;have h6:=h.le;have h7:0<X:=by
  rcases Nat.eq_zero_or_pos X with h0|h0
  ·
   have:Y=0:=by omega
   rw[h0,this] at h2;simp at h2;omega
  · exact h0
 constructor<;>omega
open Go.RowKit
set_option linter.unusedSimpArgs false
theorem Qgq(d e s:Nat)(hs:s<64)(hd:d*2 ^ s<18446744073709551616)(he:e<18446744073709551616):∃lo hi new r:Nat,IntKind.u64.wrap ((d:Int)*2 ^ s)=(lo:Int)∧(e:Int) / 2 ^ (64 - s)=(hi:Int)∧bits .or .u64 (lo:Int) (hi:Int)=(new:Int)∧new<18446744073709551616∧r<2 ^ (64 - s)∧new*2 ^ (64 - s)+r=e+18446744073709551616*d:=by
 have h0:=Qbg (s:=s) (by omega);have h2:=Qdl (lo:=e) (s:=s) (by omega) he;have h3:=Nat.div_add_mod e (2 ^ (64 - s));have h4:2 ^ s*d+e / 2 ^ (64 - s)<18446744073709551616:=by
  have a1:d+1≤2 ^ (64 - s):=by
   apply Nat.lt_of_mul_lt_mul_left (a:=2 ^ s);rw[h0,Nat.mul_comm];exact hd
  have a2:=Nat.mul_le_mul_left (2 ^ s) a1;rw[h0,Nat.mul_add,Nat.mul_one] at a2;omega
 refine⟨d*2 ^ s,e / 2 ^ (64 - s),2 ^ s*d+e / 2 ^ (64 - s),e % 2 ^ (64 - s),?_,?_,?_,h4,Nat.mod_lt _ (Nat.two_pow_pos _),?_⟩
 · rw[show (d:Int)*2 ^ s=((d*2 ^ s:Nat):Int) by rw[Int.natCast_mul,Int.natCast_pow];rfl,Qbn _ hd]
 · rw[Int.natCast_ediv,Int.natCast_pow];rfl
 · exact or64 _ _ d (e / 2 ^ (64 - s)) s (by rw[Nat.mul_comm]) rfl h2 h4
 ·
  have e1:2 ^ s*d*2 ^ (64 - s)=18446744073709551616*d:=by rw[Nat.mul_right_comm,h0]
  rw[Nat.add_mul,e1,Nat.mul_comm (e / 2 ^ (64 - s))];omega
theorem Qgr{l:List Nat}{x N:Nat}(h:Num 18446744073709551616 l x)(hl:l.length≤N+2):∃low,low<18446744073709551616 ^ N∧x=low+18446744073709551616 ^ N*(l.getD N 0+18446744073709551616*l.getD (N+1) 0):=by
 refine⟨val 18446744073709551616 (l.take N),?_,?_⟩
 · have h1:=Qab (B:=18446744073709551616) (by decide) (h.small.take N)
   exact Nat.lt_of_lt_of_le h1 (Nat.pow_le_pow_right (by decide) (by rw[List.length_take];omega))
 ·
  have h1:=Qad 18446744073709551616 l (N+1);rw[List.take_of_length_le (by omega),h.eq,Qad,Nat.pow_succ] at h1;rw[h1,Nat.mul_add,Nat.mul_assoc];omega
structure Highs (x y a b P x' y':Nat):Prop where
 hx:x=a*P+x'
 hy:y=b*P+y'
 hx':x'<P
 hy':y'<P
 ab:b≤a
 ha:a<18446744073709551616
theorem Ql4{x y lx ly N s d1 d0 e1 e0 a b r t:Nat}(hle:y≤x)(hx:x=lx+18446744073709551616 ^ N*(d0+18446744073709551616*d1))(hy:y=ly+18446744073709551616 ^ N*(e0+18446744073709551616*e1))(hlx:lx<18446744073709551616 ^ N)(hly:ly<18446744073709551616 ^ N)
 (ha:a*2 ^ (64 - s)+r=d0+18446744073709551616*d1) (hb:b*2 ^ (64 - s)+t=e0+18446744073709551616*e1) (hr:r<2 ^ (64 - s)) (ht:t<2 ^ (64 - s)) (hab:a<18446744073709551616):∃P x' y',Highs x y a b P x' y':=by
 generalize 18446744073709551616 ^ N=M at*;generalize 2 ^ (64 - s)=p at*;have h1:M*(r+1)≤M*p:=Nat.mul_le_mul_left M hr;have h2:M*(t+1)≤M*p:=Nat.mul_le_mul_left M ht;rw[Nat.mul_add,Nat.mul_one] at h1 h2;have e1:x=a*(M*p)+(lx+M*r):=by rw[hx,←ha];grind
 have e2:y=b*(M*p)+(ly+M*t):=by rw[hy,←hb];grind
 refine⟨M*p,lx+M*r,ly+M*t,e1,e2,by omega,by omega,?_,hab⟩;apply Classical.byContradiction;intro hc;have h3:(a+1)*(M*p)≤b*(M*p):=Nat.mul_le_mul_right _ (by omega);rw[Nat.add_mul,Nat.one_mul] at h3;omega
set_option maxRecDepth 100000 in
set_option maxHeartbeats 1000000 in
theorem Ql5(N:Nat)(l m:List Nat)(x y:Nat)(g1:Num 18446744073709551616 l x)(g2:Num 18446744073709551616 m y)(hle:y≤x)(hl:l.length=N+2)(hs1:l.length≤1099511627776):
 ∃a b:Nat,(∃P x' y',Highs x y a b P x' y')∧∀(a1 a2:Option Addr) (c1 c2:Nat) (w:World),U64 w a1 c1 l x→U64 w a2 c2 m y→Calls Tryz.prog 218 #[.slice a1 l.length c1,.slice a2 m.length c2] w fun e w'=>e=.returned (.tuple #[.int .u64 (a:Int),.int .u64 (b:Int)])∧Below w.heap.size w w':=by
 have hml:m.length≤N+2:=by
  apply Classical.byContradiction;intro hc;have:=Qap (B:=18446744073709551616) (by decide) g1.small g2.trim (by omega);rw[g1.eq,g2.eq] at this;omega
 have hs2:m.length≤1099511627776:=by omega
 obtain⟨lx,hlx,hx⟩:=Qgr g1 (N:=N) (by omega);obtain⟨ly,hly,hy⟩:=Qgr g2 (N:=N) hml;obtain⟨d1,hd1⟩:∃d,l.getD (N+1) 0=d:=⟨_,rfl⟩;obtain⟨d0,hd0⟩:∃d,l.getD N 0=d:=⟨_,rfl⟩;obtain⟨f1,hf1⟩:∃d,m.getD (N+1) 0=d:=⟨_,rfl⟩;obtain⟨f0,hf0⟩:∃d,m.getD N 0=d:=⟨_,rfl⟩;have hd1b:d1<18446744073709551616:=by rw[←hd1];exact g1.small.getD (by omega) _
 have hd0b:d0<18446744073709551616:=by rw[←hd0];exact g1.small.getD (by omega) _
 have hf0b:f0<18446744073709551616:=by rw[←hf0];exact g2.small.getD (by omega) _
 have hd1p:0<d1:=by
  obtain⟨_,t,ht,_,_,h,_⟩:=Qgn g1 (N:=N+1) (by omega);rw[←hd1,ht];exact h
 rw[hd1,hd0] at hx;rw[hf1,hf0] at hy;have hfd:f1≤d1:=by
  apply Classical.byContradiction;intro hc;have k1:18446744073709551616 ^ N*(d0+18446744073709551616*d1+1)≤18446744073709551616 ^ N*(f0+18446744073709551616*f1):=Nat.mul_le_mul_left _ (by omega);rw[Nat.mul_add _ _ 1,Nat.mul_one] at k1;omega
 obtain⟨s,hs64,hs,hst1,hst2⟩:=Qdj d1 hd1p hd1b;have HLEAD:=Hi (fun w=>Qdi (d1:Int) w (by omega) (by omega));rw[hs] at HLEAD;obtain⟨lo,hi,a,r,u1,u2,u3,hab,hr,har⟩:=Qgq d1 d0 s hs64 hst2 hd0b;obtain⟨lo',hi',b,t,v1,v2,v3,hbb,ht,hbt⟩:=Qgq f1 f0 s hs64 (Nat.lt_of_le_of_lt (Nat.mul_le_mul_right _ hfd) hst2) hf0b;refine⟨a,b,Ql4 hle hx hy hlx hly har hbt hr ht hab,?_⟩;intro a1 a2 c1 c2 w h1 h2;obtain⟨b1,o1,rfl,hb1,hc1⟩:=h1.row.cell (N+1) (by omega);obtain⟨b2,o2,e2,hb2,hc2⟩:=h1.row.cell N (by omega);obtain⟨rfl,rfl⟩:b1=b2∧o1=o2:=by simp at e2;exact e2
 clear e2;have HW1:=Qbk a2 c2 m (N+1);have HW0:=Qbk a2 c2 m N;rw[hf1] at HW1;rw[hf0] at HW0;rw[hd1] at hc1;rw[hd0] at hc2;have H2:=Hi h2;have HW1:=Hi HW1;have HW0:=Hi HW0;obtain⟨L,hL⟩:∃L,l.length=L:=⟨_,rfl⟩;obtain⟨p,hp⟩:∃p,N+1=p:=⟨_,rfl⟩;rw[hL];rw[hp] at hc1 HW1;have w1:IntKind.i64.wrap ((L:Int) - 1)=(p:Int):=by rw[wrap_i64 _ (by omega) (by omega)];omega
 have w2:IntKind.i64.wrap ((L:Int) - 2)=(N:Int):=by rw[wrap_i64 _ (by omega) (by omega)];omega
 have w3:IntKind.i64.wrap (64 - (s:Int))=((64 - s:Nat):Int):=by rw[wrap_i64 _ (by omega) (by omega)];omega
 have i1:(p:Int)<(L:Int):=by omega
 have i2:(N:Int)<(L:Int):=by omega
 have hpN:p≤2199023255552:=by omega
 have hNN:N≤2199023255552:=by omega
 clear h1 h2 g1 g2 hx hy hlx hly har hbt hr ht hst1 hst2 hd1 hd0 hf1 hf0 hs hle hl hml hp;go_enter Tryz.func218,Tryz.ntmps218;go_wp2_with fail;go_fit (HLEAD.out _);rintro e w2 ⟨rfl,hw⟩;subst hw;clear HLEAD;go_wp2_with fail;go_region
 all_goals
  go_wp2_with fail;go_region_held3 (fun _=>True) (trivial) (first
   |(
    go_at_call 201
    first
     |go_fit (HW1.out _ (H2.out.row) hs2 hpN)
     |go_fit (HW1.out _ (H2.out.drew.row) hs2 hpN)
     |go_fit (HW1.out _ (H2.out.drew.drew.row) hs2 hpN)
     |go_fit (HW0.out _ (H2.out.row) hs2 hNN)
     |go_fit (HW0.out _ (H2.out.drew.row) hs2 hNN)
     |go_fit (HW0.out _ (H2.out.drew.drew.row) hs2 hNN)
    rintro e w6 ⟨rfl,hw⟩
    subst hw))
  all_goals
   go_wp2;go_ret2;exact⟨rfl,(Below.refl _ _).drew.drew⟩
end Go.Proofs.YtbbkamnfjejceaaGreatDoor
