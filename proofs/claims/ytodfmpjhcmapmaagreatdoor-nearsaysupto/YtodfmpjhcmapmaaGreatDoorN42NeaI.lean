/- The nearest float to a root, by the root's first bits (no program in it). -/
import Derived.Test.YtodfmpjhcmapmaaGreatDoorN41NeaG
namespace Go.Proofs.YtodfmpjhcmapmaaGreatDoor
open Go.RowKit
set_option linter.unusedVariables false
set_option linter.unusedSimpArgs false
theorem Qet{k L m:Nat}(hm:m*2 ^ L=k*4503599627370496)(m1:4503599627370496≤m)(m2:m<9007199254740992)(hk:k≤9007199254740992)(hL:L≤53):(4503599627370496≤k→(L=52∧m=k)∨(L=53∧m=4503599627370496∧k=9007199254740992))∧(k<4503599627370496→L<52):=by
 constructor
 ·
  intro h;have hL2:52≤L:=by
   apply Classical.byContradiction;intro hc;have h1:2 ^ L≤2 ^ 51:=Nat.pow_le_pow_right (by decide) (by omega);have h2:=Nat.mul_le_mul (Nat.le_of_lt m2) h1;have h3:=Nat.mul_le_mul_right (2 ^ L) (show m+1≤9007199254740992 by omega);have h4:9007199254740992*2 ^ L≤9007199254740992*2 ^ 51:=Nat.mul_le_mul_left _ h1;have h5:=Nat.mul_le_mul_right 4503599627370496 h;have h6:=Nat.two_pow_pos L;rw[Nat.add_mul,hm] at h3;have e:(9007199254740992*2 ^ 51:Nat)=4503599627370496*4503599627370496:=by decide
   omega
  obtain rfl|rfl:L=52∨L=53:=by omega
  ·
   left;have e:(2 ^ 52:Nat)=4503599627370496:=by decide
   rw[e] at hm;exact⟨rfl,Nat.eq_of_mul_eq_mul_right (by decide) hm⟩
  ·
   right;have e:(2 ^ 53:Nat)=9007199254740992:=by decide
   rw[e] at hm;omega
 ·
  intro h;apply Classical.byContradiction;intro hc;have h1:2 ^ 52≤2 ^ L:=Nat.pow_le_pow_right (by decide) (by omega);have h2:=Nat.mul_le_mul m1 h1;have h3:=Nat.mul_lt_mul_of_pos_right h (show 0<4503599627370496 by decide);have e:(2 ^ 52:Nat)=4503599627370496:=by decide
  omega
theorem Qnm{L m x:Nat}(hx:(L+1022)*4503599627370496+m=x)(m1:4503599627370496≤m)(m2:m<9007199254740992)(hL:L≤53):(x:Int) / 4503599627370496=((L+1023:Nat):Int)∧x % 4503599627370496=m - 4503599627370496∧4503599627370496≤x∧x<9218868437227405312:=by omega
theorem Qnn{k L m:Nat}{e:Int}(hm:m*2 ^ L=k*4503599627370496)(m1:4503599627370496≤m)(m2:m<9007199254740992)(hk:k≤9007199254740992)(hL:L≤53)(hek:e= -1074∨4503599627370496≤k)(h:1023<e+(L:Int)):min ((e+1074).toNat*4503599627370496+k) 9218868437227405312=9218868437227405312:=by
 obtain⟨d1,_⟩:=Qet hm m1 m2 hk hL;clear hm;apply Nat.min_eq_right;rcases hek with h1|h1
 · omega
 ·
  rcases d1 h1 with ⟨rfl,rfl⟩|⟨rfl,rfl,rfl⟩
  ·
   have:(972:Int)≤e:=by omega
   have:2046≤(e+1074).toNat:=by omega
   have:=Nat.mul_le_mul_right 4503599627370496 this;omega
  ·
   have:(971:Int)≤e:=by omega
   have:2045≤(e+1074).toNat:=by omega
   have:=Nat.mul_le_mul_right 4503599627370496 this;omega
theorem Qno{k L m E:Nat}{e:Int}(hm:m*2 ^ L=k*4503599627370496)(m1:4503599627370496≤m)(m2:m<9007199254740992)(hk:k≤9007199254740992)(hL:L≤53)(he: -1074≤e)(hek:e= -1074∨4503599627370496≤k)(h1:e+(L:Int)≤1023)(h2: -1022≤e+(L:Int))(hE:e+(L:Int)+1023=(E:Int)):∃F,E=F+1∧F≤2045∧F*4503599627370496+m=(e+1074).toNat*4503599627370496+k:=by
 obtain⟨d1,d2⟩:=Qet hm m1 m2 hk hL;clear hm;rcases Nat.lt_or_ge k 4503599627370496 with h3|h3
 · have:=d2 h3
   omega
 ·
  rcases d1 h3 with ⟨rfl,rfl⟩|⟨rfl,rfl,rfl⟩
  ·
   obtain⟨u,hu⟩:∃u:Nat,e+1074=(u:Int):=⟨(e+1074).toNat,by omega⟩;refine⟨u,by omega,by omega,?_⟩;rw[hu,Int.toNat_natCast]
  ·
   obtain⟨u,hu⟩:∃u:Nat,e+1074=(u:Int):=⟨(e+1074).toNat,by omega⟩;refine⟨u+1,by omega,by omega,?_⟩;rw[hu,Int.toNat_natCast];omega
theorem Qnp{k L m E:Nat}{e:Int}(hm:m*2 ^ L=k*4503599627370496)(m1:4503599627370496≤m)(m2:m<9007199254740992)(hk:k≤9007199254740992)(hL:L≤53)(he: -1074≤e)(hek:e= -1074∨4503599627370496≤k)(h2:e+(L:Int)< -1022)(hE:e+(L:Int)+53+1023=(E:Int)):e= -1074∧k<4503599627370496∧L<52∧E=L+2:=by
 obtain⟨d1,d2⟩:=Qet hm m1 m2 hk hL;clear hm;rcases Nat.lt_or_ge k 4503599627370496 with h3|h3
 · have:=d2 h3
   omega
 · rcases d1 h3 with ⟨rfl,rfl⟩|⟨rfl,rfl,rfl⟩<;>omega
set_option maxRecDepth 100000 in
set_option maxHeartbeats 1000000 in
theorem Qnq{k L m x:Nat}{e:Int}(w:World)(hx:(L+1022)*4503599627370496+m=x)(hm:m*2 ^ L=k*4503599627370496)(m1:4503599627370496≤m)(m2:m<9007199254740992)(h0:0<k)(hk:k≤9007199254740992)(hL:L≤53)(he: -1074≤e)(he2:e≤1000000000000)(hek:e= -1074∨4503599627370496≤k):
 Calls Tryz.prog 85 #[.float .f64 x,.int .i64 e] w fun en w'=>en=.returned (.float .f64 (min ((e+1074).toNat*4503599627370496+k) 9218868437227405312))∧w'=w:=by
 obtain⟨R,hR⟩:∃R,min ((e+1074).toNat*4503599627370496+k) 9218868437227405312=R:=⟨_,rfl⟩;rw[hR];obtain⟨p1,p2,p3,p4⟩:=Qnm hx m1 m2 hL;have HZ:=Hi (o_eq (a:=x) (b:=0) (Nat.le_of_lt p4) (by decide));rw[decide_eq_false (Nat.ne_of_gt (Nat.lt_of_lt_of_le (by decide) p3))] at HZ;have HLT:=Hi (o_lt (a:=x) (b:=0) (Nat.le_of_lt p4) (by decide));rw[decide_eq_false (Nat.not_lt_zero _)] at HLT;have HI:=Hi (Qhk x w p4);have HN:=Hi (Qb5 x w (Nat.le_of_lt p4));have HNO:=Hi (Qhm x w p3 (Nat.le_of_lt p4));obtain⟨f,hf⟩:∃f,m - 4503599627370496=f:=⟨_,rfl⟩;have HS3:Hid (bits .andNot .u64 (x:Int) 9218868437227405312=(f:Int)):=Hi ((Nea.and_not_mask (x:=x) (Nat.lt_trans p4 (by decide))).trans (congrArg (fun n:Nat=>(n:Int)) (p2.trans hf)));have HS1:=Hi p1;have HMF:Hid (m=f+4503599627370496∧f<4503599627370496):=Hi (by omega);have HALL:=Hi (And.intro m1 (And.intro m2 (And.intro h0 (And.intro hk (And.intro he hek)))))
 have HM:=Hi hm;have HR:=Hi hR;clear hx hm m1 m2 h0 hk hek hR hf p1 p2 p3 p4;obtain⟨B,hB⟩:∃B,L+1023=B:=⟨_,rfl⟩;rw[hB] at HS1;have s2:=Nea.and_exp (L:=B) (by omega);have s7:wrap64 (B:Int)=(B:Int):=by unfold wrap64;omega
 obtain⟨g,hg⟩:∃g,e+(L:Int)=g:=⟨_,rfl⟩;have s4:wrap64 e=e:=by unfold wrap64;omega
 have s5:wrap64 ((B:Int) - 1023)=(L:Int):=by unfold wrap64;omega
 have s6:wrap64 (e+(L:Int))=g:=by unfold wrap64;omega
 have b1: -1074≤g∧g≤1000000000053:=by omega
 have HG:=Hi (And.intro hg hL);have HB:=Hi b1;clear hB hg he he2 hL b1;have hb:=Qa9 x;have s1:=HS1.out;have s3:=HS3.out;have z1:=HZ.out;go_enter Tryz.func85,Tryz.ntmps85;go_wp2_with fail;refine HI.out.mono ?_;rintro e1 w1 ⟨rfl,rfl⟩;go_wp2_with fail;refine HN.out.mono ?_;rintro e1 w2 ⟨rfl,rfl⟩;go_wp2_with fail;refine HNO.out.mono ?_;rintro e1 w3 ⟨rfl,rfl⟩;clear HI HN HNO z1;by_cases c1:1023<g
 ·
  have q1:decide (g< -1075)=false:=by simp;omega
  have q2:decide (1023<g)=true:=by simpa using c1
  have HINF:=Hi (m_inf w3);have q3:=HLT.out;have HRI:Hid (R=9218868437227405312):=Hi (by
   obtain⟨m1,m2,h0,hk,he,hek⟩:=HALL.out;rw[←HR.out]
   exact Qnn HM.out m1 m2 hk HG.out.2 hek (by rw[HG.out.1];exact c1))
  clear c1;go_wp2_with fail;refine HINF.out.mono ?_;rintro e1 w4 ⟨rfl,rfl⟩;go_wp2;go_ret;exact⟨by rw[HRI.out];rfl,rfl⟩
 ·
  have q1:decide (g< -1075)=false:=by have:=HB.out;simp;omega
  have q2:decide (1023<g)=false:=by simpa using c1
  by_cases c2:g< -1022
  ·
   have q3:decide (g< -1022)=true:=by simpa using c2
   obtain⟨E,hE⟩:∃E:Nat,g+53+1023=(E:Int):=⟨(g+53+1023).toNat,by have:=HB.out;omega⟩;have q4:wrap64 (g+53)=g+53:=by have:=HB.out;unfold wrap64;omega
   have q5:wrap64 (g+53+1023)=(E:Int):=by unfold wrap64;omega
   have hE2:E<2048:=by omega
   obtain⟨l1,l2,l3,l4⟩:=Qnp HM.out HALL.out.1 HALL.out.2.1 HALL.out.2.2.2.1 HG.out.2 HALL.out.2.2.2.2.1 HALL.out.2.2.2.2.2 (by rw[HG.out.1];exact c2) (by rw[HG.out.1];exact hE);obtain⟨y,hy⟩:∃y,E*4503599627370496+f=y:=⟨_,rfl⟩;have q6:bits .or .u64 (f:Int) ((E:Int)*4503599627370496)=(y:Int):=by
    have:=Nea.or_exp (f:=f) (e:=E) HMF.out.2 hE2;rw[hy,Int.natCast_mul] at this;exact this
   have q7:=Qba y;have q8:FloatKind.f64.format.mul 4368491638549381120 y=some R:=by
    have h1:=Nea.mul_low (k:=k) (L:=L) (m:=m) HALL.out.2.2.1 l2 HM.out HALL.out.1 HALL.out.2.1 l3;rw[show y=(L+1)*4503599627370496+m by have:=HMF.out;omega,←HR.out,l1];refine Eq.trans h1 (congrArg some ?_);rw[show (-1074+1074:Int).toNat=0 by decide,Nat.zero_mul,Nat.zero_add,Nat.min_eq_left (Nat.le_trans (Nat.le_of_lt l2) (by decide))]
   have q9:∀w,(binOp .mul 41 (.float .f64 4368491638549381120) (.float .f64 y)).run Tryz.prog w=.ok (.float .f64 R) w:=fun w=>run_float_arith w .mul _ .f64 _ _ R q8
   clear c1 c2 l1 l2 l3 l4 hy hE q8;go_wp2;go_ret;exact⟨rfl,rfl⟩
  ·
   have q3:decide (g< -1022)=false:=by simpa using c2
   obtain⟨E,hE⟩:∃E:Nat,g+1023=(E:Int):=⟨(g+1023).toNat,by omega⟩;have q4:wrap64 (g+1023)=(E:Int):=by unfold wrap64;omega
   have hE2:E<2048:=by omega
   obtain⟨Fv,f1,f2,f3⟩:=Qno HM.out HALL.out.1 HALL.out.2.1 HALL.out.2.2.2.1 HG.out.2 HALL.out.2.2.2.2.1 HALL.out.2.2.2.2.2 (by rw[HG.out.1];omega) (by rw[HG.out.1];omega) (by rw[HG.out.1];exact hE);obtain⟨y,hy⟩:∃y,E*4503599627370496+f=y:=⟨_,rfl⟩;have q6:bits .or .u64 (f:Int) ((E:Int)*4503599627370496)=(y:Int):=by
    have:=Nea.or_exp (f:=f) (e:=E) HMF.out.2 hE2;rw[hy,Int.natCast_mul] at this;exact this
   have q7:=Qba y;have q8:FloatKind.f64.format.mul 4607182418800017408 y=some R:=by
    have hlt:Fv*4503599627370496+m<9218868437227405312:=by have:=HALL.out.2.1;omega
    have h1:=Nea.mul_one' (F:=Fv) (M:=m) ⟨Or.inr HALL.out.1,Nat.le_of_lt HALL.out.2.1⟩ (Nat.lt_of_lt_of_le (by decide) HALL.out.1) HALL.out.2.1 hlt;rw[show y=Fv*4503599627370496+m by have:=HMF.out;omega,←HR.out,←f3];refine Eq.trans h1 (congrArg some ?_);rw[Nat.min_eq_left (Nat.le_of_lt hlt)]
   have q9:∀w,(binOp .mul 41 (.float .f64 4607182418800017408) (.float .f64 y)).run Tryz.prog w=.ok (.float .f64 R) w:=fun w=>run_float_arith w .mul _ .f64 _ _ R q8
   clear c1 c2 f1 f2 f3 hy hE q8;go_wp2;go_ret;exact⟨rfl,rfl⟩
set_option maxRecDepth 100000 in
set_option maxHeartbeats 400000 in
theorem Qnr{k:Nat}{e:Int}(w:World)(h0:0<k)(hk:k≤9007199254740992)(he: -1074≤e)(he2:e≤1000000000000)(hek:e= -1074∨4503599627370496≤k):
 Calls Tryz.prog 43 #[.float .f64 (FloatKind.f64.nearest k),.int .i64 e] w fun en w'=>en=.returned (.float .f64 (min ((e+1074).toNat*4503599627370496+k) 9218868437227405312))∧w'=w:=by
 obtain⟨L,m,h1,m1,m2,hm,hL⟩:=Nea.whole_form h0 hk;have e1:FloatKind.f64.nearest (k:Int)=(L+1022)*4503599627370496+m:=by
  rw[←h1];unfold FloatKind.nearest FloatKind.encode;rw[decide_eq_false (show ¬((k:Int)<0) by omega),Int.natAbs_natCast];rfl
 rw[e1];have HL:=Hi (Qnq (k:=k) (L:=L) (m:=m) (x:=(L+1022)*4503599627370496+m) (e:=e) w rfl hm m1 m2 h0 hk hL he he2 hek);obtain⟨x,hx⟩:∃x,(L+1022)*4503599627370496+m=x:=⟨_,rfl⟩;obtain⟨R,hR⟩:∃R,min ((e+1074).toNat*4503599627370496+k) 9218868437227405312=R:=⟨_,rfl⟩;rw[hx,hR] at HL;rw[hx,hR];clear hx hR;clear h0 hk he he2 hek h1 m1 m2 hm hL e1;go_enter Tryz.func43,Tryz.ntmps43;go_wp2_with fail;refine HL.out.mono ?_;rintro e1 w1 ⟨rfl,rfl⟩;go_wp2;go_ret;exact⟨rfl,rfl⟩
end Go.Proofs.YtodfmpjhcmapmaaGreatDoor
namespace Go.Proofs.YtodfmpjhcmapmaaGreatDoor
set_option linter.unusedVariables false
theorem P_add(m n:Nat):((4 ^ (m+n):Nat):Rat)=((4 ^ m:Nat):Rat)*((4 ^ n:Nat):Rat):=by rw[Nat.pow_add,Rat.natCast_mul]
theorem P_ne(n:Nat):((4 ^ n:Nat):Rat)≠0:=fun e=>by
 have:(0:Rat)<((4 ^ n:Nat):Rat):=Rat.natCast_lt_natCast.2 (Nat.pow_pos (by decide));rw[e] at this;exact absurd this (by decide)
theorem P_two(n:Nat):2 ^ n*2 ^ n=4 ^ n:=by rw[←Nat.mul_pow]
def Odd1(W W':Nat)(more:Bool):Prop:=(more=false∧W'=W)∨(more=true∧W' % 2=1∧(W'=W∨W'=W+1))
theorem Odd1.bits{q:Rat}{W W':Nat}{hf:Int}{more:Bool}(H:RootOf q W hf more)(h:Odd1 W W' more):W≤W'∧W'<18446744073709551616∧63≤nb W'∧nb W'≤64:=by
 have h1:=H.low;have h2:=H.top;have h3:W≤W'∧W'<18446744073709551616:=by
  rcases h with ⟨_,h⟩|⟨_,h,h'|h'⟩<;>omega
 refine⟨h3.1,h3.2,?_,nb_le (by simpa using h3.2)⟩;apply Classical.byContradiction;intro hc;have h4:=Qfy (n:=W') (k:=62) (by omega);have e:(2 ^ 62:Nat)=4611686018427387904:=by decide
 omega
theorem scale{q Y:Rat}{a b d E N:Nat}(h:Y*((4 ^ a:Nat):Rat)=q*((4 ^ b:Nat):Rat))(hE:E+b=d+N+a):q*((4 ^ N:Nat):Rat)*((4 ^ d:Nat):Rat)=Y*((4 ^ E:Nat):Rat):=by
 have h1:q*((4 ^ N:Nat):Rat)*((4 ^ d:Nat):Rat)*((4 ^ a:Nat):Rat)=Y*((4 ^ E:Nat):Rat)*((4 ^ a:Nat):Rat):=by
  have e1:q*((4 ^ N:Nat):Rat)*((4 ^ d:Nat):Rat)*((4 ^ a:Nat):Rat)=q*((4 ^ (d+N+a):Nat):Rat):=by
   rw[P_add,P_add];grind
  have e2:Y*((4 ^ E:Nat):Rat)*((4 ^ a:Nat):Rat)=q*((4 ^ (E+b):Nat):Rat):=by
   rw[P_add];have:Y*((4 ^ E:Nat):Rat)*((4 ^ a:Nat):Rat)=(Y*((4 ^ a:Nat):Rat))*((4 ^ E:Nat):Rat):=by grind
   rw[this,h];grind
  rw[e1,e2,hE]
 have h2:=congrArg (· / ((4 ^ a:Nat):Rat)) h1;rw[Rat.mul_div_cancel (P_ne a),Rat.mul_div_cancel (P_ne a)] at h2;exact h2
theorem Qns{q:Rat}{W W' c K dr E N:Nat}{hf:Int}{more:Bool}(H:RootOf q W hf more)(hO:Odd1 W W' more)(hN:N=1074)(hdr:(dr:Int)=max ((nb W':Int) - 53) (-1074+hf))(hle:dr≤nb W')(hE:(E:Int)=dr - hf+1074)(hc:c=W' / 2 ^ dr)
 (hK:K=if 2 ^ (dr - 1)<W' % 2 ^ dr∨(W' % 2 ^ dr=2 ^ (dr - 1)∧c % 2=1) then c+1 else c):Nea.Near (q*((4 ^ N:Nat):Rat)) (min (E*4503599627370496+K) 9218868437227405312)∧K≤9007199254740992∧(E=0∨4503599627370496≤K):=by
 obtain⟨hW1,hW2,hL1,hL2⟩:=hO.bits H;have hd0:10≤dr:=by omega
 have h2h:2*2 ^ (dr - 1)=2 ^ dr:=by rw[Nat.mul_comm,←Nat.pow_succ];congr 1;omega
 have hcK:c≤K∧K≤c+1:=by rw[hK];split<;>omega
 have hc1:c<9007199254740992:=by
  rw[hc,Nat.div_lt_iff_lt_mul (Nat.two_pow_pos _)];have h1:=Qao W';have h2:2 ^ nb W'≤2 ^ (53+dr):=Nat.pow_le_pow_right (by decide) (by omega);rw[Nat.pow_add] at h2;have e:(2 ^ 53:Nat)=9007199254740992:=by decide
  rw[e] at h2;omega
 have hc2:E=0∨4503599627370496≤c:=by
  rcases Nat.eq_zero_or_pos E with h|h
  · exact Or.inl h
  ·
   right;have hd:dr+53=nb W':=by omega
   have h1:=Qbz (n:=W') (k:=nb W' - 1) (by omega);rw[show nb W' - 1=52+dr by omega,Nat.pow_add] at h1;have e:(2 ^ 52:Nat)=4503599627370496:=by decide
   rw[e] at h1;rw[hc];exact(Nat.le_div_iff_mul_le (Nat.two_pow_pos _)).2 h1
 obtain⟨Y,y1,y2,y3,y4⟩:=H.ex;have hR:Nea.Rounds Y W W' c K (2 ^ (dr - 1)):=by
  refine⟨y2,y3,?_,Nat.two_pow_pos _,?_,by rw[h2h];exact hc,by rw[h2h];exact hK⟩
  ·
   rcases hO with ⟨h1,h2⟩|⟨h1,h2,h3⟩
   · exact Or.inl ⟨y4.1 h1,h2⟩
   · exact Or.inr ⟨(fun e=>by have:=y4.2 e;rw[h1] at this;cases this),h2,h3⟩
  · rw[show dr - 1=(dr - 2)+1 by omega,Nat.pow_succ,Nat.mul_mod_left]
 have hX:4*(q*((4 ^ N:Nat):Rat))*((2 ^ (dr - 1)*2 ^ (dr - 1):Nat):Rat)=Y*((2 ^ E*2 ^ E:Nat):Rat):=by
  rw[P_two,P_two];have hs:=scale (d:=dr) (E:=E) (N:=N) y1 (by omega);rw[←hs,show dr=1+(dr - 1) by omega,P_add 1 (dr - 1),show 1+(dr - 1) - 1=dr - 1 by omega];have e4:((4 ^ 1:Nat):Rat)=4:=rfl;rw[e4];grind
 exact⟨hR.near hX ⟨by omega,by omega⟩ hc2,by omega,by omega⟩
end Go.Proofs.YtodfmpjhcmapmaaGreatDoor
