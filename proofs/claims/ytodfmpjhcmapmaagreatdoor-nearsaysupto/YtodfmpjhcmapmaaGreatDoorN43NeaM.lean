/- package num: Squared. -/
import Derived.Test.YtodfmpjhcmapmaaGreatDoorN42NeaI
namespace Go.Proofs.YtodfmpjhcmapmaaGreatDoor
open Go.RowKit
set_option linter.unusedVariables false
set_option linter.unusedSimpArgs false
theorem Qnt{q:Rat}{W W' N:Nat}{hf:Int}{more:Bool}(H:RootOf q W hf more)(hO:Odd1 W W' more)(hN:N=1074)(h:(nb W':Int)< -1074+hf):Nea.Near (q*((4 ^ N:Nat):Rat)) 0:=by
 refine⟨fun h0=>absurd h0 (by decide),fun _=>Or.inl ?_⟩;obtain⟨hW1,hW2,hL1,hL2⟩:=hO.bits H;obtain⟨Y,y1,y2,y3,y4⟩:=H.ex;obtain⟨d,hd⟩:∃d:Nat,-1074+hf=(d:Int)+1:=⟨(-1075+hf).toNat,by omega⟩;have hs:=scale (d:=d+1) (E:=0) (N:=N) y1 (by omega);have o1:((1:Nat):Rat)=1:=rfl;rw[Nat.pow_zero,o1,Rat.mul_one] at hs;have hY:Y<((4 ^ d:Nat):Rat):=by
  have h1:=Qao W';have h2:(W+1)*(W+1)≤2 ^ nb W'*2 ^ nb W':=Nat.mul_le_mul (by omega) (by omega);rw[P_two] at h2;have h3:4 ^ nb W'≤4 ^ d:=Nat.pow_le_pow_right (by decide) (by omega);exact Nea.ltle y3 (Rat.natCast_le_natCast.2 (Nat.le_trans h2 h3))
 have e1:(((Nea.U 0+Nea.U (0+1))*(Nea.U 0+Nea.U (0+1)):Nat):Rat)=1:=by
  have u0:Nea.U 0=0:=by unfold Nea.U;rw[if_pos (by decide)]
  have u1:Nea.U (0+1)=1:=by unfold Nea.U;rw[if_pos (by decide)]
  rw[u0,u1];rfl
 rw[e1];have hp:(0:Rat)<((4 ^ d:Nat):Rat):=Rat.natCast_lt_natCast.2 (Nat.pow_pos (by decide));apply Rat.not_le.1;intro hc;have h5:=Rat.mul_le_mul_of_nonneg_right hc (Rat.le_of_lt hp);rw[Rat.one_mul] at h5;have e2:4*(q*((4 ^ N:Nat):Rat))*((4 ^ d:Nat):Rat)=Y:=by
  rw[←hs,P_add];have e4:((4 ^ 1:Nat):Rat)=4:=rfl;rw[e4];grind
 rw[e2] at h5;exact absurd hY (Rat.not_lt.2 h5)
theorem len64(x:Int)(w:World)(h0:0≤x)(h1:x≤18446744073709551615):Calls Tryz.prog 114 #[.int .u64 x] w fun e w'=>e=.returned (.int .i64 (Lib.bitLen x.toNat:Int))∧w'=w:=Any.bits_Len64 { Tryz.lays134 with } x w h0 h1
theorem Qeu(n:Int):IntKind.u64.wrap n=n % 18446744073709551616:=by simp[IntKind.wrap,IntKind.bits,IntKind.signed]
theorem Qnu{d1 dr:Nat}(hd:dr=d1+1)(h:dr≤64):IntKind.u64.wrap (IntKind.u64.wrap (((2 ^ d1:Nat):Int)*2) - 1)=((2 ^ dr - 1:Nat):Int):=by
 have e:2 ^ dr=2*2 ^ d1:=by rw[hd,Nat.pow_succ,Nat.mul_comm]
 have hp:=Nat.two_pow_pos d1;have hle:2 ^ dr≤2 ^ 64:=Nat.pow_le_pow_right (by decide) h;have e64:(2 ^ 64:Nat)=18446744073709551616:=by decide
 rw[e64] at hle;rw[Qeu,Qeu,e];rw[e] at hle;generalize 2 ^ d1=z at*;omega
theorem Qnv{W' d1 dr:Nat}(hW:W'<18446744073709551616)(hd:dr=d1+1)(h:dr≤64):bits .and .u64 (W':Int) (IntKind.u64.wrap (IntKind.u64.wrap (((2 ^ d1:Nat):Int)*2) - 1))=((W' % 2 ^ dr:Nat):Int):=by
 rw[Qnu hd h];have hle:2 ^ dr≤2 ^ 64:=Nat.pow_le_pow_right (by decide) h;have e64:(2 ^ 64:Nat)=18446744073709551616:=by decide
 have hp:=Nat.two_pow_pos dr;rw[u64_and_nat _ _ hW (by omega),Nat.and_two_pow_sub_one_eq_mod]
theorem Qnw{c:Nat}(h:c<18446744073709551616):bits .and .u64 (c:Int) 1=((c % 2:Nat):Int):=by
 have:=u64_and_nat c 1 h (by decide);rw[show (1:Nat)=2 ^ 1 - 1 by decide,Nat.and_two_pow_sub_one_eq_mod] at this;exact this
set_option maxRecDepth 100000 in
set_option maxHeartbeats 400000 in
theorem Qnx(e:Int)(w:World):Calls Tryz.prog 43 #[.float .f64 0,.int .i64 e] w fun en w'=>en=.returned (.float .f64 0)∧w'=w:=by
 have z1:=o_eq (a:=0) (b:=0) (by decide) (by decide);rw[decide_eq_true rfl] at z1;have HL:Hid (Calls Tryz.prog 85 #[.float .f64 0,.int .i64 e] w fun en w'=>en=.returned (.float .f64 0)∧w'=w):=Hi (by
  go_enter Tryz.func85,Tryz.ntmps85;go_wp2;go_ret
  exact⟨rfl,rfl⟩)
 go_enter Tryz.func43,Tryz.ntmps43;go_wp2_with fail;refine HL.out.mono ?_;rintro e1 w1 ⟨rfl,rfl⟩;go_wp2;go_ret;exact⟨rfl,rfl⟩
theorem Qny{K:Nat}{e:Int}(w:World)(hk:K≤9007199254740992)(he: -1074≤e)(he2:e≤1000000000000)(hek:e= -1074∨4503599627370496≤K):
 Calls Tryz.prog 43 #[.float .f64 (floatOfInt .f64 (K:Int)),.int .i64 e] w fun en w'=>en=.returned (.float .f64 (min ((e+1074).toNat*4503599627370496+K) 9218868437227405312))∧w'=w:=by
 rcases Nat.eq_zero_or_pos K with h|h
 ·
  subst h;have e1:e= -1074:=by
   rcases hek with h|h
   · exact h
   · exact absurd h (by decide)
  subst e1;have:=Qnx (-1074) w;exact this
 · exact Qnr w h hk he he2 hek
set_option maxRecDepth 100000 in
set_option maxHeartbeats 2000000 in
theorem Qnz{q:Rat}{W W' N:Nat}{hf:Int}{more:Bool}(w:World)(H:RootOf q W hf more)(hO:Odd1 W W' more)(hN:N=1074)(hb1: -20000000000≤hf)(hb2:hf≤20000000000):
 Calls Tryz.prog 59 #[.int .u64 W',.int .i64 (-hf)] w fun e w'=>(∃r,e=.returned (.float .f64 r)∧r≤9218868437227405312∧Nea.Near (q*((4 ^ N:Nat):Rat)) r)∧Below w.heap.size w w':=by
 obtain⟨hW1,hW2,hL1,hL2⟩:=hO.bits H;have hl:=H.low;have HLEN:=Hi (fun u=>len64 (W':Int) u (by omega) (by omega));rw[Int.toNat_natCast,Qha (by omega) hW2] at HLEN;obtain⟨L,hL⟩:∃L,nb W'=L:=⟨_,rfl⟩;rw[hL] at HLEN hL1 hL2;have HH:=Hi H;have HO:=Hi hO;have HNN:=Hi hN;have HL:=Hi hL;have HW:=Hi hW2;clear H hO hN hW1 hW2 hl hL;obtain⟨y,hy⟩:∃y,-hf=y:=⟨_,rfl⟩;rw[hy];have s1:wrap64 ((L:Int) - 53)=(L:Int) - 53:=by unfold wrap64;omega
 have s2:wrap64 (-1074 - y)=hf - 1074:=by unfold wrap64;omega
 have HY:=Hi hy;obtain⟨D,hD⟩:∃D:Int,max ((L:Int) - 53) (hf - 1074)=D:=⟨_,rfl⟩;have bD:10≤D∧D≤20000000000:=by omega
 have HD:=Hi hD;have HBD:=Hi bD;clear hy bD;go_enter Tryz.func59,Tryz.ntmps59;go_wp2_with fail;refine(HLEN.out _).mono ?_;rintro e w1 ⟨rfl,rfl⟩;go_wp2_with fail;refine(HLEN.out _).mono ?_;rintro e w2 ⟨rfl,rfl⟩;by_cases c1:(L:Int)<D
 ·
  have q1:decide ((L:Int)<D)=true:=by simpa using c1
  have HNZ:=Hi (Qnt HH.out HO.out HNN.out (by rw[HL.out];have:=HD.out;omega));clear c1;go_wp2;go_ret;exact⟨⟨0,rfl,Nat.zero_le _,HNZ.out⟩,Below.refl _ _⟩
 ·
  have q1:decide ((L:Int)<D)=false:=by simpa using c1
  obtain⟨dr,hdr⟩:∃dr:Nat,D=(dr:Int):=⟨D.toNat,by have:=HBD.out;omega⟩;subst hdr;have hdr1:10≤dr∧dr≤L:=by have:=HBD.out;omega
  have q1n:decide (L<dr)=false:=by simp;omega
  obtain⟨c,hc⟩:∃c,W' / 2 ^ dr=c:=⟨_,rfl⟩;obtain⟨d1,hd1⟩:∃d1,dr=d1+1:=⟨dr - 1,by omega⟩;obtain⟨h,hh⟩:∃h,2 ^ d1=h:=⟨_,rfl⟩;have q2:(W':Int) / 2 ^ (min dr 64)=(c:Int):=by rw[←hc,Nat.min_eq_left (by omega)];simp
  have q3:wrap64 ((dr:Int) - 1)=(d1:Int):=by unfold wrap64;omega
  have q3':(dr:Int) - 1=(d1:Int):=by omega
  have q3'':IntKind.i64.wrap (d1:Int)=(d1:Int):=by unfold IntKind.wrap;simp[IntKind.bits,IntKind.signed];omega
  have q4:IntKind.u64.wrap (2 ^ (min d1 64))=(h:Int):=by
   have hlt:2 ^ d1<2 ^ 64:=Nat.pow_lt_pow_right (by decide) (by omega);rw[Nat.min_eq_left (by omega),←hh];have e:((2:Int) ^ d1)=((2 ^ d1:Nat):Int):=by simp
   rw[e];unfold IntKind.wrap;simp only[IntKind.bits,IntKind.signed];generalize 2 ^ d1=z at*;simp;omega
  have HD1:=Hi hd1;have HCH:=Hi (And.intro hc hh);have HDR:=Hi hdr1;clear hc hh c1 hdr1 hd1;obtain⟨Y,hY⟩:∃Y,w2.drew=Y:=⟨_,rfl⟩;have HBY:Hid (Below w2.heap.size w2 Y):=Hi (by rw[←hY];exact(Below.refl _ _).drew);have HYE:=Hi hY;clear hY;go_wp2_with fail;refine RegG.bg 8 (fun j=>some (bif j == 6 then 6 else bif j == 7 then 7 else 19+j)) ?_;rw[HYE.out];refine RegG.pu (c:=?_) [] (fun w hb=>?_) ?_;rotate_left
  ·
   intro K hK;skip;go_simp;exact hK
  refine RegG.pu (c:=?_) [] (fun w hb=>?_) ?_;rotate_left
  ·
   intro K hK;skip;go_simp;exact hK
  refine RegG.pu (c:=?_) [0,1] (fun w hb=>?_) ?_;rotate_left
  ·
   intro K hK;skip;go_simp;exact hK
  refine RegG.pu (c:=?_) [] (fun w hb=>?_) ?_;rotate_left
  ·
   intro K hK;skip;go_simp;exact hK
  refine RegG.pu (c:=?_) [3] (fun w hb=>?_) ?_;rotate_left
  ·
   intro K hK;skip;go_simp;exact hK
  refine RegG.pu (c:=?_) [4] (fun w hb=>?_) ?_;rotate_left
  ·
   intro K hK;skip;go_simp;exact hK
  refine RegG.pu (c:=?_) [2] (fun w hb=>?_) ?_;rotate_left
  ·
   intro K hK;skip;go_simp;exact hK
  refine RegG.pu (c:=?_) [5] (fun w hb=>?_) ?_;rotate_left
  ·
   intro K hK;skip;go_simp;exact hK
  refine RegG.fi (fun u9 hb=>?_);have HB9:=Hi (HBY.out.trans (hb.mono HBY.out.size));clear hb HBY HYE;obtain⟨dp,hdp⟩:∃dp,W' % 2 ^ dr=dp:=⟨_,rfl⟩;have q5:bits .and .u64 (W':Int) (IntKind.u64.wrap (IntKind.u64.wrap ((h:Int)*2) - 1))=(dp:Int):=by
   rw[←hdp,←HCH.out.2];exact Qnv HW.out HD1.out (by have:=HDR.out;omega)
  have hcb:c<18446744073709551616:=by rw[←HCH.out.1];exact Nat.lt_of_le_of_lt (Nat.div_le_self _ _) HW.out
  have q6:=Qnw hcb;obtain⟨od,hod⟩:∃od,c % 2=od:=⟨_,rfl⟩;rw[hod] at q6;obtain⟨e,he⟩:∃e:Int,(dr:Int) - hf=e:=⟨_,rfl⟩;have hea: -1074≤e∧e≤1000000000000:=by have:=HD.out;have:=HBD.out;omega
  have q8:wrap64 (y+(dr:Int))=e:=by have:=HY.out;unfold wrap64;omega
  obtain⟨E,hE⟩:∃E:Nat,e+1074=(E:Int):=⟨(e+1074).toNat,by omega⟩;have HFIN:Hid (∀K:Nat,(K=if h<dp∨(dp=h∧od=1) then c+1 else c)→Calls Tryz.prog 43 #[.float .f64 (floatOfInt .f64 (K:Int)),.int .i64 e] u9 fun en w'=>(∃r,en=.returned (.float .f64 r)∧r≤9218868437227405312∧Nea.Near (q*((4 ^ N:Nat):Rat)) r)∧w'=u9):=Hi (fun K hK=>by
   have hd1:=HD1.out;obtain⟨n1,n2,n3⟩:=Qns (c:=c) (K:=K) (dr:=dr) (E:=E) HH.out HO.out HNN.out (by rw[HL.out];have:=HD.out;omega) (by rw[HL.out];exact HDR.out.2) (by omega) HCH.out.1.symm (by
    rw[show dr - 1=d1 by omega,HCH.out.2,hdp,hod]
    exact hK)
   refine(Qny u9 n2 hea.1 hea.2 (by rcases n3 with hz|hz<;>omega)).mono ?_;rintro en w' ⟨rfl,rfl⟩;rw[hE,Int.toNat_natCast]
   exact⟨⟨_,rfl,Nat.min_le_right _ _,n1⟩,rfl⟩)
  have HC1:Hid (IntKind.u64.wrap ((c:Int)+1)=((c+1:Nat):Int)):=Hi (by
   have h1:=HCH.out.1;have h2:c≤W' / 2 ^ 10:=by
    rw[←h1];exact Nat.div_le_div_left (Nat.pow_le_pow_right (by decide) HDR.out.1) (by decide)
   have h3:=HW.out;rw[Qeu]
   omega)
  clear hdp hcb hod he hea hE;by_cases g1:h<dp
  ·
   have r1:decide (h<dp)=true:=by simpa using g1
   have HK:=Hi (HFIN.out (c+1) (by rw[if_pos (Or.inl g1)]));have r9:=HC1.out;clear g1;go_wp2_with fail;refine HK.out.mono ?_;rintro en w' ⟨⟨r,rfl,hr1,hr2⟩,rfl⟩;have HRR:=Hi (And.intro hr1 hr2);clear hr1 hr2;go_wp2;go_ret;exact⟨⟨r,rfl,HRR.out.1,HRR.out.2⟩,HB9.out⟩
  ·
   have r1:decide (h<dp)=false:=by simpa using g1
   by_cases g2:dp=h
   ·
    by_cases g3:od=1
    ·
     have r2:((dp:Int) == (h:Int))=true:=by simp;omega
     have r2n:(dp == h)=true:=by simpa using g2
     have r3:((od:Int) == 1)=true:=by simp;omega
     have r3n:(od == 1)=true:=by simpa using g3
     have HK:=Hi (HFIN.out (c+1) (by rw[if_pos (Or.inr ⟨g2,g3⟩)]));have r9:=HC1.out;clear g1 g2 g3;go_wp2_with fail;refine HK.out.mono ?_;rintro en w' ⟨⟨r,rfl,hr1,hr2⟩,rfl⟩;have HRR:=Hi (And.intro hr1 hr2);clear hr1 hr2;go_wp2;go_ret;exact⟨⟨r,rfl,HRR.out.1,HRR.out.2⟩,HB9.out⟩
    ·
     have r2:((dp:Int) == (h:Int))=true:=by simp;omega
     have r2n:(dp == h)=true:=by simpa using g2
     have r3:((od:Int) == 1)=false:=by simp;omega
     have r3n:(od == 1)=false:=by simpa using g3
     have HK:=Hi (HFIN.out c (by rw[if_neg (by omega)]));clear g1 g2 g3;go_wp2_with fail;refine HK.out.mono ?_;rintro en w' ⟨⟨r,rfl,hr1,hr2⟩,rfl⟩;have HRR:=Hi (And.intro hr1 hr2);clear hr1 hr2;go_wp2;go_ret;exact⟨⟨r,rfl,HRR.out.1,HRR.out.2⟩,HB9.out⟩
   ·
    have r2:((dp:Int) == (h:Int))=false:=by simp;omega
    have r2n:(dp == h)=false:=by simpa using g2
    have HK:=Hi (HFIN.out c (by rw[if_neg (by omega)]));clear g1 g2;go_wp2_with fail;refine HK.out.mono ?_;rintro en w' ⟨⟨r,rfl,hr1,hr2⟩,rfl⟩;have HRR:=Hi (And.intro hr1 hr2);clear hr1 hr2;go_wp2;go_ret;exact⟨⟨r,rfl,HRR.out.1,HRR.out.2⟩,HB9.out⟩
theorem Qn0{W:Nat}(h:W<18446744073709551616):bits .or .u64 (W:Int) 1=((W ||| 1:Nat):Int):=by
 have:=u64_or_nat W 1 h (by decide);exact this
theorem Qn1(W:Nat):(W ||| 1) % 2=1∧((W ||| 1)=W∨(W ||| 1)=W+1):=by
 have h1:(W ||| 1) % 2=1:=by
  have:=Nat.or_mod_two_pow (a:=W) (b:=1) (n:=1);rw[show (2 ^ 1:Nat)=2 by decide] at this;rw[this];rcases Nat.mod_two_eq_zero_or_one W with h|h<;>rw[h]<;>decide
 have h2:(W ||| 1) / 2=W / 2:=by
  have:=Nat.or_div_two_pow (a:=W) (b:=1) (n:=1);rw[show (2 ^ 1:Nat)=2 by decide] at this;rw[this];simp
 omega
set_option maxRecDepth 100000 in
set_option maxHeartbeats 2000000 in
theorem Qn2{v:Value}{q:Rat}{w:World}{K N:Nat}(h:FracV w v q)(hq:0<q)(hf:Fits q K)(hK:K≤2000000000)(hN:N=1074):
 Calls Tryz.prog 22 #[v] w fun e w'=>(∃r,e=.returned (.float .f64 r)∧r≤9218868437227405312∧Nea.Near (q*((4 ^ N:Nat):Rat)) r)∧Below w.heap.size w w':=by
 obtain⟨neg,a,n,c,b,m,d,rfl,hat⟩:=h;obtain⟨V0,hV0⟩:∃V0,w.alloc (.cells #[.bool neg,.slice a n c,.slice b m d] 62)=V0:=⟨_,rfl⟩;have hbv:Below w.heap.size w V0:=by rw[←hV0];exact(Below.refl _ _).alloc (Nat.le_refl _) _
 have HR:=Hi (Qnj (w:=V0) ⟨neg,a,n,c,b,m,d,rfl,hat.below hbv⟩ hq hf hK);have HNN:=Hi hN;have HBV:=Hi hbv;have HVE:=Hi hV0;clear hat hq hf hK hN hV0 hbv;go_enter Tryz.func22,Tryz.ntmps22;go_wp2_with fail;rw[HVE.out];refine HR.out.mono ?_;rintro e w1 ⟨W,hf,more,rfl,hro,hb1,hb2,hbw⟩;have HB:=Hi (HBV.out.trans (hbw.mono HBV.out.size));have HC:=Hi (fun (W':Nat) (hO:Odd1 W W' more)=>Qnz w1 hro hO HNN.out hb1 hb2);have q1:=Qn0 hro.top;obtain⟨V,hV⟩:∃V,W ||| 1=V:=⟨_,rfl⟩;have HO:Hid (V % 2=1∧(V=W∨V=W+1)):=Hi (by rw[←hV];exact Qn1 W);rw[hV] at q1;clear hro hb1 hb2 hbw hV;cases more
 ·
  have HK:=Hi (HC.out W (Or.inl ⟨rfl,rfl⟩));go_wp2_with fail;refine HK.out.mono ?_;rintro en w' ⟨⟨r,rfl,hr1,hr2⟩,hb⟩;have HRR:=Hi (And.intro hr1 hr2);have HBB:=Hi hb;clear hr1 hr2 hb;go_wp2;go_ret;exact⟨⟨r,rfl,HRR.out.1,HRR.out.2⟩,HB.out.trans (HBB.out.mono HB.out.size)⟩
 ·
  have HK:=Hi (HC.out V (Or.inr ⟨rfl,HO.out⟩));go_wp2_with fail;refine HK.out.mono ?_;rintro en w' ⟨⟨r,rfl,hr1,hr2⟩,hb⟩;have HRR:=Hi (And.intro hr1 hr2);have HBB:=Hi hb;clear hr1 hr2 hb;go_wp2;go_ret;exact⟨⟨r,rfl,HRR.out.1,HRR.out.2⟩,HB.out.trans (HBB.out.mono HB.out.size)⟩
set_option maxHeartbeats 400000 in
theorem Qn4(w:World):Calls Tryz.prog 116 #[.slice none 0 0,.slice none 0 0] w fun e w'=>e=.returned (.slice none 0 0)∧w'=w:=by
 go_enter Tryz.func116,Tryz.ntmps116;go_wp2;go_ret;exact⟨rfl,rfl⟩
theorem sq_mk(q:Rat):mkRat (sgn false (q.num.natAbs*q.num.natAbs)) (q.den*q.den)=q*q∧Nat.Coprime (q.num.natAbs*q.num.natAbs) (q.den*q.den):=by
 refine⟨?_,?_⟩
 ·
  have e:sgn false (q.num.natAbs*q.num.natAbs)=q.num*q.num:=by
   show ((q.num.natAbs*q.num.natAbs:Nat):Int)=_
   exact Int.natAbs_mul_self
  rw[e,←Rat.mkRat_mul_mkRat,Rat.mkRat_self]
 · exact(q.reduced.mul_left q.reduced).mul_right (q.reduced.mul_left q.reduced)
def LowF(k:Nat):Fact:=fun v w=>∃b m d,v=.slice b m d∧LowIn w b m d k
theorem LowIn.below{w w':World}{b:Option Addr}{m d k:Nat}(h:LowIn w b m d k)(hb:Below w.heap.size w w'):LowIn w' b m d k:=by
 rcases h with h|⟨h,h1⟩
 · exact .inl h
 · exact .inr ⟨h,h1.below hb⟩
theorem LowF.stays(k:Nat):Stays (LowF k):=fun _ _ _ hb ⟨b,m,d,e,h⟩=>⟨b,m,d,e,h.below hb⟩
def FV(q:Rat):Fact:=fun v w=>FracV w v q
theorem FV.stays(q:Rat):Stays (FV q):=fun _ _ _ hb h=>FracV.below h hb
theorem mul_low{b:Option Addr}{m d k K:Nat}{w:World}(h:Low w b m d k)(hk:k<2 ^ K)(hK:K<68719476000):Calls Tryz.prog 116 #[.slice b m d,.slice b m d] w (Makes w (LowF (k*k))):=by
 rcases h with ⟨rfl,rfl,rfl,rfl⟩|⟨h,l,rfl,hu⟩
 ·
  refine(Qn4 w).mono ?_;rintro e w' ⟨rfl,rfl⟩;exact⟨_,rfl,Below.refl _ _,none,0,0,rfl,.inl ⟨rfl,rfl,rfl,rfl⟩⟩
 ·
  have:=hu.len_bits hk;refine(Qek b b d d l l k k w hu hu (by omega)).mono ?_;rintro e w' ⟨⟨a,cap,r,rfl,hr⟩,hb⟩;exact⟨_,rfl,hb,a,r.length,cap,rfl,.inr ⟨Nat.mul_pos (by omega) (by omega),r,rfl,hr⟩⟩
theorem Qn5{b:Option Addr}{m d k K:Nat}{w:World}(h:NumV w b m d k)(hk:k<2 ^ K)(hK:K<68719476000):Calls Tryz.prog 116 #[.slice b m d,.slice b m d] w (Makes w (NF (k*k))):=by
 obtain⟨l,rfl,hu⟩:=h;have:=hu.len_bits hk;refine(Qek b b d d l l k k w hu hu (by omega)).mono ?_;rintro e w' ⟨⟨a,cap,r,rfl,hr⟩,hb⟩;exact⟨_,rfl,hb,a,cap,r,rfl,hr⟩
set_option maxRecDepth 100000 in
set_option maxHeartbeats 1000000 in
theorem Qn6(neg:Bool)(a b:Option Addr)(n c m d K:Nat)(q:Rat)(w:World)(h:FracAt w neg a n c b m d q)(hf:Fits q K)(hK:K<68719476000):
 Calls Tryz.prog 61 #[.agg #[.bool neg,.slice a n c,.slice b m d]] w (FNew w (q*q)):=by
 obtain⟨V,hV⟩:∃V,(w.alloc (.cells #[.bool neg,.slice a n c,.slice b m d] 62)).alloc (.cells zeroFrac 62)=V:=⟨_,rfl⟩;have HS:Hid (SB V (w.heap.size+1) 62 zeroFrac):=Hi (by rw[←hV];exact SB.new2 w _ _ _ _);have HBP:Hid (Below w.heap.size w V):=Hi (by rw[←hV];exact Below.new2 w _ _);have HS0:Hid (SB V w.heap.size 62 #[.bool neg,.slice a n c,.slice b m d]):=Hi (by
  rw[←hV]
  exact(SB.new w _ _).below ((Below.refl _ _).alloc (Nat.le_refl _) _) (by rw[World.size_alloc];omega))
 have hc1:=HS0.out.cell 1;have hc2:=HS0.out.cell 2;simp only[List.getElem?_toArray,List.getElem?_cons_zero,List.getElem?_cons_succ] at hc1 hc2;have HLT:Hid (w.heap.size<V.drew.heap.size):=Hi HS0.out.lt;have hdr:Below V.heap.size V V.drew:=(Below.refl _ _).drew;have HC1:Hid (V.drew.cell? ⟨w.heap.size,1,none⟩=some (.slice a n c)):=Hi (by rw[hdr.cell HS0.out.lt];exact hc1);have HC2:Hid (V.drew.cell? ⟨w.heap.size,2,none⟩=some (.slice b m d)):=Hi (by rw[hdr.cell HS0.out.lt];exact hc2);have HT:=Hi (fun u (hb:Below V.drew.heap.size V.drew u)=>Qn5 ((h.top.below HBP.out).below (hdr.trans (hb.mono hdr.size))) hf.1 hK);have HL:=Hi (fun u (hb:Below V.drew.heap.size V.drew u)=>mul_low ((h.low.below HBP.out).below (hdr.trans (hb.mono hdr.size))) hf.2 hK);have HVE:=Hi hV;have HM:=Hi (sq_mk q);have HDR:=Hi hdr;clear h hf hK hV hc1 hc2 HS0 hdr;go_enter Tryz.func61,Tryz.ntmps61;go_wp2_with fail
 rw[show (w.alloc (.cells #[.bool neg,.slice a n c,.slice b m d] 62)).alloc (.cells #[.bool false,.slice none 0 0,.slice none 0 0] 62)=V from HVE.out];generalize hB:w.heap.size=B at*;have HBE:=Hi hB;clear hB;refine RegG.bg 11 (fun j=>some (3+j)) ?_;refine RegG.pu (c:=?_) [] (fun w hb=>?_) ?_;rotate_left
 ·
  intro K hK;skip;go_simp;exact hK
 refine RegG.pu (c:=?_) [0] (fun w hb=>?_) ?_;rotate_left
 ·
  intro K hK;have cx:=(Below.cell hb (p:=⟨B,1,none⟩) HLT.out).trans HC1.out;go_simp;exact hK
 refine RegG.pu (c:=?_) [] (fun w hb=>?_) ?_;rotate_left
 ·
  intro K hK;skip;go_simp;exact hK
 refine RegG.pu (c:=?_) [2] (fun w hb=>?_) ?_;rotate_left
 ·
  intro K hK;have cx:=(Below.cell hb (p:=⟨B,1,none⟩) HLT.out).trans HC1.out;go_simp;exact hK
 refine RegG.ca (φ:=NF (q.num.natAbs*q.num.natAbs)) [1,3] (NF.stays _) (fun w hb=>?_) ?_
 ·
  skip;intro K hK;go_simp;exact Makes.use (HT.out _ hb) hK
 refine RegG.pu (c:=?_) [] (fun w hb=>?_) ?_;rotate_left
 ·
  intro K hK;skip;go_simp;exact hK
 refine RegG.pu (c:=?_) [5] (fun w hb=>?_) ?_;rotate_left
 ·
  intro K hK;have cx:=(Below.cell hb (p:=⟨B,2,none⟩) HLT.out).trans HC2.out;go_simp;exact hK
 refine RegG.pu (c:=?_) [] (fun w hb=>?_) ?_;rotate_left
 ·
  intro K hK;skip;go_simp;exact hK
 refine RegG.pu (c:=?_) [7] (fun w hb=>?_) ?_;rotate_left
 ·
  intro K hK;have cx:=(Below.cell hb (p:=⟨B,2,none⟩) HLT.out).trans HC2.out;go_simp;exact hK
 refine RegG.ca (φ:=LowF (q.den*q.den)) [6,8] (LowF.stays _) (fun w hb=>?_) ?_
 ·
  skip;intro K hK;go_simp;exact Makes.use (HL.out _ hb) hK
 refine RegG.ca (φ:=FV (q*q)) [4,9] (FV.stays _) (fun w hb=>?_) ?_
 ·
  rintro v4 ⟨a4,c4,l4,rfl,h4⟩ v9 ⟨b9,m9,d9,rfl,h9⟩ K hK;have HC:=Hi (Qcg false a4 b9 _ c4 m9 d9 _ _ w ⟨l4,rfl,h4⟩ h9 HM.out.2);rw[HM.out.1] at HC;clear h4 h9;go_simp;refine HC.out.mono ?_;rintro e w' ⟨⟨v,rfl,hv⟩,hb'⟩;exact hK _ _ hb' hv
 refine RegG.last (by simp only[List.nil_append,List.cons_append,List.length_append,List.length_cons,List.length_nil,Nat.reduceAdd]) (by rfl) (by rfl) (by kernel_rfl) (fun u9 hb=>?_);simp only[FinG,List.nil_append,List.cons_append,Qcb,Act.put,List.setIfInBounds_toArray,List.set_cons_zero,List.set_cons_succ,Nat.reduceAdd,Nat.reduceBEq,cond_true,cond_false];rintro v4 _ v9 _ v10 ⟨neg9,a9,n9,c9,b9,m9,d9,rfl,hv⟩ K hK;have hbb:=HDR.out.trans (hb.mono HDR.out.size);have hs:=HS.out.below hbb HS.out.lt;have k0:=hs.cell 0;have k1:=hs.cell 1;have k2:=hs.cell 2;have f0:=hs.free 0;have f1:=hs.free 1;have f2:=hs.free 2;simp[zeroFrac] at k0 k1 k2;have HV:=Hi hv;have HS9:=Hi hs;have HB9:=Hi (HBP.out.trans (hbb.mono (by rw[←HBE.out];exact HBP.out.size)));clear hv hs hbb hb;go_simp;refine hK _ _ ?_;clear hK;go_wp2
 refine bodyPost_ret (v:=.agg #[.bool neg9,.slice a9 n9 c9,.slice b9 m9 d9]) (results_cell_row rfl _ _ (B+1) 62 #[.bool neg9,.slice a9 n9 c9,.slice b9 m9 d9] (0,0) _ rfl (((HS9.out.set 0 _).set 1 _).set 2 _) Tryz.underlying62 rfl Tryz.fracInfo) rfl ?_;have ho:=(((Only.refl (B+1) u9).setCell 0 (.bool neg9)).setCell 1 (.slice a9 n9 c9)).setCell 2 (.slice b9 m9 d9);have hb9:Below w.heap.size w u9:=by rw[HBE.out];exact HB9.out
 exact⟨⟨_,rfl,neg9,a9,n9,c9,b9,m9,d9,rfl,HV.out.only ho HS9.out Qa6⟩,Only.fresh hb9 ho (by have:=HBE.out;omega)⟩
theorem FF.squared{u:Value}{q:Rat}{k:Nat}{w:World}(h:FF q k u w)(hk:k<68719476000):Calls Tryz.prog 61 #[u] w (Makes w (FF (q*q) (k+k))):=by
 obtain⟨⟨neg,a,n,c,b,m,d,rfl,hat⟩,hf,h0⟩:=h;exact(Qn6 neg a b n c m d k q w hat hf hk).mono fun e w' h=>h.makes (hf.mul hf h0) (by omega)
end Go.Proofs.YtodfmpjhcmapmaaGreatDoor
