/- package near: Long and Pulls at any frame; slices.Equal of floats. -/
import Derived.Test.YtodfmpjhcmapmaaGreatDoorN46NeaT
import Derived.Test.YtodfmpjhcmapmaaGreatDoorN45NeaQ
namespace Go.Proofs.YtodfmpjhcmapmaaGreatDoor
open Go.RowKit
set_option linter.unusedVariables false
set_option linter.unusedSimpArgs false
set_option maxHeartbeats 400000 in
theorem Qcs{u:Value}{q:Rat}{k:Nat}{w:World}(h:RF q k u w)(hk:k+k<274877906000):Calls Tryz.prog 37 #[u] w (Makes w (RF (q*q) (k+k))):=by
 have HM:=Hi (h.mul h hk);clear h;go_enter Tryz.func37,Tryz.ntmps37;go_wp2_with fail;refine Makes.use HM.out ?_;intro v w' hb hv;have HB:=Hi (And.intro hb hv);clear hb hv;go_wp2;go_ret;exact⟨v,rfl,HB.out.1,HB.out.2⟩
set_option maxHeartbeats 400000 in
theorem Qct{c:Int}{tie:Bool}(w:World)(h:0<c∨(c=0∧tie=true)):Calls Tryz.prog 39 #[.int .i64 c,.bool tie] w fun e w'=>e=.returned (.bool true)∧w'=w:=by
 rcases h with h|⟨rfl,rfl⟩
 ·
  have q1:decide (0<c)=true:=by simpa using h
  go_enter Tryz.func39,Tryz.ntmps39;go_wp2;go_ret;exact⟨rfl,rfl⟩
 ·
  go_enter Tryz.func39,Tryz.ntmps39;go_wp2;go_ret;exact⟨rfl,rfl⟩
theorem Qe1{R:Nat}(h:R<9218868437227405312)(w:World):Calls Tryz.prog 41 #[.float .f64 R,.int .i64 1] w fun e w'=>e=.returned (.bool false)∧w'=w:=(Qhl R w (Nat.le_of_lt h)).mono fun e w' ⟨h1,h2⟩=>⟨by rw[h1,decide_eq_false (Nat.ne_of_lt h)],h2⟩
theorem Qoz(w:World):Calls Tryz.prog 41 #[.float .f64 9218868437227405312,.int .i64 1] w fun e w'=>e=.returned (.bool true)∧w'=w:=(Qhl 9218868437227405312 w (Nat.le_refl _)).mono fun e w' ⟨h1,h2⟩=>⟨by rw[h1,decide_eq_true rfl],h2⟩
theorem Qa1{R N:Nat}(w:World)(hR:R<9218868437227405312)(hN:N=1074):Calls Tryz.prog 42 #[.pointer (some ⟨w.heap.size,0,none⟩),.float .f64 R] (w.alloc (.cells #[.bool false,.slice none 0 0,.bool false,.slice none 0 0] 79)) (Makes w (RF (flo R N) 2200)):=
 (Qon w.heap.size R N _ (Qb7 w) hR hN).mono fun e w' h=>(RatOk.new h).makes (Qow (Nat.le_of_lt hR) hN rfl) (by decide)
theorem Makes.use2{P:Program}{f:FuncId}{args:Array Value}{w0 w:World}{φ:Fact}{R:Ending→World→Prop}(h:Calls P f args w (Makes w0 φ))(hR:∀v w',Below w0.heap.size w0 w'→φ v w'→R (.returned v) w'):Calls P f args w R:=
 h.mono fun e w' ⟨v,he,hb,hv⟩=>by subst he;exact hR v w' hb hv
theorem Qe2(w:World):Calls Tryz.prog 45 #[.int .i64 2] w (Makes w (RF 2 2)):=
 (ref_N 2 w (by decide)).mono fun e w' h=>h.makes ⟨by decide,by decide⟩ (by decide)
set_option maxRecDepth 100000 in
set_option maxHeartbeats 2000000 in
theorem Qdm{u:Value}{q:Rat}{k R N:Nat}{w:World}(h:RF q k u w)(hk:k≤200000000000)(hR:R≤9218868437227405312)(hN:N=1074)(hn:Nea.Near (q*((4 ^ N:Nat):Rat)) R):
 Calls Tryz.prog 18 #[.float .f64 R,u] w (Makes w (Is (.bool true))):=by
 have z1:=o_ne (a:=R) (b:=R) hR hR;rw[decide_eq_false (by simp)] at z1;have z2:=o_lt (a:=R) (b:=0) hR (by decide);rw[decide_eq_false (by omega)] at z2;have z3:=o_gt (a:=R) (b:=0) hR (by decide);have z4:=o_eq (a:=R) (b:=9218868437227405311) hR (by decide);have z5:=Qa9 R;obtain⟨ev,hev⟩:∃ev:Bool,((R:Int) % 2 == 0)=ev:=⟨_,rfl⟩;have HEV:Hid (R % 2=0→ev=true):=Hi (fun h=>by rw[←hev];simp;omega);have HQ:=Hi h;have HK:=Hi hk;have HN:=Hi hN;have HNE:=Hi hn;have HR:=Hi hR;clear h hk hN hn;have HFI:Hid (0<R→0<cmpQ q (midF (R - 1) R N*midF (R - 1) R N)∨(cmpQ q (midF (R - 1) R N*midF (R - 1) R N)=0∧ev=true)):=Hi (fun h0=>by
  rcases HNE.out.1 h0 with h2|⟨h2,h3⟩
  · exact .inl ((Qgc _ _).2 (Qox h2))
  · exact .inr ⟨(Qgb _ _).2 (Qhu h2).symm,HEV.out h3⟩)
 have HFH:Hid (R<9218868437227405312→0<cmpQ (midF R (R+1) N*midF R (R+1) N) q∨(cmpQ (midF R (R+1) N*midF R (R+1) N) q=0∧ev=true)):=Hi (fun h0=>by
  rcases HNE.out.2 h0 with h2|⟨h2,h3⟩
  · exact .inl ((Qgc _ _).2 (Qoy h2))
  · exact .inr ⟨(Qgb _ _).2 (Qhu h2.symm),HEV.out h3⟩)
 obtain⟨R2,hR2⟩:∃R2,R+1=R2:=⟨_,rfl⟩;obtain⟨R1,hR1⟩:∃R1,R - 1=R1:=⟨_,rfl⟩;rw[hR1] at HFI;rw[hR2] at HFH;have HUP:=Hi hR2;have HW0:Hid (Below w.heap.size w w):=Hi (Below.refl _ _);by_cases h0:R=0
 ·
  rw[decide_eq_false (by omega)] at z3;rw[decide_eq_false (by omega)] at z4;have HLT:Hid (R<9218868437227405312):=Hi (by omega);have HFI2:=Hi (HFH.out HLT.out);have HLU:Hid (R2<9218868437227405312):=Hi (by omega);clear h0 hR hR1 hR2 HFI HFH;go_enter Tryz.func18,Tryz.ntmps18;go_wp2_with fail;refine(Qe1 HLT.out _).mono ?_;rintro e wx ⟨rfl,hw⟩;rw[hw];clear hw wx;go_wp2_with fail;refine Makes.use2 (Qa1 (N:=N) w HLT.out HN.out) ?_;intro v1 w1 hb hv1;have HV1:=Hi hv1;have HB1h:=Hi (HW0.out.trans (hb.mono HW0.out.size));clear hb;clear hv1;go_wp2_with fail;refine(m_inf _).mono ?_;rintro e wx ⟨rfl,hw⟩;rw[hw];clear hw wx;go_wp2_with fail;refine(Qht _ HLT.out HUP.out).mono ?_;rintro e wx ⟨rfl,hw⟩;rw[hw];clear hw wx;go_wp2_with fail;refine Makes.use2 (Qa1 (N:=N) w1 HLU.out HN.out) ?_;intro v2 w2 hb hv2;have HV1':=Hi (HV1.out.below hb);have HV2:=Hi hv2
  have HB2h:=Hi (HB1h.out.trans (hb.mono HB1h.out.size));clear hb;clear hv2;go_wp2_with fail;refine Makes.use2 (HV1'.out.add HV2.out (by decide)) ?_;intro v3 w3 hb hv3;have HV3:=Hi hv3;have HB3h:=Hi (HB2h.out.trans (hb.mono HB2h.out.size));clear hb;clear hv3;go_wp2_with fail;refine Makes.use2 (Qe2 w3) ?_;intro v4 w4 hb hv4;have HV3':=Hi (HV3.out.below hb);have HV4:=Hi hv4;have HB4h:=Hi (HB3h.out.trans (hb.mono HB3h.out.size));clear hb;clear hv4;go_wp2_with fail;refine Makes.use2 (HV3'.out.quo HV4.out (by decide) (by decide)) ?_;intro v5 w5 hb hv5;have HV5:Hid (RF (midF R R2 N) 4403 v5 w5):=Hi hv5;have HB5h:=Hi (HB4h.out.trans (hb.mono HB4h.out.size));clear hb;clear hv5;go_wp2_with fail;refine Makes.use2 (Qcs HV5.out (by decide)) ?_;intro v6 w6 hb hv6;have HV6:=Hi hv6;have HB6h:=Hi (HB5h.out.trans (hb.mono HB5h.out.size));clear hb;clear hv6;go_wp2_with fail
  refine Makes.use2 (HV6.out.cmp (HQ.out.below HB6h.out) (by have:=HK.out;omega)) ?_;intro v7 w7 hb hv7;obtain rfl:v7=.int .i64 (cmpQ (midF R R2 N*midF R R2 N) q):=hv7;have HB7h:=Hi (HB6h.out.trans (hb.mono HB6h.out.size));clear hb;go_wp2_with fail;refine(Qct _ HFI2.out).mono ?_;rintro e wx ⟨rfl,hw⟩;rw[hw];clear hw wx;go_wp2_with fail;go_wp2;go_ret;exact⟨_,rfl,HB7h.out,rfl⟩
 rw[decide_eq_true (by omega)] at z3;have hp:R=R1+1:=by omega
 have HP:=Hi (fun w=>Qop (x:=R) (y:=R1) w (by omega) hR hp);have HFIT:=Hi (HFI.out (by omega));have HL1:Hid (R1<9218868437227405312):=Hi (by omega);by_cases h1:R=9218868437227405312
 ·
  have HTOP:Hid (R1=9218868437227405311):=Hi (by omega);have HRE:=Hi h1;have HIN:Hid (∀w,Calls Tryz.prog 41 #[.float .f64 R,.int .i64 1] w fun e w'=>e=.returned (.bool true)∧w'=w):=Hi (by rw[h1];exact Qoz);clear h0 h1 hR1 hR2 hR hp HFI HFH;go_enter Tryz.func18,Tryz.ntmps18;go_wp2_with fail;refine(HP.out _).mono ?_;rintro e wx ⟨rfl,hw⟩;rw[hw];clear hw wx;go_wp2_with fail;refine(HIN.out _).mono ?_;rintro e wx ⟨rfl,hw⟩;rw[hw];clear hw wx;go_wp2_with fail;refine Makes.use2 (Qa1 (N:=N) w (by decide) HN.out) ?_;intro v1 w1 hb hv1;have HV1:=Hi hv1;have HB1:=Hi (HW0.out.trans (hb.mono HW0.out.size));clear hb;clear hv1;go_wp2_with fail;refine(Qhs _).mono ?_;rintro e wx ⟨rfl,hw⟩;rw[hw];clear hw wx;go_wp2_with fail;refine Makes.use2 (Qa1 (N:=N) w1 (by decide) HN.out) ?_;intro v2 w2 hb hv2;have HV1':=Hi (HV1.out.below hb);have HV2:=Hi hv2;have HB2:=Hi (HB1.out.trans (hb.mono HB1.out.size));clear hb
  clear hv2;go_wp2_with fail;refine Makes.use2 (HV1'.out.add HV2.out (by decide)) ?_;intro v3 w3 hb hv3;have HV3:=Hi hv3;have HB3:=Hi (HB2.out.trans (hb.mono HB2.out.size));clear hb;clear hv3;go_wp2_with fail;have HV5:Hid (RF (midF R1 R N) 4401 v3 w3):=Hi (by rw[HTOP.out,HRE.out,←Qhv];exact HV3.out);refine Makes.use2 (Qcs HV5.out (by decide)) ?_;intro v6 w6 hb hv6;have HV6:=Hi hv6;have HB6:=Hi (HB3.out.trans (hb.mono HB3.out.size));clear hb;clear hv6;go_wp2_with fail;refine Makes.use2 ((HQ.out.below HB6.out).cmp HV6.out (by have:=HK.out;omega)) ?_;intro v7 w7 hb hv7;obtain rfl:v7=.int .i64 (cmpQ q (midF R1 R N*midF R1 R N)):=hv7;have HB7:=Hi (HB6.out.trans (hb.mono HB6.out.size));clear hb;go_wp2_with fail;refine(Qct _ HFIT.out).mono ?_;rintro e wx ⟨rfl,hw⟩;rw[hw];clear hw wx;go_wp2_with fail;refine(HIN.out _).mono ?_;rintro e wx ⟨rfl,hw⟩;rw[hw];clear hw wx;go_wp2_with fail;go_ret
  exact⟨_,rfl,HB7.out,rfl⟩
 have HLT:Hid (R<9218868437227405312):=Hi (by omega);have HFI2:=Hi (HFH.out HLT.out);have HTO:Hid (R=9218868437227405311∨R2<9218868437227405312):=Hi (by omega);have HZ4:Hid ((R=9218868437227405311→R2=9218868437227405312)∧(R2<9218868437227405312→R≠9218868437227405311)):=Hi (by omega);have HZ:=Hi z4;clear h0 h1 hR1 hR2 hR hp HFI HFH z4;go_enter Tryz.func18,Tryz.ntmps18;go_wp2_with fail;refine(HP.out _).mono ?_;rintro e wx ⟨rfl,hw⟩;rw[hw];clear hw wx;go_wp2_with fail;refine(Qe1 HLT.out _).mono ?_;rintro e wx ⟨rfl,hw⟩;rw[hw];clear hw wx;go_wp2_with fail;refine Makes.use2 (Qa1 (N:=N) w HL1.out HN.out) ?_;intro v1 w1 hb hv1;have HV1:=Hi hv1;have HB1:=Hi (HW0.out.trans (hb.mono HW0.out.size));clear hb;clear hv1;go_wp2_with fail;refine Makes.use2 (Qa1 (N:=N) w1 HLT.out HN.out) ?_;intro v2 w2 hb hv2;have HV1':=Hi (HV1.out.below hb);have HV2:=Hi hv2
 have HB2:=Hi (HB1.out.trans (hb.mono HB1.out.size));clear hb;clear hv2;go_wp2_with fail;refine Makes.use2 (HV1'.out.add HV2.out (by decide)) ?_;intro v3 w3 hb hv3;have HV3:=Hi hv3;have HB3:=Hi (HB2.out.trans (hb.mono HB2.out.size));clear hb;clear hv3;go_wp2_with fail;refine Makes.use2 (Qe2 w3) ?_;intro v4 w4 hb hv4;have HV3':=Hi (HV3.out.below hb);have HV4:=Hi hv4;have HB4:=Hi (HB3.out.trans (hb.mono HB3.out.size));clear hb;clear hv4;go_wp2_with fail;refine Makes.use2 (HV3'.out.quo HV4.out (by decide) (by decide)) ?_;intro v5 w5 hb hv5;have HV5:Hid (RF (midF R1 R N) 4403 v5 w5):=Hi hv5;have HB5:=Hi (HB4.out.trans (hb.mono HB4.out.size));clear hb;clear hv5;go_wp2_with fail;refine Makes.use2 (Qcs HV5.out (by decide)) ?_;intro v6 w6 hb hv6;have HV6:=Hi hv6;have HB6:=Hi (HB5.out.trans (hb.mono HB5.out.size));clear hb;clear hv6;go_wp2_with fail
 refine Makes.use2 ((HQ.out.below HB6.out).cmp HV6.out (by have:=HK.out;omega)) ?_;intro v7 w7 hb hv7;obtain rfl:v7=.int .i64 (cmpQ q (midF R1 R N*midF R1 R N)):=hv7;have HB7:=Hi (HB6.out.trans (hb.mono HB6.out.size));clear hb;clear HV1 HV1' HV2 HV3 HV3' HV4 HV5 HV6;go_wp2_with fail;refine(Qct _ HFIT.out).mono ?_;rintro e wx ⟨rfl,hw⟩;rw[hw];clear hw wx;go_wp2_with fail;refine(Qe1 HLT.out _).mono ?_;rintro e wx ⟨rfl,hw⟩;rw[hw];clear hw wx;rcases HTO.out with ht|ht
 ·
  have z4:=HZ.out;rw[decide_eq_true ht] at z4;have HRE:=Hi ht;have HR2:=Hi (HZ4.out.1 ht);clear ht;go_wp2_with fail;refine Makes.use2 (Qa1 (N:=N) w7 HLT.out HN.out) ?_;intro v1 w8 hb hv1;have HV1:=Hi hv1;have HB1t:=Hi (HB7.out.trans (hb.mono HB7.out.size));clear hb;clear hv1;go_wp2_with fail;refine(Qhs _).mono ?_;rintro e wx ⟨rfl,hw⟩;rw[hw];clear hw wx;go_wp2_with fail;refine Makes.use2 (Qa1 (N:=N) w8 (by decide) HN.out) ?_;intro v2 w2 hb hv2;have HV1':=Hi (HV1.out.below hb);have HV2:=Hi hv2;have HB2t:=Hi (HB1t.out.trans (hb.mono HB1t.out.size));clear hb;clear hv2;go_wp2_with fail;refine Makes.use2 (HV1'.out.add HV2.out (by decide)) ?_;intro v3 w3 hb hv3;have HV3:=Hi hv3;have HB3t:=Hi (HB2t.out.trans (hb.mono HB2t.out.size));clear hb;clear hv3;go_wp2_with fail;have HV5:Hid (RF (midF R R2 N) 4401 v3 w3):=Hi (by rw[HR2.out,HRE.out,←Qhv];rw[←HRE.out];exact HV3.out)
  refine Makes.use2 (Qcs HV5.out (by decide)) ?_;intro v6 w6 hb hv6;have HV6:=Hi hv6;have HB6t:=Hi (HB3t.out.trans (hb.mono HB3t.out.size));clear hb;clear hv6;go_wp2_with fail;refine Makes.use2 (HV6.out.cmp (HQ.out.below HB6t.out) (by have:=HK.out;omega)) ?_;intro v7 w9 hb hv7;obtain rfl:v7=.int .i64 (cmpQ (midF R R2 N*midF R R2 N) q):=hv7;have HB7t:=Hi (HB6t.out.trans (hb.mono HB6t.out.size));clear hb;go_wp2_with fail;refine(Qct _ HFI2.out).mono ?_;rintro e wx ⟨rfl,hw⟩;rw[hw];clear hw wx;go_wp2_with fail;go_wp2;go_ret;exact⟨_,rfl,HB7t.out,rfl⟩
 ·
  have z4:=HZ.out;rw[decide_eq_false (HZ4.out.2 ht)] at z4;have HLU:Hid (R2<9218868437227405312):=Hi ht;clear ht;go_wp2_with fail;refine Makes.use2 (Qa1 (N:=N) w7 HLT.out HN.out) ?_;intro v1 w1 hb hv1;have HV1:=Hi hv1;have HB1h:=Hi (HB7.out.trans (hb.mono HB7.out.size));clear hb;clear hv1;go_wp2_with fail;refine(m_inf _).mono ?_;rintro e wx ⟨rfl,hw⟩;rw[hw];clear hw wx;go_wp2_with fail;refine(Qht _ HLT.out HUP.out).mono ?_;rintro e wx ⟨rfl,hw⟩;rw[hw];clear hw wx;go_wp2_with fail;refine Makes.use2 (Qa1 (N:=N) w1 HLU.out HN.out) ?_;intro v2 w2 hb hv2;have HV1':=Hi (HV1.out.below hb);have HV2:=Hi hv2;have HB2h:=Hi (HB1h.out.trans (hb.mono HB1h.out.size));clear hb;clear hv2;go_wp2_with fail;refine Makes.use2 (HV1'.out.add HV2.out (by decide)) ?_;intro v3 w3 hb hv3;have HV3:=Hi hv3;have HB3h:=Hi (HB2h.out.trans (hb.mono HB2h.out.size));clear hb;clear hv3;go_wp2_with fail
  refine Makes.use2 (Qe2 w3) ?_;intro v4 w4 hb hv4;have HV3':=Hi (HV3.out.below hb);have HV4:=Hi hv4;have HB4h:=Hi (HB3h.out.trans (hb.mono HB3h.out.size));clear hb;clear hv4;go_wp2_with fail;refine Makes.use2 (HV3'.out.quo HV4.out (by decide) (by decide)) ?_;intro v5 w5 hb hv5;have HV5:Hid (RF (midF R R2 N) 4403 v5 w5):=Hi hv5;have HB5h:=Hi (HB4h.out.trans (hb.mono HB4h.out.size));clear hb;clear hv5;go_wp2_with fail;refine Makes.use2 (Qcs HV5.out (by decide)) ?_;intro v6 w6 hb hv6;have HV6:=Hi hv6;have HB6h:=Hi (HB5h.out.trans (hb.mono HB5h.out.size));clear hb;clear hv6;go_wp2_with fail;refine Makes.use2 (HV6.out.cmp (HQ.out.below HB6h.out) (by have:=HK.out;omega)) ?_;intro v7 w7 hb hv7;obtain rfl:v7=.int .i64 (cmpQ (midF R R2 N*midF R R2 N) q):=hv7;have HB7h:=Hi (HB6h.out.trans (hb.mono HB6h.out.size));clear hb;go_wp2_with fail;refine(Qct _ HFI2.out).mono ?_;rintro e wx ⟨rfl,hw⟩;rw[hw]
  clear hw wx;go_wp2_with fail;go_wp2;go_ret;exact⟨_,rfl,HB7h.out,rfl⟩
end Go.Proofs.YtodfmpjhcmapmaaGreatDoor
namespace Go.Proofs.YtodfmpjhcmapmaaGreatDoor
open Go.RowKit
set_option linter.unusedVariables false
theorem Qhw{X:Rat}{r s:Nat}(h1:Nea.Near X r)(h2:Nea.Near X s)(hs:s≤9218868437227405312)(hlt:r<s):False:=by
 have a:=h1.2 (by omega);have b:=h2.1 (by omega);rcases Nat.lt_or_ge (r+1) s with h|h
 ·
  have e1:Nea.U r+Nea.U (r+1)<Nea.U (s - 1)+Nea.U s:=by
   have:=Nea.U_lt (show r+1<s from h);have h3:Nea.U r<Nea.U (s - 1):=Nea.U_lt (by omega);omega
  have e2:=Nea.sq_lt e1;rcases a with a|⟨a,_⟩<;>rcases b with b|⟨b,_⟩<;>grind
 ·
  obtain rfl:s=r+1:=by omega
  rw[Nat.add_sub_cancel] at b;rcases a with a|⟨a,p⟩<;>rcases b with b|⟨b,q⟩
  · grind
  · grind
  · grind
  · omega
theorem Nea.Near.inj{X:Rat}{r s:Nat}(h1:Nea.Near X r)(h2:Nea.Near X s)(hr:r≤9218868437227405312)(hs:s≤9218868437227405312):r=s:=by
 rcases Nat.lt_trichotomy r s with h|h|h
 · exact(Qhw h1 h2 hs h).elim
 · exact h
 · exact(Qhw h2 h1 hr h).elim
theorem Qhx{X:Rat}{r:Nat}(h:4*X=(((Nea.U r+Nea.U r)*(Nea.U r+Nea.U r):Nat):Rat)):Nea.Near X r:=by
 refine⟨fun h0=>.inl ?_,fun h0=>.inl ?_⟩
 · rw[h]
   exact Nea.sq_lt (by have:=Nea.U_lt (show r - 1<r by omega);omega)
 · rw[h]
   exact Nea.sq_lt (by have:=Nea.U_lt (show r<r+1 by omega);omega)
theorem Qo0{N:Nat}(hN:N=1074):Nea.Near (25*((4 ^ N:Nat):Rat)) 4617315517961601024:=by
 apply Qhx;obtain⟨e,he⟩:∃e,e=1024:=⟨_,rfl⟩;have u1:Nea.U 4617315517961601024=5*2 ^ N:=by
  have:=Nea.U_of (E:=e) (k:=5629499534213120) ⟨Or.inr (by decide),by decide⟩;rw[show e*4503599627370496+5629499534213120=4617315517961601024 by rw[he]] at this;rw[this,show N=50+e by omega,Nat.pow_add];generalize 2 ^ e=p;omega
 rw[u1,show (4 ^ N:Nat)=2 ^ N*2 ^ N by rw[←Nat.mul_pow]];generalize 2 ^ N=p;rw[show (5*p+5*p)*(5*p+5*p)=100*(p*p) by grind,Rat.natCast_mul,Rat.natCast_mul];have:((100:Nat):Rat)=100:=rfl;rw[this,Rat.natCast_mul];grind
theorem Qo1{N:Nat}:Nea.Near (0*((4 ^ N:Nat):Rat)) 0:=by
 apply Qhx;rw[show Nea.U 0=0 from rfl];simp
set_option linter.unusedSimpArgs false
set_option maxRecDepth 100000 in
set_option maxHeartbeats 2000000 in
theorem Qo2(a1 a2 a3:Option Addr)(c1 c2 c3:Nat)(js:List S2)(bs:List B6)(hs:List H3)(c at_:Int)(w:World)(hg:Glob w)(hf:FrRow w a1 a2 a3 c1 c2 c3 js bs hs)(hz:FrSized js bs hs)(hff:FrameFault js bs hs c at_)(hc:c≠0):
 Calls Tryz.prog 4 #[.agg #[.slice a1 js.length c1,.slice a2 bs.length c2,.slice a3 hs.length c3]] w fun e w'=>e=.returned (.tuple #[.slice none 0 0,.agg #[.int .i64 c,.int .i64 at_]])∧Below w.heap.size w w':=by
 have HG:=Hi hg;have HF:=Hi hf;have HZ:=Hi hz;have HFF:=Hi hff;have HC0:=Hi hc;clear hg hf hz hff hc;obtain⟨B0,hB0⟩:∃B0,w.heap.size=B0:=⟨_,rfl⟩;obtain⟨V0,hV0⟩:∃V0,(w.alloc (.cells #[.slice a1 js.length c1,.slice a2 bs.length c2,.slice a3 hs.length c3] 26)).alloc (.cells #[.int .i64 0,.int .i64 0] 31)=V0:=⟨_,rfl⟩;have HBV0:Hid (Below w.heap.size w V0):=Hi (by rw[←hV0];exact Below.new2 w _ _);have HS1:Hid (SB V0 (B0+1) 31 #[.int .i64 0,.int .i64 0]):=Hi (by rw[←hV0,←hB0];exact SB.new2 w _ _ _ _);have HVE:=Hi hV0;have HB0:=Hi hB0;have hle:w.heap.size≤B0+1:=by omega
 have HCK:=Hi (Qcw a1 a2 a3 c1 c2 c3 js bs hs V0 (HG.out.below HBV0.out) (HF.out.below HBV0.out) HZ.out);clear hV0 hB0;go_enter Tryz.func4,Tryz.ntmps4;go_wp2_with fail;rw[HVE.out,HB0.out];clear HVE;go_fit HCK.out;rintro e w1 ⟨c',at',rfl,hff,hb1⟩;obtain⟨e1,e2⟩:=HFF.out.inj hff;obtain rfl:=e1;obtain rfl:=e2;obtain⟨V,hV⟩:∃V,w1.alloc (.cells #[.int .i64 c,.int .i64 at_] 31)=V:=⟨_,rfl⟩;have hbV:Below V0.heap.size V0 V:=by rw[←hV];exact hb1.alloc hb1.size _
 have HX1:=Hi (HS1.out.below hbV HS1.out.lt);have HBV:=Hi (HBV0.out.trans (hbV.mono HBV0.out.size));obtain⟨bg,hbg⟩:∃bg,w1.heap.size=bg:=⟨_,rfl⟩;have hsg:SB V bg 31 #[.int .i64 c,.int .i64 at_]:=by rw[←hV,←hbg];exact SB.new w1 _ _
 have k0:V.cell? ⟨bg,0,none⟩=some (.int .i64 c):=hsg.cell 0;have k1:V.cell? ⟨bg,1,none⟩=some (.int .i64 at_):=hsg.cell 1;have ne1:bg≠B0+1:=by have:=HS1.out.lt;have:=hb1.size;omega
 have y0:V.cell? ⟨B0+1,0,none⟩=some (.int .i64 0):=HX1.out.cell 0;have y1:V.cell? ⟨B0+1,1,none⟩=some (.int .i64 0):=HX1.out.cell 1;have f0:=HX1.out.free 0;have f1:=HX1.out.free 1;have HVV:=Hi hV;have e0:(c != 0)=true:=by simpa using HC0.out
 rw[←hV,←hbg] at k0 k1;rw[←hV] at y0 y1 f0 f1;rw[←hbg] at ne1;clear hV hbg hsg hbV hff hb1;go_wp2;go_region
 all_goals
  go_wp2;rw[HVV.out];refine bodyPost_ret (Qcv rfl _ _ (B0+1) 31 #[.int .i64 c,.int .i64 at_] (0,0) _ rfl ((HX1.out.set 0 _).set 1 _) Tryz.underlying31 rfl Tryz.faultInfo) rfl ?_;exact⟨rfl,((HBV.out.setCell (p:=⟨B0+1,0,none⟩) hle _).setCell (p:=⟨B0+1,1,none⟩) hle _).drew⟩
set_option maxRecDepth 100000 in
set_option maxHeartbeats 2000000 in
theorem Qo3(a1 a2 a3 aq:Option Addr)(c1 c2 c3 nq cq:Nat)(js:List S2)(bs:List B6)(hs:List H3)(c at_:Int)(w:World)(hg:Glob w)(hf:FrRow w a1 a2 a3 c1 c2 c3 js bs hs)(hz:FrSized js bs hs)(hff:FrameFault js bs hs c at_)(hc:c≠0):
 Calls Tryz.prog 9 #[.agg #[.slice a1 js.length c1,.slice a2 bs.length c2,.slice a3 hs.length c3],.slice aq nq cq] w fun e w'=>e=.returned (.tuple #[.slice none 0 0,.agg #[.int .i64 c,.int .i64 at_]])∧Below w.heap.size w w':=by
 have HG:=Hi hg;have HF:=Hi hf;have HZ:=Hi hz;have HFF:=Hi hff;have HC0:=Hi hc;clear hg hf hz hff hc;obtain⟨B0,hB0⟩:∃B0,w.heap.size=B0:=⟨_,rfl⟩;obtain⟨V0,hV0⟩:∃V0,(w.alloc (.cells #[.slice a1 js.length c1,.slice a2 bs.length c2,.slice a3 hs.length c3] 26)).alloc (.cells #[.int .i64 0,.int .i64 0] 31)=V0:=⟨_,rfl⟩;have HBV0:Hid (Below w.heap.size w V0):=Hi (by rw[←hV0];exact Below.new2 w _ _);have HS1:Hid (SB V0 (B0+1) 31 #[.int .i64 0,.int .i64 0]):=Hi (by rw[←hV0,←hB0];exact SB.new2 w _ _ _ _);have HVE:=Hi hV0;have HB0:=Hi hB0;have hle:w.heap.size≤B0+1:=by omega
 have HCK:=Hi (Qcw a1 a2 a3 c1 c2 c3 js bs hs V0 (HG.out.below HBV0.out) (HF.out.below HBV0.out) HZ.out);clear hV0 hB0;go_enter Tryz.func9,Tryz.ntmps9;go_wp2_with fail;rw[HVE.out,HB0.out];clear HVE;go_fit HCK.out;rintro e w1 ⟨c',at',rfl,hff,hb1⟩;obtain⟨e1,e2⟩:=HFF.out.inj hff;obtain rfl:=e1;obtain rfl:=e2;obtain⟨V,hV⟩:∃V,w1.alloc (.cells #[.int .i64 c,.int .i64 at_] 31)=V:=⟨_,rfl⟩;have hbV:Below V0.heap.size V0 V:=by rw[←hV];exact hb1.alloc hb1.size _
 have HX1:=Hi (HS1.out.below hbV HS1.out.lt);have HBV:=Hi (HBV0.out.trans (hbV.mono HBV0.out.size));obtain⟨bg,hbg⟩:∃bg,w1.heap.size=bg:=⟨_,rfl⟩;have hsg:SB V bg 31 #[.int .i64 c,.int .i64 at_]:=by rw[←hV,←hbg];exact SB.new w1 _ _
 have k0:V.cell? ⟨bg,0,none⟩=some (.int .i64 c):=hsg.cell 0;have k1:V.cell? ⟨bg,1,none⟩=some (.int .i64 at_):=hsg.cell 1;have ne1:bg≠B0+1:=by have:=HS1.out.lt;have:=hb1.size;omega
 have y0:V.cell? ⟨B0+1,0,none⟩=some (.int .i64 0):=HX1.out.cell 0;have y1:V.cell? ⟨B0+1,1,none⟩=some (.int .i64 0):=HX1.out.cell 1;have f0:=HX1.out.free 0;have f1:=HX1.out.free 1;have HVV:=Hi hV;have e0:(c != 0)=true:=by simpa using HC0.out
 rw[←hV,←hbg] at k0 k1;rw[←hV] at y0 y1 f0 f1;rw[←hbg] at ne1;clear hV hbg hsg hbV hff hb1;go_wp2;go_region
 all_goals
  go_wp2;rw[HVV.out];refine bodyPost_ret (Qcv rfl _ _ (B0+1) 31 #[.int .i64 c,.int .i64 at_] (0,0) _ rfl ((HX1.out.set 0 _).set 1 _) Tryz.underlying31 rfl Tryz.faultInfo) rfl ?_;exact⟨rfl,((HBV.out.setCell (p:=⟨B0+1,0,none⟩) hle _).setCell (p:=⟨B0+1,1,none⟩) hle _).drew⟩
set_option maxRecDepth 100000 in
set_option maxHeartbeats 2000000 in
theorem Qo4(a1 a2 a3 aq:Option Addr)(c1 c2 c3 nq cq:Nat)(js:List S2)(bs:List B6)(hs:List H3)(w:World)(hg:Glob w)(hf:FrRow w a1 a2 a3 c1 c2 c3 js bs hs)(hz:FrSized js bs hs)(hff:FrameFault js bs hs 0 0)(hc:nq≠bs.length):
 Calls Tryz.prog 9 #[.agg #[.slice a1 js.length c1,.slice a2 bs.length c2,.slice a3 hs.length c3],.slice aq nq cq] w fun e w'=>e=.returned (.tuple #[.slice none 0 0,.agg #[.int .i64 10,.int .i64 ((bs.length:Int)+(hs.length:Int))]])∧Below w.heap.size w w':=by
 have HFW:=Hi hff.few.1;have HG:=Hi hg;have HF:=Hi hf;have HZ:=Hi hz;have HFF:=Hi hff;clear hg hf hz hff;obtain⟨B0,hB0⟩:∃B0,w.heap.size=B0:=⟨_,rfl⟩;obtain⟨V0,hV0⟩:∃V0,(w.alloc (.cells #[.slice a1 js.length c1,.slice a2 bs.length c2,.slice a3 hs.length c3] 26)).alloc (.cells #[.int .i64 0,.int .i64 0] 31)=V0:=⟨_,rfl⟩;have HBV0:Hid (Below w.heap.size w V0):=Hi (by rw[←hV0];exact Below.new2 w _ _);have HS0:Hid (SB V0 B0 26 #[.slice a1 js.length c1,.slice a2 bs.length c2,.slice a3 hs.length c3]):=Hi (by
  rw[←hV0,←hB0]
  exact(SB.new w _ _).below ((Below.refl _ _).alloc (Nat.le_refl _) _) (by rw[World.size_alloc];omega))
 have HS1:Hid (SB V0 (B0+1) 31 #[.int .i64 0,.int .i64 0]):=Hi (by rw[←hV0,←hB0];exact SB.new2 w _ _ _ _);have HVE:=Hi hV0;have HB0:=Hi hB0;have hle:w.heap.size≤B0+1:=by omega
 have HCK:=Hi (Qcw a1 a2 a3 c1 c2 c3 js bs hs V0 (HG.out.below HBV0.out) (HF.out.below HBV0.out) HZ.out);have q1:((nq:Int) != (bs.length:Int))=true:=by simp;omega
 have hlb:bs.length≤24:=by have:=HFW.out;unfold Many at this;omega
 have hlh:hs.length≤20:=by have:=HFW.out;unfold Many at this;omega
 have HLB:=Hi hlb;have HLH:=Hi hlh;clear hV0 hB0 hc;go_enter Tryz.func9,Tryz.ntmps9;go_wp2_with fail;rw[HVE.out,HB0.out];clear HVE;go_fit HCK.out;rintro e w1 ⟨c',at',rfl,hff,hb1⟩;obtain⟨rfl,rfl⟩:=hff.inj HFF.out;obtain⟨V,hV⟩:∃V,w1.alloc (.cells #[.int .i64 0,.int .i64 0] 31)=V:=⟨_,rfl⟩;have hbV:Below V0.heap.size V0 V:=by rw[←hV];exact hb1.alloc hb1.size _
 have HX0:=Hi (HS0.out.below hbV HS0.out.lt);have HX1:=Hi (HS1.out.below hbV HS1.out.lt);have HBV:=Hi (HBV0.out.trans (hbV.mono HBV0.out.size));have y0:V.cell? ⟨B0,0,none⟩=some (.slice a1 js.length c1):=HX0.out.cell 0;have y1:V.cell? ⟨B0,1,none⟩=some (.slice a2 bs.length c2):=HX0.out.cell 1;have y2:V.cell? ⟨B0,2,none⟩=some (.slice a3 hs.length c3):=HX0.out.cell 2;have HVV:=Hi hV;rw[←hV] at y0 y1 y2;clear hV hbV hff hb1;go_wp2_with fail;rw[HVV.out];refine(Qru a1 a2 a3 c1 c2 c3 js.length bs.length hs.length V HLB.out HLH.out).mono ?_;rintro e w2 ⟨rfl,hb2⟩;have hx1:=HX1.out.below hb2 HX1.out.lt;have z0:w2.cell? ⟨B0+1,0,none⟩=some (.int .i64 0):=hx1.cell 0;have z1:w2.cell? ⟨B0+1,1,none⟩=some (.int .i64 0):=hx1.cell 1;have f0:=hx1.free 0;have f1:=hx1.free 1;have HX2:=Hi hx1;have HB2:=Hi (HBV.out.trans (hb2.mono HBV.out.size));clear hx1 hb2 y0 y1 y2;go_wp2
 refine bodyPost_ret (Qcv rfl _ _ (B0+1) 31 #[.int .i64 10,.int .i64 ((bs.length:Int)+(hs.length:Int))] (0,0) _ rfl ((HX2.out.set 0 _).set 1 _) Tryz.underlying31 rfl Tryz.faultInfo) rfl ?_;exact⟨rfl,(HB2.out.setCell (p:=⟨B0+1,0,none⟩) hle _).setCell (p:=⟨B0+1,1,none⟩) hle _⟩
def FlAt(w:World)(a:Option Addr)(n:Nat)(φ:Nat→Nat→Prop):Prop:=∀i,i<n→∃g r,a=some ⟨g,0,none⟩∧g<w.heap.size∧w.cell? ⟨g,i,none⟩=some (.float .f64 r)∧φ i r
theorem FlAt.stay(a:Option Addr)(n:Nat)(φ:Nat→Nat→Prop):Stay (fun w=>FlAt w a n φ):=⟨fun _ _ hb h i hi=>by
 obtain⟨g,r,e,hg,hc,hp⟩:=h i hi
 exact⟨g,r,e,Nat.lt_of_lt_of_le hg hb.size,(hb.cell (p:=⟨g,i,none⟩) hg).trans hc,hp⟩⟩
def NRr(q:Rat)(r:Nat):Prop:=r≤9218868437227405312∧∀N,N=1074→Nea.Near (q*((4 ^ N:Nat):Rat)) r
def PUr(p q:Rat)(r:Nat):Prop:=(0≤p.num→NRr (p*p*q) r)∧(p.num<0→∃s,r=9223372036854775808+s∧NRr (p*p*q) s)
theorem PU.r{p q:Rat}{r:Nat}{w:World}(h:PU p q (.float .f64 r) w):PUr p q r:=by
 refine⟨fun h0=>?_,fun h0=>?_⟩
 ·
  rcases Int.lt_or_eq_of_le h0 with h1|h1
  ·
   obtain⟨s,e,h2,h3⟩:=h.2.1 h1;cases e;exact⟨h2,h3⟩
  ·
   have e:=h.1 h1.symm;cases e;have hp:p=0:=Rat.num_eq_zero.1 h1.symm;subst hp;rw[Rat.zero_mul,Rat.zero_mul];exact⟨Nat.zero_le _,fun N _=>Qo1⟩
 ·
  obtain⟨s,e,t,e2,h2,h3⟩:=h.2.2 h0;cases e;cases e2;exact⟨_,rfl,h2,h3⟩
theorem Qo5{x y:Rat}(h:¬(x=0∧y=0)):0<x*x+y*y:=by
 have sq:∀z:Rat,z≠0→0<z*z:=fun z hz=>by
  have:=Qev (p:=z) (q:=1) (fun e=>hz (Rat.num_eq_zero.1 e)) (by decide)
  rwa [Rat.mul_one] at this
 by_cases hx:x=0
 ·
  have:=sq y (fun e=>h ⟨hx,e⟩);subst hx;grind
 ·
  have h1:=sq x hx;by_cases hy:y=0
  · subst hy
    grind
  · have h2:=sq y hy
    grind
theorem Qo6{js:List S2}{bs:List B6}{hs:List H3}(hz:FrSized js bs hs){x:Int}(h:FrameFault js bs hs 0 x):∃F:Nat→Nat × Nat × Rat × Rat,∀i b,bs[i]?=some b→BarV 1048576 js b (F i)∧Leng js b ((F i).2.2.1*(F i).2.2.1+(F i).2.2.2*(F i).2.2.2):=by
 obtain⟨hm,hb,_,_⟩:=h.few;have exb:∀i:Nat,∃p:Nat × Nat × Rat × Rat,∀b,bs[i]?=some b→BarV 1048576 js b p∧Leng js b (p.2.2.1*p.2.2.1+p.2.2.2*p.2.2.2):=fun i=>by
  rcases hi:bs[i]? with _|b
  · exact⟨(0,0,0,0),fun b hb=>by cases hb⟩
  ·
   obtain⟨p,hp,_,_,hne⟩:=Qki hz (hb i b hi);refine⟨p,fun b' e=>?_⟩;cases e;refine⟨hp,?_⟩;obtain⟨s,t,x1,y1,x2,y2,e1,e2,_,_,_,_,q1,q2,q3,q4,e3,e4⟩:=hp.ex;refine⟨Qo5 hne,p.1,p.2.1,s,t,x1,y1,x2,y2,hp.a,hp.b,e1,e2,q1,q2,q3,q4,by rw[e3,e4]⟩
 exact Classical.axiomOfChoice exb
def LongC(w:World)(n:Nat)(c at_:Int)(L:Nat→Rat)(e:Ending)(w':World):Prop:=∃(a:Option Addr) (m:Nat),e=.returned (.tuple #[.slice a m m,.agg #[.int .i64 c,.int .i64 at_]])∧(c≠0→m=0)∧(c=0→m=n)∧FlAt w' a m (fun i r=>NRr (L i) r)∧Below w.heap.size w w'
theorem Qhy(a1 a2 a3:Option Addr)(c1 c2 c3:Nat)(js:List S2)(bs:List B6)(hs:List H3)(c at_:Int)(L:Nat→Rat)(w:World)(hg:Glob w)(hf:FrRow w a1 a2 a3 c1 c2 c3 js bs hs)(hz:FrSized js bs hs)(hff:FrameFault js bs hs c at_)(hL:c=0→∀i b,bs[i]?=some b→Leng js b (L i)):
 Calls Tryz.prog 4 #[.agg #[.slice a1 js.length c1,.slice a2 bs.length c2,.slice a3 hs.length c3]] w (LongC w bs.length c at_ L):=by
 by_cases hc:c=0
 ·
  subst hc;have hfew:=hff.few;obtain rfl:=hfew.2.2.2;have hm:=hfew.1;unfold Many at hm;refine(Qob a1 a2 a3 c1 c2 c3 js bs hs L w hg hf hz hff (by omega) (by omega) (hL rfl)).mono ?_;rintro e w' ⟨g,rs,rfl,hl,hsb,hn,hb⟩;refine⟨_,_,rfl,fun h=>absurd rfl h,fun _=>rfl,fun i hi=>?_,hb⟩;have h1:=hsb.floatAt i;rw[List.getElem?_eq_getElem (by omega)] at h1;obtain⟨r,e,h2,h3⟩:=hn i _ (List.getElem?_eq_getElem (by omega));cases e;exact⟨g,_,rfl,hsb.lt,h1,h2,h3⟩
 ·
  refine(Qo2 a1 a2 a3 c1 c2 c3 js bs hs c at_ w hg hf hz hff hc).mono ?_;rintro e w' ⟨rfl,hb⟩;exact⟨none,0,rfl,fun _=>rfl,fun h=>absurd h hc,fun i hi=>absurd hi (by omega),hb⟩
theorem Qo7(a1 a2 a3 aq:Option Addr)(c1 c2 c3 cq nq:Nat)(js:List S2)(bs:List B6)(hs:List H3)(ts:List ByteArray)(c at_ d dt:Int)(L S:Nat→Rat)(w:World)(hg:Glob w)(hf:FrRow w a1 a2 a3 c1 c2 c3 js bs hs)(hz:FrSized js bs hs)(hff:FrameFault js bs hs c at_)(hL:c=0→∀i b,bs[i]?=some b→Leng js b (L i))
 (hT:TRow w aq ts) (hn:ts.length=nq) (hQ:∀i s,ts[i]?=some s→QOf s.data.toList (S i)∧s.size≤1048576) (hd:(c≠0→d=c∧dt=at_)∧(c=0→nq≠bs.length→d=10∧dt=(bs.length:Int)+(hs.length:Int))∧(c=0→nq=bs.length→d=0∧dt=0)):
 Calls Tryz.prog 9 #[.agg #[.slice a1 js.length c1,.slice a2 bs.length c2,.slice a3 hs.length c3],.slice aq nq cq] w fun e w'=>∃(a:Option Addr) (m:Nat),e=.returned (.tuple #[.slice a m m,.agg #[.int .i64 d,.int .i64 dt]])∧(d≠0→m=0)∧(d=0→m=bs.length)∧FlAt w' a m (fun i r=>PUr (S i) (L i) r)∧Below w.heap.size w w':=by
 by_cases hc:c=0
 ·
  subst hc;have hfew:=hff.few;obtain rfl:=hfew.2.2.2;have hm:=hfew.1;unfold Many at hm;by_cases hq:nq=bs.length
  ·
   obtain⟨rfl,rfl⟩:=hd.2.2 rfl hq;subst hn;refine(Qoc a1 a2 a3 c1 c2 c3 js bs hs L S aq cq ts w hg hf hz hff (by omega) (by omega) (hL rfl) hT hq hQ).mono ?_;rintro e w' ⟨g,rs,rfl,hl,hsb,hn,hb⟩;refine⟨_,_,rfl,fun h=>absurd rfl h,fun _=>rfl,fun i hi=>?_,hb⟩;have h1:=hsb.floatAt i;rw[List.getElem?_eq_getElem (by omega)] at h1;exact⟨g,_,rfl,hsb.lt,h1,(hn i _ (List.getElem?_eq_getElem (by omega))).r⟩
  ·
   obtain⟨rfl,rfl⟩:=hd.2.1 rfl hq;refine(Qo4 a1 a2 a3 aq c1 c2 c3 nq cq js bs hs w hg hf hz hff hq).mono ?_;rintro e w' ⟨rfl,hb⟩;exact⟨none,0,rfl,fun _=>rfl,fun h=>absurd h (by decide),fun i hi=>absurd hi (by omega),hb⟩
 ·
  obtain⟨rfl,rfl⟩:=hd.1 hc;refine(Qo3 a1 a2 a3 aq c1 c2 c3 nq cq js bs hs d dt w hg hf hz hff hc).mono ?_;rintro e w' ⟨rfl,hb⟩;exact⟨none,0,rfl,fun _=>rfl,fun h=>absurd h hc,fun i hi=>absurd hi (by omega),hb⟩
set_option maxRecDepth 100000 in
theorem Qo8(a b:Option Addr)(n c d:Nat)(R:Nat)(w:World)(hu:FlAt w a n (fun _ r=>r=R))(hv:FlAt w b n (fun _ r=>r=R))(hR:R≤9218868437227405312)(hs:n≤1000000):
 Calls Tryz.prog 6 #[.slice a n c,.slice b n d] w fun e w'=>e=.returned (.bool true)∧Below w.heap.size w w':=by
 have HC:=Hi hu;have HD:=Hi hv;have z1:=o_ne (a:=R) (b:=R) hR hR;rw[decide_eq_false (by simp)] at z1;clear hu hv hR;go_enter Tryz.func6,Tryz.ntmps6;go_wp2_with fail;go_loopw [13] (fun iv wr=>∃i:Nat,i≤n∧iv=.int .i64 i∧Below w.heap.size w wr) (fun iv _=>n - (intOf iv).toNat)
 case atStart=>exact⟨0,by omega,rfl,Below.refl _ _⟩
 case round=>
  obtain⟨i,hi,rfl,hb⟩:=hrel;have HB:=Hi hb;by_cases hie:i<n
  ·
   obtain⟨b1,r1,rfl,h1,d1,rfl⟩:=HC.out i hie;obtain⟨b2,r2,rfl,h2,d2,hr⟩:=HD.out i hie;subst hr;have d1':wr.cell? ⟨b1,i,none⟩=some (.float .f64 r2):=(hb.cell (p:=⟨b1,i,none⟩) h1).trans d1;have d2':wr.cell? ⟨b2,i,none⟩=some (.float .f64 r2):=(hb.cell (p:=⟨b2,i,none⟩) h2).trans d2;have q3:((i:Int)<(n:Int)):=by omega
   clear d1 d2 hb h1 h2;go_wp2_with fail;go_region;go_wp2;go_roundw
   case rel=>exact⟨i+1,by omega,by go_num,HB.out.drew⟩
   case measure=>simp[intOf];omega
  ·
   obtain rfl:i=n:=by omega
   clear hb;go_wp2;go_ret;exact⟨rfl,HB.out⟩
end Go.Proofs.YtodfmpjhcmapmaaGreatDoor
