/- The law ArchStands, walked. -/
import Derived.Test.YtldjeecnapgakaaGreatDoorS47ArkW
namespace Go.Proofs.YtldjeecnapgakaaGreatDoor
open Go.RowKit
set_option linter.unusedVariables false
set_option linter.unusedSimpArgs false
theorem Qfw:∀(l:List ByteArray),textsV l=l.flatMap tc
 | []=>rfl
 |a :: l=>by
  have ih:=Qfw l;unfold textsV at ih ⊢;rw[List.map_cons,List.flatMap_cons,ih];rfl
theorem Qfx{w:World}{g cap:Nat}{t:TypeId}{l:List ByteArray}(h:SB w g t (textsV l).toArray)(hl:l.length≤cap):ARow tc w (some ⟨g,0,none⟩) cap l:=
 SB.arowV h (Qfw l) hl
theorem Qkw(part:Int):∃x:Nat,x≤8∧(wrap64 (part.tmod 9+9)).tmod 9=(x:Int):=by
 have h1: -9<part.tmod 9∧part.tmod 9<9:=by
  rcases Int.le_total 0 part with h|h
  · rw[Int.tmod_eq_emod_of_nonneg h]
    omega
  ·
   obtain⟨q,rfl⟩:∃q,part= -q:=⟨-part,by omega⟩;rw[Int.neg_tmod,Int.tmod_eq_emod_of_nonneg (by omega)];omega
 have h2:wrap64 (part.tmod 9+9)=part.tmod 9+9:=by
  unfold wrap64;omega
 rw[h2,Int.tmod_eq_emod_of_nonneg (by omega)];exact⟨((part.tmod 9+9) % 9).toNat,by omega,by omega⟩
set_option maxRecDepth 100000 in
set_option maxHeartbeats 8000000 in
theorem Qkx(al am:Option Addr)(cl cm n1:Nat)(ss:List T4)(vs:List V4)(sa sb:ByteArray)(part:Int)(ms:List ByteArray)(w:World)(hg:Glob w)(hr:ARow T4.cells w al cl ss)(hv:StonesV ss vs)(hvf:VFits (4*n1+1) vs)(hn:ss.length≤1048576)(hm:ARow tc w am cm ms)(hml:ms.length≤1048576)(hsum:n1+sa.size+sb.size≤1048576)
 (hlow:∀(i:Nat) (s:T4) (m:ByteArray),ss[i]?=some s→ms[i]?=some m→s.l.size+m.size≤1048576∧s.h.size+m.size≤1048576):
 Calls Tryz.prog 4 #[.slice al ss.length cl,.string sa,.string sb,.int .i64 part,.slice am ms.length cm] w fun e w'=>e=.returned (.bool true)∧Below w.heap.size w w':=by
 obtain⟨qa,hqa⟩:=QOf.ex sa.data.toList;obtain⟨qb,hqb⟩:=QOf.ex sb.data.toList;have HG:=Hi hg;have HRW:=Hi hr;have HV:=Hi hv;have HVF:=Hi hvf;have HVL:=Hi hv.len;have HM:=Hi hm;have HQA:=Hi hqa;have HQB:=Hi hqb;have HFA:=Hi hqa.fitsS;have HFB:=Hi hqb.fitsS;have HLO:=Hi hlow;clear hg hr hv hvf hm hqa hqb hlow;go_enter Tryz.func4,Tryz.ntmps4;go_wp2_with fail;refine(Qkj w HG.out).mono ?_;rintro e w1 ⟨rfl,hb1⟩;have HB1:=Hi hb1;clear hb1;go_wp2_with fail;refine(Qcp al cl 4194400 (4*sa.size+1) ss vs sa qa w1 (HG.out.below HB1.out) (HRW.out.below HB1.out) HV.out hn HQA.out (by omega) HFA.out (by omega) (by decide) (by decide) (by omega)).mono ?_;rintro e w2 ⟨hs,hb2⟩;obtain⟨x,c1,c2,rfl,hsa⟩:=Qd6 hs;have HSA:=Hi hsa;clear hs hsa;obtain⟨b12,hb12⟩:∃b,w2.heap.size=b:=⟨_,rfl⟩;obtain⟨V2,hV2⟩:∃V,w2.alloc (.cells #[.int .i64 c1,.int .i64 c2] 32)=V:=⟨_,rfl⟩
 have h2v:Below w2.heap.size w2 V2:=by rw[←hV2];exact(Below.refl _ _).alloc (Nat.le_refl _) _
 have HS12:Hid (SB V2 b12 32 #[.int .i64 c1,.int .i64 c2]):=Hi (by rw[←hV2,←hb12];exact SB.new w2 _ _);have HB2:=Hi (HB1.out.trans (hb2.mono HB1.out.size));have HBV2:=Hi (HB2.out.trans (h2v.mono HB2.out.size));have H2V:=Hi h2v;have HV2:=Hi hV2;have HB12:=Hi hb12;have hb12w:w.heap.size≤b12:=by rw[←hb12];exact HB2.out.size
 clear hb2 h2v hV2 hb12;go_wp2_with fail;rw[HV2.out];simp only[HB12.out];refine(Qcp al cl 4194400 (4*sb.size+1) ss vs sb qb V2 (HG.out.below HBV2.out) (HRW.out.below HBV2.out) HV.out hn HQB.out (by omega) HFB.out (by omega) (by decide) (by decide) (by omega)).mono ?_;rintro e w3 ⟨hs,hb3⟩;obtain⟨y,d1,d2,rfl,hsb⟩:=Qd6 hs;have HSB:=Hi hsb;clear hs hsb;obtain⟨b14,hb14⟩:∃b,w3.heap.size=b:=⟨_,rfl⟩;obtain⟨V3,hV3⟩:∃V,w3.alloc (.cells #[.int .i64 d1,.int .i64 d2] 32)=V:=⟨_,rfl⟩;have h3v:Below w3.heap.size w3 V3:=by rw[←hV3];exact(Below.refl _ _).alloc (Nat.le_refl _) _
 have HS14:Hid (SB V3 b14 32 #[.int .i64 d1,.int .i64 d2]):=Hi (by rw[←hV3,←hb14];exact SB.new w3 _ _);have HV23:Hid (Below V2.heap.size V2 V3):=Hi (hb3.trans (h3v.mono hb3.size));have HBV3:=Hi (HBV2.out.trans (HV23.out.mono HBV2.out.size));have HS123:=Hi (HS12.out.below HV23.out HS12.out.lt);have h1214:b12<b14:=by rw[←hb14];exact Nat.lt_of_lt_of_le HS12.out.lt hb3.size
 obtain⟨k0,k1⟩:=Qan HS123.out;rw[←hV3] at k0 k1;have HV3:=Hi hV3;have HB14:=Hi hb14;clear hb3 h3v hV3 hb14;by_cases hc:c1=0
 ·
  obtain⟨hA0,hqn,i,j,gx,ls,hij,hj,hfit,hxe,hgx,hll,hsx,htx⟩:(archF vs).1=0∧¬qa<0∧∃(i j g:Nat) (ls:List ByteArray),i<j∧j<vs.length∧fitsTo vs (lnC vs qa i j) vs.length∧x=.slice (some ⟨g,0,none⟩) vs.length vs.length∧w1.heap.size≤g∧ls.length=vs.length∧SB w2 g 23 (textsV ls).toArray∧∀(k:Nat) (s:ByteArray),ls[k]?=some s→QText s.data.toList (lnC vs qa i j k):=by
   rcases HSA.out with ⟨h,_⟩|⟨_,h⟩
   · exact absurd hc h
   · exact h
  subst hc;subst hxe;obtain⟨hn2,hn10⟩:=Qaz hA0;have hv10:=hn10;rw[HVL.out] at hn2 hn10;obtain⟨ad,rfl⟩:∃ad,al=some ad:=by
   obtain⟨b,off,h,_⟩:=HRW.out.stone (i:=0) (e:=ss[0]'(by omega)) (List.getElem?_eq_getElem _);exact⟨_,h⟩
  have HA0:=Hi hA0;have HQN:=Hi hqn;have HFI:=Hi hfit;have HTX:=Hi htx;have HLL:=Hi hll;have hsx2:=hsx.below H2V.out hsx.lt;have HSX:=Hi (hsx2.below HV23.out hsx2.lt);have hgV:gx<V3.heap.size:=HSX.out.lt;have hgxb:gx<b12:=by rw[←HB12.out];exact hsx.lt
  clear hA0 hqn hfit htx hll hsx hsx2 HSA;rw[HVL.out] at hj;simp only[HVL.out];go_wp2_with fail;rw[HV3.out];simp only[HB14.out];refine(Qks ad cl ss V3 (HRW.out.below HBV3.out) (by omega) hn10).mono ?_;rintro e w5 ⟨⟨g,cap',rfl,hgw,hW⟩,hb5⟩;have HW5:=Hi hW;have HB5:=Hi hb5;clear hW hb5 k0 k1;go_wp2_with fail;go_loopw [46] (fun iv wr=>∃(k:Nat) (es:List T4) (us:List V4),k≤ss.length∧iv=.int .i64 k∧WAt wr g cap' es∧WideI ss es vs us k∧Below V3.heap.size V3 wr) (fun iv _=>ss.length - (intOf iv).toNat)
  case atStart=>exact⟨0,ss,vs,Nat.zero_le _,rfl,HW5.out,⟨HV.out,Wider.refl vs,rfl,fun i _=>⟨rfl,rfl⟩⟩,HB5.out⟩
  case round=>
   obtain⟨k,es,us,hk,rfl,hW,hI,hbr⟩:=hrel;have HW:=Hi hW;have HI:=Hi hI;have HBR:=Hi hbr;clear hW hI hbr HW5 HB5;by_cases hkn:k<ss.length
   ·
    obtain⟨e,he⟩:∃e,ss[k]?=some e:=⟨ss[k],List.getElem?_eq_getElem hkn⟩;obtain⟨v,hv⟩:∃v,vs[k]?=some v:=⟨vs[k]'(by have:=HVL.out;omega),List.getElem?_eq_getElem _⟩;have HEK:=Hi ((HI.out.old k (Nat.le_refl _)).1.trans he);have HSV:=Hi (HV.out.each k e v he hv);have HEE:=Hi he;have HVE:=Hi hv;have q1:((k:Int)<(ss.length:Int)):=by omega
    have HBW:=Hi (HBV3.out.trans (HBR.out.mono HBV3.out.size));clear hv;rcases Nat.lt_or_ge k ms.length with hkm|hkm
    ·
     obtain⟨mk,hmk⟩:∃m,ms[k]?=some m:=⟨ms[k],List.getElem?_eq_getElem hkm⟩;obtain⟨hz1,hz2⟩:=HLO.out k e mk he hmk;obtain⟨mb,mo,rfl,hmlt,hcm⟩:=HM.out.text hmk;obtain⟨qm,hqm⟩:=QOf.ex mk.data.toList;have HQM:Hid (QOf mk.data.toList qm∧mk.size≤1073741824∧Fits qm (4*mk.size+1)):=Hi ⟨hqm,by omega,hqm.fitsS⟩;have HCM:=Hi hcm;have cx:=(HBW.out.cell (p:=⟨mb,mo+k,none⟩) hmlt).trans hcm;have q2:((k:Int)<(ms.length:Int)):=by omega
     clear hcm hqm hmk he;go_wp2_with fail;clear cx;refine Makes.use (RF.of (HG.out.below HBW.out) HQM.out.1 HQM.out.2.1 HQM.out.2.2 (by omega)) ?_;intro vm w6 hb6 hvm;have HVM:=Hi hvm;have HB6:=Hi hb6;clear hvm hb6;go_wp2_with fail;refine Makes.use (RF.sign HVM.out) ?_;rintro _ w7 hb7 rfl;obtain⟨σ,hσ⟩:∃σ,sgn3 qm.num=σ:=⟨_,rfl⟩;rw[hσ];have HB7:=Hi (HB6.out.trans (hb7.mono HB6.out.size));clear hb7 HVM HB6;by_cases hs:0<σ
     ·
      have e1:decide (0<σ)=true:=decide_eq_true hs;have HPM:Hid (0<qm):=Hi (by
       have h1:=Qfo qm;rw[hσ] at h1
       exact Rat.not_le.1 (fun h=>by have:=h1.2 h;omega))
      clear hs hσ;obtain⟨Y,hY⟩:∃Y,w7.drew=Y:=⟨_,rfl⟩;have hby:Below wr.heap.size wr Y:=by rw[←hY];exact HB7.out.drew
      have HWY:=Hi (HW.out.below hby);have HVY:=Hi (HBR.out.trans (hby.mono HBR.out.size));have HBY:=Hi (HBW.out.trans (hby.mono HBW.out.size));have HGY:=Hi (HG.out.below HBY.out);have HQL:Hid (QOf e.l.data.toList v.2.2.1∧e.l.size≤1073741824∧Fits v.2.2.1 (4*e.l.size+1)):=Hi ⟨HSV.out.l,HSV.out.zl.1,HSV.out.l.fitsS⟩;have HYE:=Hi hY;clear hY hby HW HB7 HBW;go_wp2_with fail;refine RegG.begin 17 (fun j=>some (62+j)) (by kernel_rfl) (by kernel_rfl) (by kernel_rfl) rfl ?_;rw[HYE.out];refine RegG.is (c:=?_) [] (by simp only[List.nil_append,List.cons_append,List.length_append,List.length_cons,List.length_nil,Nat.reduceAdd];exact rfl) (by simp only[List.getElem?_toArray,List.getElem?_cons_zero,List.getElem?_cons_succ];exact rfl) (by kernel_rfl) (fun w hb=>?_) ?_;rotate_left
      ·
       simp only[Given,List.nil_append,List.cons_append,List.getD_cons_zero,List.getD_cons_succ,Qaa,Act.put,List.setIfInBounds_toArray,List.set_cons_zero,List.set_cons_succ,Nat.reduceAdd,Nat.reduceBEq,cond_true,cond_false];intro K hK;skip;go_simp;exact hK
      refine RegG.is (c:=?_) [] (by simp only[List.nil_append,List.cons_append,List.length_append,List.length_cons,List.length_nil,Nat.reduceAdd];exact rfl) (by simp only[List.getElem?_toArray,List.getElem?_cons_zero,List.getElem?_cons_succ];exact rfl) (by kernel_rfl) (fun w hb=>?_) ?_;rotate_left
      ·
       simp only[Given,List.nil_append,List.cons_append,List.getD_cons_zero,List.getD_cons_succ,Qaa,Act.put,List.setIfInBounds_toArray,List.set_cons_zero,List.set_cons_succ,Nat.reduceAdd,Nat.reduceBEq,cond_true,cond_false];intro K hK;skip;go_simp;exact hK
      refine RegG.is (c:=?_) [] (by simp only[List.nil_append,List.cons_append,List.length_append,List.length_cons,List.length_nil,Nat.reduceAdd];exact rfl) (by simp only[List.getElem?_toArray,List.getElem?_cons_zero,List.getElem?_cons_succ];exact rfl) (by kernel_rfl) (fun w hb=>?_) ?_;rotate_left
      ·
       simp only[Given,List.nil_append,List.cons_append,List.getD_cons_zero,List.getD_cons_succ,Qaa,Act.put,List.setIfInBounds_toArray,List.set_cons_zero,List.set_cons_succ,Nat.reduceAdd,Nat.reduceBEq,cond_true,cond_false];intro K hK;skip;go_simp;exact hK
      refine RegG.is (c:=?_) [] (by simp only[List.nil_append,List.cons_append,List.length_append,List.length_cons,List.length_nil,Nat.reduceAdd];exact rfl) (by simp only[List.getElem?_toArray,List.getElem?_cons_zero,List.getElem?_cons_succ];exact rfl) (by kernel_rfl) (fun w hb=>?_) ?_;rotate_left
      ·
       simp only[Given,List.nil_append,List.cons_append,List.getD_cons_zero,List.getD_cons_succ,Qaa,Act.put,List.setIfInBounds_toArray,List.set_cons_zero,List.set_cons_succ,Nat.reduceAdd,Nat.reduceBEq,cond_true,cond_false];intro K hK;skip;go_simp;exact hK
      refine RegG.is (c:=?_) [2,3] (by simp only[List.nil_append,List.cons_append,List.length_append,List.length_cons,List.length_nil,Nat.reduceAdd];exact rfl) (by simp only[List.getElem?_toArray,List.getElem?_cons_zero,List.getElem?_cons_succ];exact rfl) (by kernel_rfl) (fun w hb=>?_) ?_;rotate_left
      ·
       simp only[Given,List.nil_append,List.cons_append,List.getD_cons_zero,List.getD_cons_succ,Qaa,Act.put,List.setIfInBounds_toArray,List.set_cons_zero,List.set_cons_succ,Nat.reduceAdd,Nat.reduceBEq,cond_true,cond_false];intro K hK;skip;go_simp;exact hK
      refine RegG.is (c:=?_) [4] (by simp only[List.nil_append,List.cons_append,List.length_append,List.length_cons,List.length_nil,Nat.reduceAdd];exact rfl) (by simp only[List.getElem?_toArray,List.getElem?_cons_zero,List.getElem?_cons_succ];exact rfl) (by kernel_rfl) (fun w hb=>?_) ?_;rotate_left
      ·
       simp only[Given,List.nil_append,List.cons_append,List.getD_cons_zero,List.getD_cons_succ,Qaa,Act.put,List.setIfInBounds_toArray,List.set_cons_zero,List.set_cons_succ,Nat.reduceAdd,Nat.reduceBEq,cond_true,cond_false];intro K hK;skip;go_simp;exact hK
      refine RegG.is (c:=?_) [5] (by simp only[List.nil_append,List.cons_append,List.length_append,List.length_cons,List.length_nil,Nat.reduceAdd];exact rfl) (by simp only[List.getElem?_toArray,List.getElem?_cons_zero,List.getElem?_cons_succ];exact rfl) (by kernel_rfl) (fun w hb=>?_) ?_;rotate_left
      ·
       simp only[Given,List.nil_append,List.cons_append,List.getD_cons_zero,List.getD_cons_succ,Qaa,Act.put,List.setIfInBounds_toArray,List.set_cons_zero,List.set_cons_succ,Nat.reduceAdd,Nat.reduceBEq,cond_true,cond_false];intro K hK;have cx:=((HWY.out.below hb).cell HEK.out).1;go_simp;exact hK
      refine RegG.step (φ:=RF (v.2.2.1) (4*e.l.size+1)) [6] (by simp only[List.nil_append,List.cons_append,List.length_append,List.length_cons,List.length_nil,Nat.reduceAdd];exact rfl) (by simp only[List.getElem?_toArray,List.getElem?_cons_zero,List.getElem?_cons_succ];exact rfl) (by kernel_rfl) (RF.stays _ _) (fun w hb=>?_) ?_
      ·
       simp only[Given,List.nil_append,List.cons_append,List.getD_cons_zero,List.getD_cons_succ,Qaa,Act.put,List.setIfInBounds_toArray,List.set_cons_zero,List.set_cons_succ,Nat.reduceAdd,Nat.reduceBEq,cond_true,cond_false];skip;intro K hK;go_simp;exact Makes.use (RF.of (HGY.out.below hb) HQL.out.1 HQL.out.2.1 HQL.out.2.2 (by omega)) hK
      refine RegG.is (c:=?_) [] (by simp only[List.nil_append,List.cons_append,List.length_append,List.length_cons,List.length_nil,Nat.reduceAdd];exact rfl) (by simp only[List.getElem?_toArray,List.getElem?_cons_zero,List.getElem?_cons_succ];exact rfl) (by kernel_rfl) (fun w hb=>?_) ?_;rotate_left
      ·
       simp only[Given,List.nil_append,List.cons_append,List.getD_cons_zero,List.getD_cons_succ,Qaa,Act.put,List.setIfInBounds_toArray,List.set_cons_zero,List.set_cons_succ,Nat.reduceAdd,Nat.reduceBEq,cond_true,cond_false];intro K hK;skip;go_simp;exact hK
      refine RegG.is (c:=?_) [] (by simp only[List.nil_append,List.cons_append,List.length_append,List.length_cons,List.length_nil,Nat.reduceAdd];exact rfl) (by simp only[List.getElem?_toArray,List.getElem?_cons_zero,List.getElem?_cons_succ];exact rfl) (by kernel_rfl) (fun w hb=>?_) ?_;rotate_left
      ·
       simp only[Given,List.nil_append,List.cons_append,List.getD_cons_zero,List.getD_cons_succ,Qaa,Act.put,List.setIfInBounds_toArray,List.set_cons_zero,List.set_cons_succ,Nat.reduceAdd,Nat.reduceBEq,cond_true,cond_false];intro K hK;skip;go_simp;exact hK
      refine RegG.is (c:=?_) [8,9] (by simp only[List.nil_append,List.cons_append,List.length_append,List.length_cons,List.length_nil,Nat.reduceAdd];exact rfl) (by simp only[List.getElem?_toArray,List.getElem?_cons_zero,List.getElem?_cons_succ];exact rfl) (by kernel_rfl) (fun w hb=>?_) ?_;rotate_left
      ·
       simp only[Given,List.nil_append,List.cons_append,List.getD_cons_zero,List.getD_cons_succ,Qaa,Act.put,List.setIfInBounds_toArray,List.set_cons_zero,List.set_cons_succ,Nat.reduceAdd,Nat.reduceBEq,cond_true,cond_false];intro K hK;skip;go_simp;exact hK
      refine RegG.is (c:=?_) [10] (by simp only[List.nil_append,List.cons_append,List.length_append,List.length_cons,List.length_nil,Nat.reduceAdd];exact rfl) (by simp only[List.getElem?_toArray,List.getElem?_cons_zero,List.getElem?_cons_succ];exact rfl) (by kernel_rfl) (fun w hb=>?_) ?_;rotate_left
      ·
       simp only[Given,List.nil_append,List.cons_append,List.getD_cons_zero,List.getD_cons_succ,Qaa,Act.put,List.setIfInBounds_toArray,List.set_cons_zero,List.set_cons_succ,Nat.reduceAdd,Nat.reduceBEq,cond_true,cond_false];intro K hK;have cx:=(Below.cell hb (p:=⟨mb,mo+k,none⟩) (Nat.lt_of_lt_of_le hmlt HBY.out.size)).trans ((HBY.out.cell (p:=⟨mb,mo+k,none⟩) hmlt).trans HCM.out);go_simp;exact hK
      refine RegG.step (φ:=RF qm (4*mk.size+1)) [11] (by simp only[List.nil_append,List.cons_append,List.length_append,List.length_cons,List.length_nil,Nat.reduceAdd];exact rfl) (by simp only[List.getElem?_toArray,List.getElem?_cons_zero,List.getElem?_cons_succ];exact rfl) (by kernel_rfl) (RF.stays _ _) (fun w hb=>?_) ?_
      ·
       simp only[Given,List.nil_append,List.cons_append,List.getD_cons_zero,List.getD_cons_succ,Qaa,Act.put,List.setIfInBounds_toArray,List.set_cons_zero,List.set_cons_succ,Nat.reduceAdd,Nat.reduceBEq,cond_true,cond_false];skip;intro K hK;go_simp;exact Makes.use (RF.of (HGY.out.below hb) HQM.out.1 HQM.out.2.1 HQM.out.2.2 (by omega)) hK
      refine RegG.step (φ:=RF (v.2.2.1 - qm) ((4*e.l.size+1)+(4*mk.size+1)+1)) [7,12] (by simp only[List.nil_append,List.cons_append,List.length_append,List.length_cons,List.length_nil,Nat.reduceAdd];exact rfl) (by simp only[List.getElem?_toArray,List.getElem?_cons_zero,List.getElem?_cons_succ];exact rfl) (by kernel_rfl) (RF.stays _ _) (fun w hb=>?_) ?_
      ·
       simp only[Given,List.nil_append,List.cons_append,List.getD_cons_zero,List.getD_cons_succ,Qaa,Act.put,List.setIfInBounds_toArray,List.set_cons_zero,List.set_cons_succ,Nat.reduceAdd,Nat.reduceBEq,cond_true,cond_false];intro v7 h7 v12 h12;intro K hK;go_simp;exact Makes.use (RF.sub h7 h12 (by omega)) hK
      refine RegG.step (φ:=TF (v.2.2.1 - qm)) [13] (by simp only[List.nil_append,List.cons_append,List.length_append,List.length_cons,List.length_nil,Nat.reduceAdd];exact rfl) (by simp only[List.getElem?_toArray,List.getElem?_cons_zero,List.getElem?_cons_succ];exact rfl) (by kernel_rfl) (TF.stays _) (fun w hb=>?_) ?_
      ·
       simp only[Given,List.nil_append,List.cons_append,List.getD_cons_zero,List.getD_cons_succ,Qaa,Act.put,List.setIfInBounds_toArray,List.set_cons_zero,List.set_cons_succ,Nat.reduceAdd,Nat.reduceBEq,cond_true,cond_false];intro v13 h13;intro K hK;go_simp;exact Makes.use (RF.text h13 (by omega)) hK
      refine RegG.is (c:=?_) [0,1] (by simp only[List.nil_append,List.cons_append,List.length_append,List.length_cons,List.length_nil,Nat.reduceAdd];exact rfl) (by simp only[List.getElem?_toArray,List.getElem?_cons_zero,List.getElem?_cons_succ];exact rfl) (by kernel_rfl) (fun w hb=>?_) ?_;rotate_left
      ·
       simp only[Given,List.nil_append,List.cons_append,List.getD_cons_zero,List.getD_cons_succ,Qaa,Act.put,List.setIfInBounds_toArray,List.set_cons_zero,List.set_cons_succ,Nat.reduceAdd,Nat.reduceBEq,cond_true,cond_false];intro K hK;skip;go_simp;exact hK
      refine RegG.is (c:=?_) [15] (by simp only[List.nil_append,List.cons_append,List.length_append,List.length_cons,List.length_nil,Nat.reduceAdd];exact rfl) (by simp only[List.getElem?_toArray,List.getElem?_cons_zero,List.getElem?_cons_succ];exact rfl) (by kernel_rfl) (fun w hb=>?_) ?_;rotate_left
      ·
       simp only[Given,List.nil_append,List.cons_append,List.getD_cons_zero,List.getD_cons_succ,Qaa,Act.put,List.setIfInBounds_toArray,List.set_cons_zero,List.set_cons_succ,Nat.reduceAdd,Nat.reduceBEq,cond_true,cond_false];intro K hK;skip;go_simp;exact hK
      refine RegG.last (by simp only[List.nil_append,List.cons_append,List.length_append,List.length_cons,List.length_nil,Nat.reduceAdd]) (by rfl) (by rfl) (by kernel_rfl) (fun u9 hb=>?_);simp only[FinG,List.nil_append,List.cons_append,Qaa,Act.put,List.setIfInBounds_toArray,List.set_cons_zero,List.set_cons_succ,Nat.reduceAdd,Nat.reduceBEq,cond_true,cond_false];intro v7 _ v12 _ v13 _ v14 h14 K9 hK;obtain⟨t1,rfl,hs1⟩:=h14;have hw9:=HWY.out.below hb;have cx:=(hw9.cell HEK.out).1;have fx:=hw9.free (k*4+2);obtain⟨hset,ho⟩:=hw9.set (i:=k) (d:=2) (v:=.string t1) (e':=⟨e.a,e.w,t1,e.h⟩) HEK.out (by decide) rfl;obtain⟨U,hU⟩:∃U,u9.setCell ⟨g,k*4+2,none⟩ (.string t1)=U:=⟨_,rfl⟩;rw[hU] at hset ho;have HT1:=Hi hs1;have HWU:=Hi hset;have HVU:=Hi (Only.fresh (HVY.out.trans (hb.mono HVY.out.size)) ho hgw);have HUE:=Hi hU;clear hs1 hset ho hU hw9 hb;go_simp;rw[HUE.out];refine hK _ _ ?_
      clear hK cx fx HYE HUE HQL HWY HVY HBY HGY;obtain⟨Y,hY⟩:∃Y,U.drew=Y:=⟨_,rfl⟩;have hby:Below U.heap.size U Y:=by rw[←hY];exact(Below.refl _ _).drew
      have HWY:=Hi (HWU.out.below hby);have HVY:=Hi (HVU.out.trans (hby.mono HVU.out.size));have HBY:=Hi (HBV3.out.trans (HVY.out.mono HBV3.out.size));have HGY:=Hi (HG.out.below HBY.out);have HQL:Hid (QOf e.h.data.toList v.2.2.2∧e.h.size≤1073741824∧Fits v.2.2.2 (4*e.h.size+1)):=Hi ⟨HSV.out.h,HSV.out.zh.1,HSV.out.h.fitsS⟩;have HYE:=Hi hY;have HEO:=HEK;have hel:k<es.length:=(List.getElem?_eq_some_iff.1 HEO.out).1;clear HEK;have HEK:Hid ((es.set k ⟨e.a,e.w,t1,e.h⟩)[k]?=some ⟨e.a,e.w,t1,e.h⟩):=Hi (List.getElem?_set_self hel);clear hY hby HWU;go_wp2_with fail;refine RegG.begin 17 (fun j=>some (79+j)) (by kernel_rfl) (by kernel_rfl) (by kernel_rfl) rfl ?_;rw[HYE.out]
      refine RegG.is (c:=?_) [] (by simp only[List.nil_append,List.cons_append,List.length_append,List.length_cons,List.length_nil,Nat.reduceAdd];exact rfl) (by simp only[List.getElem?_toArray,List.getElem?_cons_zero,List.getElem?_cons_succ];exact rfl) (by kernel_rfl) (fun w hb=>?_) ?_;rotate_left
      ·
       simp only[Given,List.nil_append,List.cons_append,List.getD_cons_zero,List.getD_cons_succ,Qaa,Act.put,List.setIfInBounds_toArray,List.set_cons_zero,List.set_cons_succ,Nat.reduceAdd,Nat.reduceBEq,cond_true,cond_false];intro K hK;skip;go_simp;exact hK
      refine RegG.is (c:=?_) [] (by simp only[List.nil_append,List.cons_append,List.length_append,List.length_cons,List.length_nil,Nat.reduceAdd];exact rfl) (by simp only[List.getElem?_toArray,List.getElem?_cons_zero,List.getElem?_cons_succ];exact rfl) (by kernel_rfl) (fun w hb=>?_) ?_;rotate_left
      ·
       simp only[Given,List.nil_append,List.cons_append,List.getD_cons_zero,List.getD_cons_succ,Qaa,Act.put,List.setIfInBounds_toArray,List.set_cons_zero,List.set_cons_succ,Nat.reduceAdd,Nat.reduceBEq,cond_true,cond_false];intro K hK;skip;go_simp;exact hK
      refine RegG.is (c:=?_) [] (by simp only[List.nil_append,List.cons_append,List.length_append,List.length_cons,List.length_nil,Nat.reduceAdd];exact rfl) (by simp only[List.getElem?_toArray,List.getElem?_cons_zero,List.getElem?_cons_succ];exact rfl) (by kernel_rfl) (fun w hb=>?_) ?_;rotate_left
      ·
       simp only[Given,List.nil_append,List.cons_append,List.getD_cons_zero,List.getD_cons_succ,Qaa,Act.put,List.setIfInBounds_toArray,List.set_cons_zero,List.set_cons_succ,Nat.reduceAdd,Nat.reduceBEq,cond_true,cond_false];intro K hK;skip;go_simp;exact hK
      refine RegG.is (c:=?_) [] (by simp only[List.nil_append,List.cons_append,List.length_append,List.length_cons,List.length_nil,Nat.reduceAdd];exact rfl) (by simp only[List.getElem?_toArray,List.getElem?_cons_zero,List.getElem?_cons_succ];exact rfl) (by kernel_rfl) (fun w hb=>?_) ?_;rotate_left
      ·
       simp only[Given,List.nil_append,List.cons_append,List.getD_cons_zero,List.getD_cons_succ,Qaa,Act.put,List.setIfInBounds_toArray,List.set_cons_zero,List.set_cons_succ,Nat.reduceAdd,Nat.reduceBEq,cond_true,cond_false];intro K hK;skip;go_simp;exact hK
      refine RegG.is (c:=?_) [2,3] (by simp only[List.nil_append,List.cons_append,List.length_append,List.length_cons,List.length_nil,Nat.reduceAdd];exact rfl) (by simp only[List.getElem?_toArray,List.getElem?_cons_zero,List.getElem?_cons_succ];exact rfl) (by kernel_rfl) (fun w hb=>?_) ?_;rotate_left
      ·
       simp only[Given,List.nil_append,List.cons_append,List.getD_cons_zero,List.getD_cons_succ,Qaa,Act.put,List.setIfInBounds_toArray,List.set_cons_zero,List.set_cons_succ,Nat.reduceAdd,Nat.reduceBEq,cond_true,cond_false];intro K hK;skip;go_simp;exact hK
      refine RegG.is (c:=?_) [4] (by simp only[List.nil_append,List.cons_append,List.length_append,List.length_cons,List.length_nil,Nat.reduceAdd];exact rfl) (by simp only[List.getElem?_toArray,List.getElem?_cons_zero,List.getElem?_cons_succ];exact rfl) (by kernel_rfl) (fun w hb=>?_) ?_;rotate_left
      ·
       simp only[Given,List.nil_append,List.cons_append,List.getD_cons_zero,List.getD_cons_succ,Qaa,Act.put,List.setIfInBounds_toArray,List.set_cons_zero,List.set_cons_succ,Nat.reduceAdd,Nat.reduceBEq,cond_true,cond_false];intro K hK;skip;go_simp;exact hK
      refine RegG.is (c:=?_) [5] (by simp only[List.nil_append,List.cons_append,List.length_append,List.length_cons,List.length_nil,Nat.reduceAdd];exact rfl) (by simp only[List.getElem?_toArray,List.getElem?_cons_zero,List.getElem?_cons_succ];exact rfl) (by kernel_rfl) (fun w hb=>?_) ?_;rotate_left
      ·
       simp only[Given,List.nil_append,List.cons_append,List.getD_cons_zero,List.getD_cons_succ,Qaa,Act.put,List.setIfInBounds_toArray,List.set_cons_zero,List.set_cons_succ,Nat.reduceAdd,Nat.reduceBEq,cond_true,cond_false];intro K hK;have cx:=((HWY.out.below hb).cell HEK.out).2;go_simp;exact hK
      refine RegG.step (φ:=RF (v.2.2.2) (4*e.h.size+1)) [6] (by simp only[List.nil_append,List.cons_append,List.length_append,List.length_cons,List.length_nil,Nat.reduceAdd];exact rfl) (by simp only[List.getElem?_toArray,List.getElem?_cons_zero,List.getElem?_cons_succ];exact rfl) (by kernel_rfl) (RF.stays _ _) (fun w hb=>?_) ?_
      ·
       simp only[Given,List.nil_append,List.cons_append,List.getD_cons_zero,List.getD_cons_succ,Qaa,Act.put,List.setIfInBounds_toArray,List.set_cons_zero,List.set_cons_succ,Nat.reduceAdd,Nat.reduceBEq,cond_true,cond_false];skip;intro K hK;go_simp;exact Makes.use (RF.of (HGY.out.below hb) HQL.out.1 HQL.out.2.1 HQL.out.2.2 (by omega)) hK
      refine RegG.is (c:=?_) [] (by simp only[List.nil_append,List.cons_append,List.length_append,List.length_cons,List.length_nil,Nat.reduceAdd];exact rfl) (by simp only[List.getElem?_toArray,List.getElem?_cons_zero,List.getElem?_cons_succ];exact rfl) (by kernel_rfl) (fun w hb=>?_) ?_;rotate_left
      ·
       simp only[Given,List.nil_append,List.cons_append,List.getD_cons_zero,List.getD_cons_succ,Qaa,Act.put,List.setIfInBounds_toArray,List.set_cons_zero,List.set_cons_succ,Nat.reduceAdd,Nat.reduceBEq,cond_true,cond_false];intro K hK;skip;go_simp;exact hK
      refine RegG.is (c:=?_) [] (by simp only[List.nil_append,List.cons_append,List.length_append,List.length_cons,List.length_nil,Nat.reduceAdd];exact rfl) (by simp only[List.getElem?_toArray,List.getElem?_cons_zero,List.getElem?_cons_succ];exact rfl) (by kernel_rfl) (fun w hb=>?_) ?_;rotate_left
      ·
       simp only[Given,List.nil_append,List.cons_append,List.getD_cons_zero,List.getD_cons_succ,Qaa,Act.put,List.setIfInBounds_toArray,List.set_cons_zero,List.set_cons_succ,Nat.reduceAdd,Nat.reduceBEq,cond_true,cond_false];intro K hK;skip;go_simp;exact hK
      refine RegG.is (c:=?_) [8,9] (by simp only[List.nil_append,List.cons_append,List.length_append,List.length_cons,List.length_nil,Nat.reduceAdd];exact rfl) (by simp only[List.getElem?_toArray,List.getElem?_cons_zero,List.getElem?_cons_succ];exact rfl) (by kernel_rfl) (fun w hb=>?_) ?_;rotate_left
      ·
       simp only[Given,List.nil_append,List.cons_append,List.getD_cons_zero,List.getD_cons_succ,Qaa,Act.put,List.setIfInBounds_toArray,List.set_cons_zero,List.set_cons_succ,Nat.reduceAdd,Nat.reduceBEq,cond_true,cond_false];intro K hK;skip;go_simp;exact hK
      refine RegG.is (c:=?_) [10] (by simp only[List.nil_append,List.cons_append,List.length_append,List.length_cons,List.length_nil,Nat.reduceAdd];exact rfl) (by simp only[List.getElem?_toArray,List.getElem?_cons_zero,List.getElem?_cons_succ];exact rfl) (by kernel_rfl) (fun w hb=>?_) ?_;rotate_left
      ·
       simp only[Given,List.nil_append,List.cons_append,List.getD_cons_zero,List.getD_cons_succ,Qaa,Act.put,List.setIfInBounds_toArray,List.set_cons_zero,List.set_cons_succ,Nat.reduceAdd,Nat.reduceBEq,cond_true,cond_false];intro K hK;have cx:=(Below.cell hb (p:=⟨mb,mo+k,none⟩) (Nat.lt_of_lt_of_le hmlt HBY.out.size)).trans ((HBY.out.cell (p:=⟨mb,mo+k,none⟩) hmlt).trans HCM.out);go_simp;exact hK
      refine RegG.step (φ:=RF qm (4*mk.size+1)) [11] (by simp only[List.nil_append,List.cons_append,List.length_append,List.length_cons,List.length_nil,Nat.reduceAdd];exact rfl) (by simp only[List.getElem?_toArray,List.getElem?_cons_zero,List.getElem?_cons_succ];exact rfl) (by kernel_rfl) (RF.stays _ _) (fun w hb=>?_) ?_
      ·
       simp only[Given,List.nil_append,List.cons_append,List.getD_cons_zero,List.getD_cons_succ,Qaa,Act.put,List.setIfInBounds_toArray,List.set_cons_zero,List.set_cons_succ,Nat.reduceAdd,Nat.reduceBEq,cond_true,cond_false];skip;intro K hK;go_simp;exact Makes.use (RF.of (HGY.out.below hb) HQM.out.1 HQM.out.2.1 HQM.out.2.2 (by omega)) hK
      refine RegG.step (φ:=RF (v.2.2.2+qm) ((4*e.h.size+1)+(4*mk.size+1)+1)) [7,12] (by simp only[List.nil_append,List.cons_append,List.length_append,List.length_cons,List.length_nil,Nat.reduceAdd];exact rfl) (by simp only[List.getElem?_toArray,List.getElem?_cons_zero,List.getElem?_cons_succ];exact rfl) (by kernel_rfl) (RF.stays _ _) (fun w hb=>?_) ?_
      ·
       simp only[Given,List.nil_append,List.cons_append,List.getD_cons_zero,List.getD_cons_succ,Qaa,Act.put,List.setIfInBounds_toArray,List.set_cons_zero,List.set_cons_succ,Nat.reduceAdd,Nat.reduceBEq,cond_true,cond_false];intro v7 h7 v12 h12;intro K hK;go_simp;exact Makes.use (RF.add h7 h12 (by omega)) hK
      refine RegG.step (φ:=TF (v.2.2.2+qm)) [13] (by simp only[List.nil_append,List.cons_append,List.length_append,List.length_cons,List.length_nil,Nat.reduceAdd];exact rfl) (by simp only[List.getElem?_toArray,List.getElem?_cons_zero,List.getElem?_cons_succ];exact rfl) (by kernel_rfl) (TF.stays _) (fun w hb=>?_) ?_
      ·
       simp only[Given,List.nil_append,List.cons_append,List.getD_cons_zero,List.getD_cons_succ,Qaa,Act.put,List.setIfInBounds_toArray,List.set_cons_zero,List.set_cons_succ,Nat.reduceAdd,Nat.reduceBEq,cond_true,cond_false];intro v13 h13;intro K hK;go_simp;exact Makes.use (RF.text h13 (by omega)) hK
      refine RegG.is (c:=?_) [0,1] (by simp only[List.nil_append,List.cons_append,List.length_append,List.length_cons,List.length_nil,Nat.reduceAdd];exact rfl) (by simp only[List.getElem?_toArray,List.getElem?_cons_zero,List.getElem?_cons_succ];exact rfl) (by kernel_rfl) (fun w hb=>?_) ?_;rotate_left
      ·
       simp only[Given,List.nil_append,List.cons_append,List.getD_cons_zero,List.getD_cons_succ,Qaa,Act.put,List.setIfInBounds_toArray,List.set_cons_zero,List.set_cons_succ,Nat.reduceAdd,Nat.reduceBEq,cond_true,cond_false];intro K hK;skip;go_simp;exact hK
      refine RegG.is (c:=?_) [15] (by simp only[List.nil_append,List.cons_append,List.length_append,List.length_cons,List.length_nil,Nat.reduceAdd];exact rfl) (by simp only[List.getElem?_toArray,List.getElem?_cons_zero,List.getElem?_cons_succ];exact rfl) (by kernel_rfl) (fun w hb=>?_) ?_;rotate_left
      ·
       simp only[Given,List.nil_append,List.cons_append,List.getD_cons_zero,List.getD_cons_succ,Qaa,Act.put,List.setIfInBounds_toArray,List.set_cons_zero,List.set_cons_succ,Nat.reduceAdd,Nat.reduceBEq,cond_true,cond_false];intro K hK;skip;go_simp;exact hK
      refine RegG.last (by simp only[List.nil_append,List.cons_append,List.length_append,List.length_cons,List.length_nil,Nat.reduceAdd]) (by rfl) (by rfl) (by kernel_rfl) (fun u9 hb=>?_);simp only[FinG,List.nil_append,List.cons_append,Qaa,Act.put,List.setIfInBounds_toArray,List.set_cons_zero,List.set_cons_succ,Nat.reduceAdd,Nat.reduceBEq,cond_true,cond_false];intro v7 _ v12 _ v13 _ v14 h14 K9 hK;obtain⟨t2,rfl,hs1⟩:=h14;have hw9:=HWY.out.below hb;have cx:=(hw9.cell HEK.out).2;have fx:=hw9.free (k*4+3);obtain⟨hset,ho⟩:=hw9.set (i:=k) (d:=3) (v:=.string t2) (e':=⟨e.a,e.w,t1,t2⟩) HEK.out (by decide) rfl;obtain⟨U2,hU⟩:∃U,u9.setCell ⟨g,k*4+3,none⟩ (.string t2)=U:=⟨_,rfl⟩;rw[hU] at hset ho;have HT2:=Hi hs1;have HWU:=Hi hset;have HVU2:=Hi (Only.fresh (HVY.out.trans (hb.mono HVY.out.size)) ho hgw);have HUE:=Hi hU;clear hs1 hset ho hU hw9 hb;go_simp;rw[HUE.out];refine hK _ _ ?_;clear hK cx fx
      have HNX:=Hi (HI.out.next HEE.out HVE.out HA0.out HPM.out HSV.out HT1.out HT2.out ((HSV.out.l.fitsS.sub HQM.out.2.2).mono (by omega)) ((HSV.out.h.fitsS.add HQM.out.2.2).mono (by omega)));go_wp2;go_roundw
      case rel=>exact⟨k+1,_,_,by omega,by go_num,HWU.out,HNX.out,HVU2.out⟩
      case measure=>simp[intOf];omega
     ·
      have e1:decide (0<σ)=false:=decide_eq_false hs;clear hs hσ;go_wp2;go_roundw
      case rel=>exact⟨k+1,es,us,by omega,by go_num,HW.out.below HB7.out,HI.out.same,HBR.out.trans (HB7.out.mono HBR.out.size)⟩
      case measure=>simp[intOf];omega
    ·
     have q2:¬((k:Int)<(ms.length:Int)):=by omega
     have e1:decide ((k:Int)<(ms.length:Int))=false:=decide_eq_false q2;go_wp2;go_roundw
     case rel=>exact⟨k+1,es,us,by omega,by go_num,HW.out,HI.out.same,HBR.out⟩
     case measure=>simp[intOf];omega
   ·
    obtain rfl:k=ss.length:=by omega
    have HBW:=Hi (HBV3.out.trans (HBR.out.mono HBV3.out.size));have HSXR:=Hi (HSX.out.below HBR.out HSX.out.lt);have q1:¬((ss.length:Int)<(ss.length:Int)):=by omega
    have HST:Hid (Calls Tryz.prog 11 #[.slice (some ⟨g,0,none⟩) ss.length cap',.string sa,.slice (some ⟨gx,0,none⟩) ss.length ss.length] wr fun e w'=>e=.returned (.tuple #[.bool true,.agg #[.int .i64 0,.int .i64 0]])∧Below wr.heap.size wr w'):=Hi (by
     have h1:=Qdz (some ⟨g,0,none⟩) (some ⟨gx,0,none⟩) cap' ss.length 4194400 (4*sa.size+1) (215*(4*n1+1)+144*(4*sa.size+1)+252) es us sa qa ls (lnC vs qa i j) wr (HG.out.below HBW.out) HW.out.row HI.out.st (by rw[HI.out.le];exact hn) (by rw[HLL.out,HVL.out];exact hn) HQA.out (by omega) HFA.out (by omega) (Qfx HSXR.out (by rw[HLL.out,HVL.out];exact Nat.le_refl _)) (Qfv HVF.out HFA.out (by omega) (by omega) hv10 hij (by rw[HVL.out];exact hj) HLL.out HTX.out (by omega)) (by decide) (by decide) (by omega) (by omega);rw[HI.out.le,HLL.out,HVL.out] at h1;refine h1.mono ?_;rintro e w' ⟨⟨b,c1,c2,rfl,hs⟩,hb⟩;rw[←HVL.out] at hs;obtain⟨rfl,rfl,rfl⟩:=HI.out.wd.stands HA0.out HQN.out HFI.out hs
     exact⟨rfl,hb⟩)
    go_wp2_with fail;refine HST.out.mono ?_;rintro e w8 ⟨rfl,hb8⟩;clear HST HSXR HW HI HSX HTX HLL;obtain⟨b18,hb18⟩:∃b,w8.heap.size=b:=⟨_,rfl⟩;obtain⟨V8,hV8⟩:∃V,w8.alloc (.cells #[.int .i64 0,.int .i64 0] 32)=V:=⟨_,rfl⟩;have h8v:Below w8.heap.size w8 V8:=by rw[←hV8];exact(Below.refl _ _).alloc (Nat.le_refl _) _
    have h3v:Below V3.heap.size V3 V8:=by
     have h1:=HBR.out.trans (hb8.mono HBR.out.size);exact h1.trans (h8v.mono h1.size)
    have HBW8:=Hi (HBV3.out.trans (h3v.mono HBV3.out.size));have hs18:SB V8 b18 32 #[.int .i64 0,.int .i64 0]:=by rw[←hV8,←hb18];exact SB.new w8 _ _
    have HS148:=Hi (HS14.out.below h3v HS14.out.lt);have HS128:=Hi (HS123.out.below h3v HS123.out.lt);obtain⟨y0,y1⟩:=Qan hs18;obtain⟨z0,z1⟩:=Qan HS148.out;rw[←hV8] at y0 y1 z0 z1;rw[←hb18] at y0 y1;have HV8:=Hi hV8;have HB18:=Hi hb18;clear hb8 hb18 hV8 h8v h3v hs18 HBR HBW q1;by_cases hd:d1=0
    ·
     subst hd;obtain⟨hqbn,i',j',hfb⟩:¬qb<0∧∃i' j',fitsTo vs (lnC vs qb i' j') vs.length:=by
      rcases HSB.out with ⟨h,_⟩|⟨_,_,h2,i',j',_,_,_,_,h3,_⟩
      · exact absurd rfl h
      · exact⟨h2,i',j',h3⟩
     have HQBN:=Hi hqbn;have HFIB:=Hi hfb;clear hqbn hfb HSB;obtain⟨x,hx8,hxe⟩:=Qkw part;have HXE:=Hi hxe;clear hxe;go_wp2_with fail;rw[HXE.out,HV8.out];simp only[HB18.out];clear y0 y1 z0 z1;refine(Qkq x V8 hx8).mono ?_;intro e w9 hn9;obtain⟨vk,rfl,hb9,hvk⟩:=hn9.makes (Qkv hx8) (by decide);obtain⟨kq,hkq⟩:∃kq,mkRat (x:Int) 8=kq:=⟨_,rfl⟩;have HBT:=Hi (Qku HQN.out HQBN.out hx8);rw[hkq] at hvk HBT;clear hkq hn9;have HB9:=Hi (HBW8.out.trans (hb9.mono HBW8.out.size));have HA9:=Hi hb9;have FK:=Hi hvk;clear hb9 hvk;go_wp2_with fail;refine Makes.use (RF.of (HG.out.below HB9.out) HQA.out (by omega) HFA.out (by omega)) ?_;intro va wa hba hva;have FA:=Hi hva;have FK1:=Hi (FK.out.below hba);have HB10:=Hi (HB9.out.trans (hba.mono HB9.out.size));have HA10:=Hi (HA9.out.trans (hba.mono HA9.out.size));clear hba hva FK HB9 HA9;go_wp2_with fail
     refine Makes.use (RF.of (HG.out.below HB10.out) HQB.out (by omega) HFB.out (by omega)) ?_;intro vb wb hbb hvb;have FB:=Hi hvb;have FA1:=Hi (FA.out.below hbb);have FK2:=Hi (FK1.out.below hbb);have HB11:=Hi (HB10.out.trans (hbb.mono HB10.out.size));have HA11:=Hi (HA10.out.trans (hbb.mono HA10.out.size));clear hbb hvb FK1 FA HB10 HA10;go_wp2_with fail;refine Makes.use (RF.of (HG.out.below HB11.out) HQA.out (by omega) HFA.out (by omega)) ?_;intro va2 wc hbc hva2;have FA2:=Hi (FA1.out.below hbc);have FB2:=Hi (FB.out.below hbc);have FK3:=Hi (FK2.out.below hbc);have FAA:=Hi hva2;have HBc:=Hi (HB11.out.trans (hbc.mono HB11.out.size));have HAc:=Hi (HA11.out.trans (hbc.mono HA11.out.size));clear hbc hva2 FA1 FB FK2 HB11 HA11;go_wp2_with fail;refine Makes.use (RF.sub FB2.out FAA.out (by omega)) ?_;intro vd wd hbd hvd;have FD:=Hi hvd;have FA3:=Hi (FA2.out.below hbd);have FK4:=Hi (FK3.out.below hbd)
     have HBd:=Hi (HBc.out.trans (hbd.mono HBc.out.size));have HAd:=Hi (HAc.out.trans (hbd.mono HAc.out.size));clear hbd hvd FA2 FB2 FK3 FAA HBc HAc;go_wp2_with fail;refine Makes.use (RF.mul FK4.out FD.out (by omega)) ?_;intro vp wp' hbp hvp;have FP:=Hi hvp;have FA4:=Hi (FA3.out.below hbp);have HBp:=Hi (HBd.out.trans (hbp.mono HBd.out.size));have HAp:=Hi (HAd.out.trans (hbp.mono HAd.out.size));clear hbp hvp FA3 FK4 FD HBd HAd;go_wp2_with fail;refine Makes.use (RF.add FA4.out FP.out (by omega)) ?_;intro vm wm hbm hvm;have FM:=Hi hvm;have HBm:=Hi (HBp.out.trans (hbm.mono HBp.out.size));have HAm:=Hi (HAp.out.trans (hbm.mono HAp.out.size));clear hbm hvm FA4 FP HBp HAp;go_wp2_with fail;refine Makes.use (RF.text FM.out (by omega)) ?_;rintro _ wt hbt ⟨sm,rfl,hsm⟩;obtain⟨H,hH⟩:∃H,4*sa.size+1+(4+(4*sb.size+1+(4*sa.size+1)+1))+1=H:=⟨_,rfl⟩;have HFM:Hid (Fits (qa+kq*(qb - qa)) H):=Hi (by
      obtain⟨_,_,_,h,_⟩:=FM.out;rw[←hH]
      exact h)
     obtain⟨qm,hqm⟩:∃qm,qa+kq*(qb - qa)=qm:=⟨_,rfl⟩;have HLB:=Hi (Qko (k:=kq) HA0.out HBT.out.1 HBT.out.2.1 HFI.out HFIB.out);have HMN:=Hi HBT.out.2.2;rw[hqm] at HFM hsm HLB HMN;have HTM:=Hi hsm;have hszm:sm.size≤1073741824:=by have:=hsm.len HFM.out;omega
     have HBt:=Hi (HBm.out.trans (hbt.mono HBm.out.size));have HAt:=Hi (HAm.out.trans (hbt.mono HAm.out.size));clear hbt hsm hqm FM HBm HAm HBT;go_wp2_with fail;refine(Qcp (some ad) cl 4194400 H ss vs sm qm wt (HG.out.below HBt.out) (HRW.out.below HBt.out) HV.out hn HTM.out.back hszm HFM.out (by omega) (by decide) (by decide) (by omega)).mono ?_;rintro e w17 ⟨hs,hb17⟩;obtain⟨zv,m1,m2,rfl,hsz⟩:=Qd6 hs;obtain⟨hm1,i2,j2,gz,lz,hij2,hj2,hfit2,rfl,hgz,hlz,hsz2,htz⟩:m1=0∧∃(i j g:Nat) (ls:List ByteArray),i<j∧j<vs.length∧fitsTo vs (lnC vs qm i j) vs.length∧zv=.slice (some ⟨g,0,none⟩) vs.length vs.length∧wt.heap.size≤g∧ls.length=vs.length∧SB w17 g 23 (textsV ls).toArray∧∀(k:Nat) (s:ByteArray),ls[k]?=some s→QText s.data.toList (lnC vs qm i j k):=by
      rcases hsz with ⟨_,_,h⟩|⟨h1,_,_,h2⟩
      · obtain⟨p,q,hpq,hq,hf⟩:=HLB.out
        exact absurd hf (h HA0.out HMN.out p q hpq hq)
      · exact⟨h1,h2⟩
     subst hm1;have hA17:=HAt.out.trans (hb17.mono HAt.out.size);have hs12:=HS128.out.below hA17 HS128.out.lt;have hlt12:b12<wt.heap.size:=Nat.lt_of_lt_of_le HS128.out.lt HAt.out.size;obtain⟨x0,x1⟩:=Qan hs12;have f0:=hs12.free 0;have f1:=hs12.free 1;have HB17:=HBt.out.trans (hb17.mono HBt.out.size);obtain⟨S,hS⟩:∃S,(w17.setCell ⟨b12,0,none⟩ (.int .i64 0)).setCell ⟨b12,1,none⟩ (.int .i64 m2)=S:=⟨_,rfl⟩;have oS:Only b12 w17 S:=by rw[←hS];exact((Only.refl b12 w17).setCell _ _).setCell _ _
     have hsS:SB S b12 32 #[.int .i64 0,.int .i64 m2]:=by rw[←hS];exact(hs12.set 0 _).set 1 _
     obtain⟨y0,y1⟩:=Qan hsS;rw[←hS] at y0 y1;have HSS:=Hi hsS;have HSZ:=Hi (hsz2.only oS (by omega));have HBS:=Hi (Only.fresh HB17 oS hb12w);have HSE:=Hi hS;have HST:Hid (Calls Tryz.prog 11 #[.slice (some ad) ss.length cl,.string sm,.slice (some ⟨gz,0,none⟩) ss.length ss.length] S fun e w'=>e=.returned (.tuple #[.bool true,.agg #[.int .i64 0,.int .i64 0]])∧Below S.heap.size S w'):=Hi (by
      have h1:=Qdz (some ad) (some ⟨gz,0,none⟩) cl ss.length 4194400 H (215*(4*n1+1)+144*H+252) ss vs sm qm lz (lnC vs qm i2 j2) S (HG.out.below HBS.out) (HRW.out.below HBS.out) HV.out hn (by rw[hlz,HVL.out];exact hn) HTM.out.back hszm HFM.out (by omega) (Qfx HSZ.out (by rw[hlz,HVL.out];exact Nat.le_refl _)) (Qfv HVF.out HFM.out (by omega) (by omega) hv10 hij2 hj2 hlz htz (by omega)) (by decide) (by decide) (by omega) (by omega);rw[hlz,HVL.out] at h1;refine h1.mono ?_;rintro e w' ⟨⟨b,c1,c2,rfl,hs⟩,hb⟩;rw[←HVL.out] at hs;obtain⟨rfl,rfl,rfl⟩:=(Wider.refl vs).stands HA0.out HMN.out hfit2 hs
      exact⟨rfl,hb⟩)
     clear hsz hS oS hsS hs12 hA17 hb17 hs hij2 hj2 hfit2 hgz hlz hsz2 htz HB17 HSZ;simp only[HVL.out];go_wp2_with fail;rw[HSE.out];clear x0 x1 f0 f1 y0 y1;refine HST.out.mono ?_;rintro e w18 ⟨rfl,hb18⟩;have hs12:=HSS.out.below hb18 HSS.out.lt;obtain⟨x0,x1⟩:=Qan hs12;have f0:=hs12.free 0;have f1:=hs12.free 1;obtain⟨T,hT⟩:∃S,(w18.setCell ⟨b12,0,none⟩ (.int .i64 0)).setCell ⟨b12,1,none⟩ (.int .i64 0)=S:=⟨_,rfl⟩;have oT:Only b12 w18 T:=by rw[←hT];exact((Only.refl b12 w18).setCell _ _).setCell _ _
     have hsT:SB T b12 32 #[.int .i64 0,.int .i64 0]:=by rw[←hT];exact(hs12.set 0 _).set 1 _
     obtain⟨y0,y1⟩:=Qan hsT;rw[←hT] at y0 y1;have HBT2:=Hi (Only.fresh (HBS.out.trans (hb18.mono HBS.out.size)) oT hb12w);have HTE:=Hi hT;clear hb18 hT oT hsT hs12 HST;go_wp2;rw[HTE.out];go_ret;exact⟨rfl,HBT2.out⟩
    ·
     have e0:(d1 != 0)=true:=by simpa using hd
     clear hd;go_wp2;rw[HV8.out];go_ret;exact⟨rfl,HBW8.out⟩
 ·
  have e0:(c1 != 0)=true:=by simpa using hc
  have hx:x=.slice none 0 0:=by
   rcases HSA.out with ⟨_,h,_⟩|⟨h,_⟩
   · exact h
   · exact absurd h hc
  subst hx;clear hc;go_wp2;rw[HV3.out];go_ret;exact⟨rfl,HBV3.out⟩
end Go.Proofs.YtldjeecnapgakaaGreatDoor
