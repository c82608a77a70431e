/- package arch: Check. -/
import Derived.Test.YtldjeecnapgakaaGreatDoorS33ArkA
namespace Go.Proofs.YtldjeecnapgakaaGreatDoor
open Go.RowKit
set_option linter.unusedVariables false
set_option linter.unusedSimpArgs false
set_option maxRecDepth 100000 in
set_option maxHeartbeats 8000000 in
theorem Qdv(a:Option Addr)(cap:Nat)(ss:List T4)(vs:List V4)(w:World)(hg:Glob w)(hr:ARow T4.cells w a cap ss)(hv:StonesV ss vs)(hn:ss.length≤1048576):
 Calls Tryz.prog 12 #[.slice a ss.length cap] w fun e w'=>e=.returned (.agg #[.int .i64 (archF vs).1,.int .i64 (archF vs).2])∧Below w.heap.size w w':=by
 have HG:=Hi hg;have HRW:=Hi hr;have HV:=Hi hv;have HVL:=Hi hv.len;obtain⟨B0,hB0⟩:∃B0,w.heap.size=B0:=⟨_,rfl⟩;obtain⟨V,hV⟩:∃V,w.alloc (.cells #[.int .i64 0,.int .i64 0] 32)=V:=⟨_,rfl⟩;have HB0:Hid (Below w.heap.size w V):=Hi (by rw[←hV];exact(Below.refl _ _).alloc (Nat.le_refl _) _);have HS0:Hid (SB V B0 32 #[.int .i64 0,.int .i64 0]):=Hi (by rw[←hV,←hB0];exact SB.new w _ _);have HVE:=Hi hV;have HB0E:=Hi hB0;clear hg hr hv hV hB0;by_cases hm:ss.length<2∨10<ss.length
 ·
  have HAF:Hid (archF vs=(2,0)):=Hi (by unfold archF;rw[HVL.out,if_pos hm]);have key:((ss.length:Int)<2)∨(¬(ss.length:Int)<2∧(10:Int)<(ss.length:Int)):=by omega
  clear hm;rcases key with h2|⟨h2,h10⟩
  all_goals
   go_enter Tryz.func12,Tryz.ntmps12;go_wp2;refine bodyPost_ret (v:=.agg #[.int .i64 2,.int .i64 0]) (by simp[results,Tryz.results12,go_sem]) rfl ?_;exact⟨by rw[HAF.out],(Below.refl _ _).alloc (Nat.le_refl _) _⟩
 ·
  have h2:decide ((ss.length:Int)<2)=false:=by simp;omega
  have h10:decide ((10:Int)<(ss.length:Int))=false:=by simp;omega
  have hl10:ss.length≤10:=by omega
  have HAF0:Hid (archF vs=archFrom 0 none vs):=Hi (by unfold archF;rw[HVL.out,if_neg hm]);clear hm;go_enter Tryz.func12,Tryz.ntmps12;go_wp2_with fail;rw[HVE.out];simp only[HB0E.out];clear h2 h10;go_loopw [16] (fun iv wr=>∃k:Nat,k≤ss.length∧iv=.int .i64 k∧archF vs=archFrom k (ahead vs k) (vs.drop k)∧Below V.heap.size V wr) (fun iv _=>ss.length - (intOf iv).toNat)
  case atStart=>exact⟨0,Nat.zero_le _,rfl,HAF0.out,Below.refl _ _⟩
  case round=>
   obtain⟨k,hk,rfl,haf,hb⟩:=hrel;by_cases hkn:k<ss.length
   ·
    obtain⟨s,hs⟩:∃s,ss[k]?=some s:=⟨_,List.getElem?_eq_getElem hkn⟩;obtain⟨v,hv⟩:∃v,vs[k]?=some v:=⟨vs[k]'(by have:=HVL.out;omega),List.getElem?_eq_getElem _⟩;have HSV:=Hi (HV.out.each k s v hs hv);rw[Qcm hv] at haf;have hbw:=HB0.out.trans (hb.mono HB0.out.size);obtain⟨sb,so,ha,hsb,d0,d1,d2,d3⟩:=(HRW.out.below hbw).stone hs;subst ha;obtain⟨hb0,hhb0⟩:∃hb0,wr.heap.size=hb0:=⟨_,rfl⟩;obtain⟨Z,hZ⟩:∃Z,wr.alloc (.cells #[.string s.a,.string s.w,.string s.l,.string s.h] 28)=Z:=⟨_,rfl⟩;have hBA:Below wr.heap.size wr Z:=by rw[←hZ];exact(Below.refl _ _).alloc (Nat.le_refl _) _
    have HSZ:Hid (SB Z hb0 28 #[.string s.a,.string s.w,.string s.l,.string s.h]):=Hi (by rw[←hZ,←hhb0];exact SB.new wr _ _);obtain⟨Y,hY⟩:∃Y,Z.drew=Y:=⟨_,rfl⟩;have HBY:Hid (Below V.heap.size V Y):=Hi (by rw[←hY];exact(hb.trans (hBA.mono hb.size)).drew);have HBYr:Hid (Below wr.heap.size wr Y):=Hi (by rw[←hY];exact hBA.drew);have HSY:Hid (SB Y hb0 28 #[.string s.a,.string s.w,.string s.l,.string s.h]):=Hi (by rw[←hY];exact HSZ.out);have HGY:Hid (Glob Y):=Hi (HG.out.below (HB0.out.trans (HBY.out.mono HB0.out.size)));have q1:((k:Int)<(ss.length:Int)):=by omega
    have HAFK:=Hi haf;have HZE:=Hi hZ;have HYE:=Hi hY;have HHB:=Hi hhb0;have HS:=Hi hs;have HVK:=Hi hv;have HBR:=Hi hb;clear hb hs haf hZ hY hhb0 hBA hbw hv;rcases Nat.eq_zero_or_pos k with hk0|hk0
    ·
     have e0:decide (0<k)=false:=decide_eq_false (by omega);have e00:¬0<k:=by omega
     have HNO:Hid (stoneC (ahead vs k) v=valC v):=Hi (by rw[hk0];rfl);clear hk0;go_wp2_with fail;rw[HZE.out];simp only[HHB.out];clear d0 d1 d2 d3;refine RegG.begin 16 (fun j=>some (21+j)) (by kernel_rfl) (by kernel_rfl) (by kernel_rfl) rfl ?_;rw[HYE.out];refine RegG.is (c:=?_) [] (by simp only[List.nil_append,List.cons_append,List.length_append,List.length_cons,List.length_nil,Nat.reduceAdd];exact rfl) (by simp only[List.getElem?_toArray,List.getElem?_cons_zero,List.getElem?_cons_succ];exact rfl) (by kernel_rfl) (fun w hb=>?_) ?_;rotate_left
     ·
      simp only[Given,List.nil_append,List.cons_append,List.getD_cons_zero,List.getD_cons_succ,Qaa,Act.put,List.setIfInBounds_toArray,List.set_cons_zero,List.set_cons_succ,Nat.reduceAdd,Nat.reduceBEq,cond_true,cond_false];intro K hK;skip;go_simp;exact hK
     refine RegG.is (c:=?_) [0] (by simp only[List.nil_append,List.cons_append,List.length_append,List.length_cons,List.length_nil,Nat.reduceAdd];exact rfl) (by simp only[List.getElem?_toArray,List.getElem?_cons_zero,List.getElem?_cons_succ];exact rfl) (by kernel_rfl) (fun w hb=>?_) ?_;rotate_left
     ·
      simp only[Given,List.nil_append,List.cons_append,List.getD_cons_zero,List.getD_cons_succ,Qaa,Act.put,List.setIfInBounds_toArray,List.set_cons_zero,List.set_cons_succ,Nat.reduceAdd,Nat.reduceBEq,cond_true,cond_false];intro K hK;skip;go_simp;exact hK
     refine RegG.is (c:=?_) [1] (by simp only[List.nil_append,List.cons_append,List.length_append,List.length_cons,List.length_nil,Nat.reduceAdd];exact rfl) (by simp only[List.getElem?_toArray,List.getElem?_cons_zero,List.getElem?_cons_succ];exact rfl) (by kernel_rfl) (fun w hb=>?_) ?_;rotate_left
     ·
      simp only[Given,List.nil_append,List.cons_append,List.getD_cons_zero,List.getD_cons_succ,Qaa,Act.put,List.setIfInBounds_toArray,List.set_cons_zero,List.set_cons_succ,Nat.reduceAdd,Nat.reduceBEq,cond_true,cond_false];intro K hK;skip;go_simp;exact hK
     refine RegG.is (c:=?_) [2] (by simp only[List.nil_append,List.cons_append,List.length_append,List.length_cons,List.length_nil,Nat.reduceAdd];exact rfl) (by simp only[List.getElem?_toArray,List.getElem?_cons_zero,List.getElem?_cons_succ];exact rfl) (by kernel_rfl) (fun w hb=>?_) ?_;rotate_left
     ·
      simp only[Given,List.nil_append,List.cons_append,List.getD_cons_zero,List.getD_cons_succ,Qaa,Act.put,List.setIfInBounds_toArray,List.set_cons_zero,List.set_cons_succ,Nat.reduceAdd,Nat.reduceBEq,cond_true,cond_false];intro K hK;skip;go_simp;exact hK
     refine RegG.is (c:=?_) [2,3] (by simp only[List.nil_append,List.cons_append,List.length_append,List.length_cons,List.length_nil,Nat.reduceAdd];exact rfl) (by simp only[List.getElem?_toArray,List.getElem?_cons_zero,List.getElem?_cons_succ];exact rfl) (by kernel_rfl) (fun w hb=>?_) ?_;rotate_left
     ·
      simp only[Given,List.nil_append,List.cons_append,List.getD_cons_zero,List.getD_cons_succ,Qaa,Act.put,List.setIfInBounds_toArray,List.set_cons_zero,List.set_cons_succ,Nat.reduceAdd,Nat.reduceBEq,cond_true,cond_false];intro K hK;skip;go_simp;exact hK
     refine RegG.is (c:=?_) [2,4] (by simp only[List.nil_append,List.cons_append,List.length_append,List.length_cons,List.length_nil,Nat.reduceAdd];exact rfl) (by simp only[List.getElem?_toArray,List.getElem?_cons_zero,List.getElem?_cons_succ];exact rfl) (by kernel_rfl) (fun w hb=>?_) ?_;rotate_left
     ·
      simp only[Given,List.nil_append,List.cons_append,List.getD_cons_zero,List.getD_cons_succ,Qaa,Act.put,List.setIfInBounds_toArray,List.set_cons_zero,List.set_cons_succ,Nat.reduceAdd,Nat.reduceBEq,cond_true,cond_false];intro K hK;skip;go_simp;exact hK
     refine RegG.is (c:=?_) [2] (by simp only[List.nil_append,List.cons_append,List.length_append,List.length_cons,List.length_nil,Nat.reduceAdd];exact rfl) (by simp only[List.getElem?_toArray,List.getElem?_cons_zero,List.getElem?_cons_succ];exact rfl) (by kernel_rfl) (fun w hb=>?_) ?_;rotate_left
     ·
      simp only[Given,List.nil_append,List.cons_append,List.getD_cons_zero,List.getD_cons_succ,Qaa,Act.put,List.setIfInBounds_toArray,List.set_cons_zero,List.set_cons_succ,Nat.reduceAdd,Nat.reduceBEq,cond_true,cond_false];intro K hK;skip;go_simp;exact hK
     refine RegG.is (c:=?_) [2] (by simp only[List.nil_append,List.cons_append,List.length_append,List.length_cons,List.length_nil,Nat.reduceAdd];exact rfl) (by simp only[List.getElem?_toArray,List.getElem?_cons_zero,List.getElem?_cons_succ];exact rfl) (by kernel_rfl) (fun w hb=>?_) ?_;rotate_left
     ·
      simp only[Given,List.nil_append,List.cons_append,List.getD_cons_zero,List.getD_cons_succ,Qaa,Act.put,List.setIfInBounds_toArray,List.set_cons_zero,List.set_cons_succ,Nat.reduceAdd,Nat.reduceBEq,cond_true,cond_false];intro K hK;skip;go_simp;exact hK
     refine RegG.is (c:=?_) [2,7] (by simp only[List.nil_append,List.cons_append,List.length_append,List.length_cons,List.length_nil,Nat.reduceAdd];exact rfl) (by simp only[List.getElem?_toArray,List.getElem?_cons_zero,List.getElem?_cons_succ];exact rfl) (by kernel_rfl) (fun w hb=>?_) ?_;rotate_left
     ·
      simp only[Given,List.nil_append,List.cons_append,List.getD_cons_zero,List.getD_cons_succ,Qaa,Act.put,List.setIfInBounds_toArray,List.set_cons_zero,List.set_cons_succ,Nat.reduceAdd,Nat.reduceBEq,cond_true,cond_false];intro K hK;skip;go_simp;exact hK
     refine RegG.is (c:=?_) [2,6,8] (by simp only[List.nil_append,List.cons_append,List.length_append,List.length_cons,List.length_nil,Nat.reduceAdd];exact rfl) (by simp only[List.getElem?_toArray,List.getElem?_cons_zero,List.getElem?_cons_succ];exact rfl) (by kernel_rfl) (fun w hb=>?_) ?_;rotate_left
     ·
      simp only[Given,List.nil_append,List.cons_append,List.getD_cons_zero,List.getD_cons_succ,Qaa,Act.put,List.setIfInBounds_toArray,List.set_cons_zero,List.set_cons_succ,Nat.reduceAdd,Nat.reduceBEq,cond_true,cond_false];intro K hK;skip;go_simp;exact hK
     refine RegG.is (c:=?_) [2,9] (by simp only[List.nil_append,List.cons_append,List.length_append,List.length_cons,List.length_nil,Nat.reduceAdd];exact rfl) (by simp only[List.getElem?_toArray,List.getElem?_cons_zero,List.getElem?_cons_succ];exact rfl) (by kernel_rfl) (fun w hb=>?_) ?_;rotate_left
     ·
      simp only[Given,List.nil_append,List.cons_append,List.getD_cons_zero,List.getD_cons_succ,Qaa,Act.put,List.setIfInBounds_toArray,List.set_cons_zero,List.set_cons_succ,Nat.reduceAdd,Nat.reduceBEq,cond_true,cond_false];intro K hK;skip;go_simp;exact hK
     refine RegG.is (c:=?_) [2,10] (by simp only[List.nil_append,List.cons_append,List.length_append,List.length_cons,List.length_nil,Nat.reduceAdd];exact rfl) (by simp only[List.getElem?_toArray,List.getElem?_cons_zero,List.getElem?_cons_succ];exact rfl) (by kernel_rfl) (fun w hb=>?_) ?_;rotate_left
     ·
      simp only[Given,List.nil_append,List.cons_append,List.getD_cons_zero,List.getD_cons_succ,Qaa,Act.put,List.setIfInBounds_toArray,List.set_cons_zero,List.set_cons_succ,Nat.reduceAdd,Nat.reduceBEq,cond_true,cond_false];intro K hK;skip;go_simp;exact hK
     refine RegG.is (c:=?_) [2,11] (by simp only[List.nil_append,List.cons_append,List.length_append,List.length_cons,List.length_nil,Nat.reduceAdd];exact rfl) (by simp only[List.getElem?_toArray,List.getElem?_cons_zero,List.getElem?_cons_succ];exact rfl) (by kernel_rfl) (fun w hb=>?_) ?_;rotate_left
     ·
      simp only[Given,List.nil_append,List.cons_append,List.getD_cons_zero,List.getD_cons_succ,Qaa,Act.put,List.setIfInBounds_toArray,List.set_cons_zero,List.set_cons_succ,Nat.reduceAdd,Nat.reduceBEq,cond_true,cond_false];intro K hK;skip;go_simp;exact hK
     refine RegG.is (c:=?_) [2,5,12] (by simp only[List.nil_append,List.cons_append,List.length_append,List.length_cons,List.length_nil,Nat.reduceAdd];exact rfl) (by simp only[List.getElem?_toArray,List.getElem?_cons_zero,List.getElem?_cons_succ];exact rfl) (by kernel_rfl) (fun w hb=>?_) ?_;rotate_left
     ·
      simp only[Given,List.nil_append,List.cons_append,List.getD_cons_zero,List.getD_cons_succ,Qaa,Act.put,List.setIfInBounds_toArray,List.set_cons_zero,List.set_cons_succ,Nat.reduceAdd,Nat.reduceBEq,cond_true,cond_false];intro K hK;skip;go_simp;exact hK
     refine RegG.is (c:=?_) [2,13] (by simp only[List.nil_append,List.cons_append,List.length_append,List.length_cons,List.length_nil,Nat.reduceAdd];exact rfl) (by simp only[List.getElem?_toArray,List.getElem?_cons_zero,List.getElem?_cons_succ];exact rfl) (by kernel_rfl) (fun w hb=>?_) ?_;rotate_left
     ·
      simp only[Given,List.nil_append,List.cons_append,List.getD_cons_zero,List.getD_cons_succ,Qaa,Act.put,List.setIfInBounds_toArray,List.set_cons_zero,List.set_cons_succ,Nat.reduceAdd,Nat.reduceBEq,cond_true,cond_false];intro K hK;skip;go_simp;exact hK
     refine RegG.is (c:=?_) [2,14] (by simp only[List.nil_append,List.cons_append,List.length_append,List.length_cons,List.length_nil,Nat.reduceAdd];exact rfl) (by simp only[List.getElem?_toArray,List.getElem?_cons_zero,List.getElem?_cons_succ];exact rfl) (by kernel_rfl) (fun w hb=>?_) ?_;rotate_left
     ·
      simp only[Given,List.nil_append,List.cons_append,List.getD_cons_zero,List.getD_cons_succ,Qaa,Act.put,List.setIfInBounds_toArray,List.set_cons_zero,List.set_cons_succ,Nat.reduceAdd,Nat.reduceBEq,cond_true,cond_false];intro K hK;skip;go_simp;exact hK
     refine RegG.fin (by rfl) (fun X hb=>?_);simp only[FinG,List.nil_append,List.cons_append,Qaa,Act.put,List.setIfInBounds_toArray,List.set_cons_zero,List.set_cons_succ,Nat.reduceAdd,Nat.reduceBEq,cond_true,cond_false];have HBX:=Hi (HBY.out.trans (hb.mono HBY.out.size));have HSX:=Hi (HSY.out.below hb HSY.out.lt);clear hb HSY HGY;go_wp2_with fail;obtain⟨X2,hX2⟩:∃X2,X.drew=X2:=⟨_,rfl⟩;have HXE:=Hi hX2;have HBX2:Hid (Below V.heap.size V X2):=Hi (by rw[←hX2];exact HBX.out.drew);have HSY:Hid (SB X2 hb0 28 #[.string s.a,.string s.w,.string s.l,.string s.h]):=Hi (by rw[←hX2];exact HSX.out);have HGY:Hid (Glob X2):=Hi (HG.out.below (HB0.out.trans (HBX2.out.mono HB0.out.size)));clear hX2;by_cases hw:v.2.1<0
     ·
      have HAF:Hid (archF vs=(5,(k:Int))):=Hi (by
       have e:stoneC (ahead vs k) v=5:=by rw[HNO.out];exact if_pos (Or.inl hw)
       rw[HAFK.out,e,if_neg (by decide)])
      obtain⟨σ,hσ⟩:∃σ,sgn3 v.2.1.num=σ:=⟨_,rfl⟩;have e8:decide (σ<0)=true:=decide_eq_true (by rw[←hσ];exact(Qbe _).2 hw);have HSG:=Hi hσ;clear hw hσ;refine RegG.begin 15 (fun j=>some (39+j)) (by kernel_rfl) (by kernel_rfl) (by kernel_rfl) rfl ?_;rw[HXE.out];refine RegG.is (c:=?_) [] (by simp only[List.nil_append,List.cons_append,List.length_append,List.length_cons,List.length_nil,Nat.reduceAdd];exact rfl) (by simp only[List.getElem?_toArray,List.getElem?_cons_zero,List.getElem?_cons_succ];exact rfl) (by kernel_rfl) (fun w hb=>?_) ?_;rotate_left
      ·
       simp only[Given,List.nil_append,List.cons_append,List.getD_cons_zero,List.getD_cons_succ,Qaa,Act.put,List.setIfInBounds_toArray,List.set_cons_zero,List.set_cons_succ,Nat.reduceAdd,Nat.reduceBEq,cond_true,cond_false];intro K hK;skip;go_simp;exact hK
      refine RegG.is (c:=?_) [0] (by simp only[List.nil_append,List.cons_append,List.length_append,List.length_cons,List.length_nil,Nat.reduceAdd];exact rfl) (by simp only[List.getElem?_toArray,List.getElem?_cons_zero,List.getElem?_cons_succ];exact rfl) (by kernel_rfl) (fun w hb=>?_) ?_;rotate_left
      ·
       simp only[Given,List.nil_append,List.cons_append,List.getD_cons_zero,List.getD_cons_succ,Qaa,Act.put,List.setIfInBounds_toArray,List.set_cons_zero,List.set_cons_succ,Nat.reduceAdd,Nat.reduceBEq,cond_true,cond_false];intro K hK;have hs4:=HSY.out.below hb HSY.out.lt;have c0:=hs4.cell 0;have c1:=hs4.cell 1;have c2:=hs4.cell 2;have c3:=hs4.cell 3;simp only[List.getElem?_toArray,List.getElem?_cons_zero,List.getElem?_cons_succ] at c0 c1 c2 c3;clear hs4;go_simp;exact hK
      refine RegG.step (φ:=FF v.2.1 4194400) [1] (by simp only[List.nil_append,List.cons_append,List.length_append,List.length_cons,List.length_nil,Nat.reduceAdd];exact rfl) (by simp only[List.getElem?_toArray,List.getElem?_cons_zero,List.getElem?_cons_succ];exact rfl) (by kernel_rfl) (FF.stays _ _) (fun w hb=>?_) ?_
      ·
       simp only[Given,List.nil_append,List.cons_append,List.getD_cons_zero,List.getD_cons_succ,Qaa,Act.put,List.setIfInBounds_toArray,List.set_cons_zero,List.set_cons_succ,Nat.reduceAdd,Nat.reduceBEq,cond_true,cond_false];skip;intro K hK;go_simp;exact Makes.use (FF.ofFits (HGY.out.below hb) HSV.out.w HSV.out.zw.1 HSV.out.zw.2 (by decide)) hK
      refine RegG.step (φ:=Is (.int .i64 σ)) [2] (by simp only[List.nil_append,List.cons_append,List.length_append,List.length_cons,List.length_nil,Nat.reduceAdd];exact rfl) (by simp only[List.getElem?_toArray,List.getElem?_cons_zero,List.getElem?_cons_succ];exact rfl) (by kernel_rfl) (Is.stays _) (fun w hb=>?_) ?_
      ·
       simp only[Given,List.nil_append,List.cons_append,List.getD_cons_zero,List.getD_cons_succ,Qaa,Act.put,List.setIfInBounds_toArray,List.set_cons_zero,List.set_cons_succ,Nat.reduceAdd,Nat.reduceBEq,cond_true,cond_false];intro v2 h2;intro K hK;go_simp;exact Makes.use (HSG.out ▸ FF.sign h2) hK
      refine RegG.is (c:=?_) [3] (by simp only[List.nil_append,List.cons_append,List.length_append,List.length_cons,List.length_nil,Nat.reduceAdd];exact rfl) (by simp only[List.getElem?_toArray,List.getElem?_cons_zero,List.getElem?_cons_succ];exact rfl) (by kernel_rfl) (fun w hb=>?_) ?_;rotate_left
      ·
       simp only[Given,List.nil_append,List.cons_append,List.getD_cons_zero,List.getD_cons_succ,Qaa,Act.put,List.setIfInBounds_toArray,List.set_cons_zero,List.set_cons_succ,Nat.reduceAdd,Nat.reduceBEq,cond_true,cond_false];intro K hK;skip;go_simp;exact hK
      refine RegG.is (c:=?_) [4] (by simp only[List.nil_append,List.cons_append,List.length_append,List.length_cons,List.length_nil,Nat.reduceAdd];exact rfl) (by simp only[List.getElem?_toArray,List.getElem?_cons_zero,List.getElem?_cons_succ];exact rfl) (by kernel_rfl) (fun w hb=>?_) ?_;rotate_left
      ·
       simp only[Given,List.nil_append,List.cons_append,List.getD_cons_zero,List.getD_cons_succ,Qaa,Act.put,List.setIfInBounds_toArray,List.set_cons_zero,List.set_cons_succ,Nat.reduceAdd,Nat.reduceBEq,cond_true,cond_false];intro K hK;skip;go_simp;exact hK
      refine RegG.is (c:=?_) [5] (by simp only[List.nil_append,List.cons_append,List.length_append,List.length_cons,List.length_nil,Nat.reduceAdd];exact rfl) (by simp only[List.getElem?_toArray,List.getElem?_cons_zero,List.getElem?_cons_succ];exact rfl) (by kernel_rfl) (fun w hb=>?_) ?_;rotate_left
      ·
       simp only[Given,List.nil_append,List.cons_append,List.getD_cons_zero,List.getD_cons_succ,Qaa,Act.put,List.setIfInBounds_toArray,List.set_cons_zero,List.set_cons_succ,Nat.reduceAdd,Nat.reduceBEq,cond_true,cond_false];intro K hK;skip;go_simp;exact hK
      refine RegG.is (c:=?_) [5,6] (by simp only[List.nil_append,List.cons_append,List.length_append,List.length_cons,List.length_nil,Nat.reduceAdd];exact rfl) (by simp only[List.getElem?_toArray,List.getElem?_cons_zero,List.getElem?_cons_succ];exact rfl) (by kernel_rfl) (fun w hb=>?_) ?_;rotate_left
      ·
       simp only[Given,List.nil_append,List.cons_append,List.getD_cons_zero,List.getD_cons_succ,Qaa,Act.put,List.setIfInBounds_toArray,List.set_cons_zero,List.set_cons_succ,Nat.reduceAdd,Nat.reduceBEq,cond_true,cond_false];intro K hK;skip;go_simp;exact hK
      refine RegG.is (c:=?_) [5,7] (by simp only[List.nil_append,List.cons_append,List.length_append,List.length_cons,List.length_nil,Nat.reduceAdd];exact rfl) (by simp only[List.getElem?_toArray,List.getElem?_cons_zero,List.getElem?_cons_succ];exact rfl) (by kernel_rfl) (fun w hb=>?_) ?_;rotate_left
      ·
       simp only[Given,List.nil_append,List.cons_append,List.getD_cons_zero,List.getD_cons_succ,Qaa,Act.put,List.setIfInBounds_toArray,List.set_cons_zero,List.set_cons_succ,Nat.reduceAdd,Nat.reduceBEq,cond_true,cond_false];intro K hK;skip;go_simp;exact hK
      refine RegG.is (c:=?_) [5] (by simp only[List.nil_append,List.cons_append,List.length_append,List.length_cons,List.length_nil,Nat.reduceAdd];exact rfl) (by simp only[List.getElem?_toArray,List.getElem?_cons_zero,List.getElem?_cons_succ];exact rfl) (by kernel_rfl) (fun w hb=>?_) ?_;rotate_left
      ·
       simp only[Given,List.nil_append,List.cons_append,List.getD_cons_zero,List.getD_cons_succ,Qaa,Act.put,List.setIfInBounds_toArray,List.set_cons_zero,List.set_cons_succ,Nat.reduceAdd,Nat.reduceBEq,cond_true,cond_false];intro K hK;skip;go_simp;exact hK
      refine RegG.is (c:=?_) [5,9] (by simp only[List.nil_append,List.cons_append,List.length_append,List.length_cons,List.length_nil,Nat.reduceAdd];exact rfl) (by simp only[List.getElem?_toArray,List.getElem?_cons_zero,List.getElem?_cons_succ];exact rfl) (by kernel_rfl) (fun w hb=>?_) ?_;rotate_left
      ·
       simp only[Given,List.nil_append,List.cons_append,List.getD_cons_zero,List.getD_cons_succ,Qaa,Act.put,List.setIfInBounds_toArray,List.set_cons_zero,List.set_cons_succ,Nat.reduceAdd,Nat.reduceBEq,cond_true,cond_false];intro K hK;skip;go_simp;exact hK
      refine RegG.is (c:=?_) [5,10] (by simp only[List.nil_append,List.cons_append,List.length_append,List.length_cons,List.length_nil,Nat.reduceAdd];exact rfl) (by simp only[List.getElem?_toArray,List.getElem?_cons_zero,List.getElem?_cons_succ];exact rfl) (by kernel_rfl) (fun w hb=>?_) ?_;rotate_left
      ·
       simp only[Given,List.nil_append,List.cons_append,List.getD_cons_zero,List.getD_cons_succ,Qaa,Act.put,List.setIfInBounds_toArray,List.set_cons_zero,List.set_cons_succ,Nat.reduceAdd,Nat.reduceBEq,cond_true,cond_false];intro K hK;skip;go_simp;exact hK
      refine RegG.is (c:=?_) [5,8,11] (by simp only[List.nil_append,List.cons_append,List.length_append,List.length_cons,List.length_nil,Nat.reduceAdd];exact rfl) (by simp only[List.getElem?_toArray,List.getElem?_cons_zero,List.getElem?_cons_succ];exact rfl) (by kernel_rfl) (fun w hb=>?_) ?_;rotate_left
      ·
       simp only[Given,List.nil_append,List.cons_append,List.getD_cons_zero,List.getD_cons_succ,Qaa,Act.put,List.setIfInBounds_toArray,List.set_cons_zero,List.set_cons_succ,Nat.reduceAdd,Nat.reduceBEq,cond_true,cond_false];intro K hK;skip;go_simp;exact hK
      refine RegG.is (c:=?_) [5,12] (by simp only[List.nil_append,List.cons_append,List.length_append,List.length_cons,List.length_nil,Nat.reduceAdd];exact rfl) (by simp only[List.getElem?_toArray,List.getElem?_cons_zero,List.getElem?_cons_succ];exact rfl) (by kernel_rfl) (fun w hb=>?_) ?_;rotate_left
      ·
       simp only[Given,List.nil_append,List.cons_append,List.getD_cons_zero,List.getD_cons_succ,Qaa,Act.put,List.setIfInBounds_toArray,List.set_cons_zero,List.set_cons_succ,Nat.reduceAdd,Nat.reduceBEq,cond_true,cond_false];intro K hK;skip;go_simp;exact hK
      refine RegG.is (c:=?_) [5,13] (by simp only[List.nil_append,List.cons_append,List.length_append,List.length_cons,List.length_nil,Nat.reduceAdd];exact rfl) (by simp only[List.getElem?_toArray,List.getElem?_cons_zero,List.getElem?_cons_succ];exact rfl) (by kernel_rfl) (fun w hb=>?_) ?_;rotate_left
      ·
       simp only[Given,List.nil_append,List.cons_append,List.getD_cons_zero,List.getD_cons_succ,Qaa,Act.put,List.setIfInBounds_toArray,List.set_cons_zero,List.set_cons_succ,Nat.reduceAdd,Nat.reduceBEq,cond_true,cond_false];intro K hK;skip;go_simp;exact hK
      refine RegG.fin (by rfl) (fun u9 hb=>?_);simp only[FinG,List.nil_append,List.cons_append,Qaa,Act.put,List.setIfInBounds_toArray,List.set_cons_zero,List.set_cons_succ,Nat.reduceAdd,Nat.reduceBEq,cond_true,cond_false];intro v2 _;have HB9:=Hi (HBX2.out.trans (hb.mono HBX2.out.size));clear hb;have hs0:=HS0.out.below HB9.out HS0.out.lt;have z0:=hs0.cell 0;have z1:=hs0.cell 1;have f0:=hs0.free 0;have f1:=hs0.free 1;simp only[List.getElem?_toArray,List.getElem?_cons_zero,List.getElem?_cons_succ] at z0 z1;have HS4:=Hi hs0;have HB4:=Hi (HB0.out.trans (HB9.out.mono HB0.out.size));clear hs0;go_wp2;refine bodyPost_ret (v:=.agg #[.int .i64 5,.int .i64 (k:Int)]) (results_cell_row rfl _ _ B0 32 #[.int .i64 5,.int .i64 (k:Int)] (0,0) _ rfl ((HS4.out.set 0 _).set 1 _) Tryz.underlying32 rfl Tryz.faultInfo) rfl ?_
      exact⟨by rw[HAF.out],(HB4.out.setCell (p:=⟨B0,0,none⟩) (Nat.le_of_eq HB0E.out) _).setCell (p:=⟨B0,1,none⟩) (Nat.le_of_eq HB0E.out) _⟩
     ·
      obtain⟨σ,hσ⟩:∃σ,sgn3 v.2.1.num=σ:=⟨_,rfl⟩;have e8:decide (σ<0)=false:=decide_eq_false (by rw[←hσ];exact fun hc=>hw ((Qbe _).1 hc));obtain⟨C,hC⟩:∃C,cmpQ v.2.2.1 v.2.2.2=C:=⟨_,rfl⟩;have HSG:=Hi hσ;have HCE:=Hi hC;have HW:=Hi hw;clear hw hσ hC;refine RegG.begin 15 (fun j=>some (39+j)) (by kernel_rfl) (by kernel_rfl) (by kernel_rfl) rfl ?_;rw[HXE.out];refine RegG.is (c:=?_) [] (by simp only[List.nil_append,List.cons_append,List.length_append,List.length_cons,List.length_nil,Nat.reduceAdd];exact rfl) (by simp only[List.getElem?_toArray,List.getElem?_cons_zero,List.getElem?_cons_succ];exact rfl) (by kernel_rfl) (fun w hb=>?_) ?_;rotate_left
      ·
       simp only[Given,List.nil_append,List.cons_append,List.getD_cons_zero,List.getD_cons_succ,Qaa,Act.put,List.setIfInBounds_toArray,List.set_cons_zero,List.set_cons_succ,Nat.reduceAdd,Nat.reduceBEq,cond_true,cond_false];intro K hK;skip;go_simp;exact hK
      refine RegG.is (c:=?_) [0] (by simp only[List.nil_append,List.cons_append,List.length_append,List.length_cons,List.length_nil,Nat.reduceAdd];exact rfl) (by simp only[List.getElem?_toArray,List.getElem?_cons_zero,List.getElem?_cons_succ];exact rfl) (by kernel_rfl) (fun w hb=>?_) ?_;rotate_left
      ·
       simp only[Given,List.nil_append,List.cons_append,List.getD_cons_zero,List.getD_cons_succ,Qaa,Act.put,List.setIfInBounds_toArray,List.set_cons_zero,List.set_cons_succ,Nat.reduceAdd,Nat.reduceBEq,cond_true,cond_false];intro K hK;have hs4:=HSY.out.below hb HSY.out.lt;have c0:=hs4.cell 0;have c1:=hs4.cell 1;have c2:=hs4.cell 2;have c3:=hs4.cell 3;simp only[List.getElem?_toArray,List.getElem?_cons_zero,List.getElem?_cons_succ] at c0 c1 c2 c3;clear hs4;go_simp;exact hK
      refine RegG.step (φ:=FF v.2.1 4194400) [1] (by simp only[List.nil_append,List.cons_append,List.length_append,List.length_cons,List.length_nil,Nat.reduceAdd];exact rfl) (by simp only[List.getElem?_toArray,List.getElem?_cons_zero,List.getElem?_cons_succ];exact rfl) (by kernel_rfl) (FF.stays _ _) (fun w hb=>?_) ?_
      ·
       simp only[Given,List.nil_append,List.cons_append,List.getD_cons_zero,List.getD_cons_succ,Qaa,Act.put,List.setIfInBounds_toArray,List.set_cons_zero,List.set_cons_succ,Nat.reduceAdd,Nat.reduceBEq,cond_true,cond_false];skip;intro K hK;go_simp;exact Makes.use (FF.ofFits (HGY.out.below hb) HSV.out.w HSV.out.zw.1 HSV.out.zw.2 (by decide)) hK
      refine RegG.step (φ:=Is (.int .i64 σ)) [2] (by simp only[List.nil_append,List.cons_append,List.length_append,List.length_cons,List.length_nil,Nat.reduceAdd];exact rfl) (by simp only[List.getElem?_toArray,List.getElem?_cons_zero,List.getElem?_cons_succ];exact rfl) (by kernel_rfl) (Is.stays _) (fun w hb=>?_) ?_
      ·
       simp only[Given,List.nil_append,List.cons_append,List.getD_cons_zero,List.getD_cons_succ,Qaa,Act.put,List.setIfInBounds_toArray,List.set_cons_zero,List.set_cons_succ,Nat.reduceAdd,Nat.reduceBEq,cond_true,cond_false];intro v2 h2;intro K hK;go_simp;exact Makes.use (HSG.out ▸ FF.sign h2) hK
      refine RegG.is (c:=?_) [3] (by simp only[List.nil_append,List.cons_append,List.length_append,List.length_cons,List.length_nil,Nat.reduceAdd];exact rfl) (by simp only[List.getElem?_toArray,List.getElem?_cons_zero,List.getElem?_cons_succ];exact rfl) (by kernel_rfl) (fun w hb=>?_) ?_;rotate_left
      ·
       simp only[Given,List.nil_append,List.cons_append,List.getD_cons_zero,List.getD_cons_succ,Qaa,Act.put,List.setIfInBounds_toArray,List.set_cons_zero,List.set_cons_succ,Nat.reduceAdd,Nat.reduceBEq,cond_true,cond_false];intro K hK;skip;go_simp;exact hK
      refine RegG.is (c:=?_) [4] (by simp only[List.nil_append,List.cons_append,List.length_append,List.length_cons,List.length_nil,Nat.reduceAdd];exact rfl) (by simp only[List.getElem?_toArray,List.getElem?_cons_zero,List.getElem?_cons_succ];exact rfl) (by kernel_rfl) (fun w hb=>?_) ?_;rotate_left
      ·
       simp only[Given,List.nil_append,List.cons_append,List.getD_cons_zero,List.getD_cons_succ,Qaa,Act.put,List.setIfInBounds_toArray,List.set_cons_zero,List.set_cons_succ,Nat.reduceAdd,Nat.reduceBEq,cond_true,cond_false];intro K hK;skip;go_simp;exact hK
      refine RegG.is (c:=?_) [5] (by simp only[List.nil_append,List.cons_append,List.length_append,List.length_cons,List.length_nil,Nat.reduceAdd];exact rfl) (by simp only[List.getElem?_toArray,List.getElem?_cons_zero,List.getElem?_cons_succ];exact rfl) (by kernel_rfl) (fun w hb=>?_) ?_;rotate_left
      ·
       simp only[Given,List.nil_append,List.cons_append,List.getD_cons_zero,List.getD_cons_succ,Qaa,Act.put,List.setIfInBounds_toArray,List.set_cons_zero,List.set_cons_succ,Nat.reduceAdd,Nat.reduceBEq,cond_true,cond_false];intro K hK;skip;go_simp;exact hK
      refine RegG.is (c:=?_) [5,6] (by simp only[List.nil_append,List.cons_append,List.length_append,List.length_cons,List.length_nil,Nat.reduceAdd];exact rfl) (by simp only[List.getElem?_toArray,List.getElem?_cons_zero,List.getElem?_cons_succ];exact rfl) (by kernel_rfl) (fun w hb=>?_) ?_;rotate_left
      ·
       simp only[Given,List.nil_append,List.cons_append,List.getD_cons_zero,List.getD_cons_succ,Qaa,Act.put,List.setIfInBounds_toArray,List.set_cons_zero,List.set_cons_succ,Nat.reduceAdd,Nat.reduceBEq,cond_true,cond_false];intro K hK;have hs4:=HSY.out.below hb HSY.out.lt;have c0:=hs4.cell 0;have c1:=hs4.cell 1;have c2:=hs4.cell 2;have c3:=hs4.cell 3;simp only[List.getElem?_toArray,List.getElem?_cons_zero,List.getElem?_cons_succ] at c0 c1 c2 c3;clear hs4;go_simp;exact hK
      refine RegG.step (φ:=FF v.2.2.1 4194400) [5,7] (by simp only[List.nil_append,List.cons_append,List.length_append,List.length_cons,List.length_nil,Nat.reduceAdd];exact rfl) (by simp only[List.getElem?_toArray,List.getElem?_cons_zero,List.getElem?_cons_succ];exact rfl) (by kernel_rfl) (FF.stays _ _) (fun w hb=>?_) ?_
      ·
       simp only[Given,List.nil_append,List.cons_append,List.getD_cons_zero,List.getD_cons_succ,Qaa,Act.put,List.setIfInBounds_toArray,List.set_cons_zero,List.set_cons_succ,Nat.reduceAdd,Nat.reduceBEq,cond_true,cond_false];skip;intro K hK;go_simp;exact Makes.use (FF.ofFits (HGY.out.below hb) HSV.out.l HSV.out.zl.1 HSV.out.zl.2 (by decide)) hK
      refine RegG.is (c:=?_) [5] (by simp only[List.nil_append,List.cons_append,List.length_append,List.length_cons,List.length_nil,Nat.reduceAdd];exact rfl) (by simp only[List.getElem?_toArray,List.getElem?_cons_zero,List.getElem?_cons_succ];exact rfl) (by kernel_rfl) (fun w hb=>?_) ?_;rotate_left
      ·
       simp only[Given,List.nil_append,List.cons_append,List.getD_cons_zero,List.getD_cons_succ,Qaa,Act.put,List.setIfInBounds_toArray,List.set_cons_zero,List.set_cons_succ,Nat.reduceAdd,Nat.reduceBEq,cond_true,cond_false];intro K hK;skip;go_simp;exact hK
      refine RegG.is (c:=?_) [5,9] (by simp only[List.nil_append,List.cons_append,List.length_append,List.length_cons,List.length_nil,Nat.reduceAdd];exact rfl) (by simp only[List.getElem?_toArray,List.getElem?_cons_zero,List.getElem?_cons_succ];exact rfl) (by kernel_rfl) (fun w hb=>?_) ?_;rotate_left
      ·
       simp only[Given,List.nil_append,List.cons_append,List.getD_cons_zero,List.getD_cons_succ,Qaa,Act.put,List.setIfInBounds_toArray,List.set_cons_zero,List.set_cons_succ,Nat.reduceAdd,Nat.reduceBEq,cond_true,cond_false];intro K hK;have hs4:=HSY.out.below hb HSY.out.lt;have c0:=hs4.cell 0;have c1:=hs4.cell 1;have c2:=hs4.cell 2;have c3:=hs4.cell 3;simp only[List.getElem?_toArray,List.getElem?_cons_zero,List.getElem?_cons_succ] at c0 c1 c2 c3;clear hs4;go_simp;exact hK
      refine RegG.step (φ:=FF v.2.2.2 4194400) [5,10] (by simp only[List.nil_append,List.cons_append,List.length_append,List.length_cons,List.length_nil,Nat.reduceAdd];exact rfl) (by simp only[List.getElem?_toArray,List.getElem?_cons_zero,List.getElem?_cons_succ];exact rfl) (by kernel_rfl) (FF.stays _ _) (fun w hb=>?_) ?_
      ·
       simp only[Given,List.nil_append,List.cons_append,List.getD_cons_zero,List.getD_cons_succ,Qaa,Act.put,List.setIfInBounds_toArray,List.set_cons_zero,List.set_cons_succ,Nat.reduceAdd,Nat.reduceBEq,cond_true,cond_false];skip;intro K hK;go_simp;exact Makes.use (FF.ofFits (HGY.out.below hb) HSV.out.h HSV.out.zh.1 HSV.out.zh.2 (by decide)) hK
      refine RegG.step (φ:=Is (.int .i64 C)) [5,8,11] (by simp only[List.nil_append,List.cons_append,List.length_append,List.length_cons,List.length_nil,Nat.reduceAdd];exact rfl) (by simp only[List.getElem?_toArray,List.getElem?_cons_zero,List.getElem?_cons_succ];exact rfl) (by kernel_rfl) (Is.stays _) (fun w hb=>?_) ?_
      ·
       simp only[Given,List.nil_append,List.cons_append,List.getD_cons_zero,List.getD_cons_succ,Qaa,Act.put,List.setIfInBounds_toArray,List.set_cons_zero,List.set_cons_succ,Nat.reduceAdd,Nat.reduceBEq,cond_true,cond_false];intro v8 h8 v11 h11;intro K hK;go_simp;exact Makes.use (HCE.out ▸ FF.compare h8 h11 (by decide)) hK
      refine RegG.is (c:=?_) [5,12] (by simp only[List.nil_append,List.cons_append,List.length_append,List.length_cons,List.length_nil,Nat.reduceAdd];exact rfl) (by simp only[List.getElem?_toArray,List.getElem?_cons_zero,List.getElem?_cons_succ];exact rfl) (by kernel_rfl) (fun w hb=>?_) ?_;rotate_left
      ·
       simp only[Given,List.nil_append,List.cons_append,List.getD_cons_zero,List.getD_cons_succ,Qaa,Act.put,List.setIfInBounds_toArray,List.set_cons_zero,List.set_cons_succ,Nat.reduceAdd,Nat.reduceBEq,cond_true,cond_false];intro K hK;skip;go_simp;exact hK
      refine RegG.is (c:=?_) [5,13] (by simp only[List.nil_append,List.cons_append,List.length_append,List.length_cons,List.length_nil,Nat.reduceAdd];exact rfl) (by simp only[List.getElem?_toArray,List.getElem?_cons_zero,List.getElem?_cons_succ];exact rfl) (by kernel_rfl) (fun w hb=>?_) ?_;rotate_left
      ·
       simp only[Given,List.nil_append,List.cons_append,List.getD_cons_zero,List.getD_cons_succ,Qaa,Act.put,List.setIfInBounds_toArray,List.set_cons_zero,List.set_cons_succ,Nat.reduceAdd,Nat.reduceBEq,cond_true,cond_false];intro K hK;skip;go_simp;exact hK
      refine RegG.fin (by rfl) (fun u9 hb=>?_);simp only[FinG,List.nil_append,List.cons_append,Qaa,Act.put,List.setIfInBounds_toArray,List.set_cons_zero,List.set_cons_succ,Nat.reduceAdd,Nat.reduceBEq,cond_true,cond_false];intro v2 _ v8 _ v11 _;have HB9:=Hi (HBX2.out.trans (hb.mono HBX2.out.size));clear hb;by_cases hc:0<C
      ·
       have e9:decide (0<C)=true:=decide_eq_true hc;have HAF:Hid (archF vs=(5,(k:Int))):=Hi (by
        have e:stoneC (ahead vs k) v=5:=by rw[HNO.out];exact if_pos (Or.inr ((Qbb _ _).1 (by rw[HCE.out];exact hc)))
        rw[HAFK.out,e,if_neg (by decide)])
       clear hc;simp only[e9];have hs0:=HS0.out.below HB9.out HS0.out.lt;have z0:=hs0.cell 0;have z1:=hs0.cell 1;have f0:=hs0.free 0;have f1:=hs0.free 1;simp only[List.getElem?_toArray,List.getElem?_cons_zero,List.getElem?_cons_succ] at z0 z1;have HS4:=Hi hs0;have HB4:=Hi (HB0.out.trans (HB9.out.mono HB0.out.size));clear hs0;go_wp2;refine bodyPost_ret (v:=.agg #[.int .i64 5,.int .i64 (k:Int)]) (results_cell_row rfl _ _ B0 32 #[.int .i64 5,.int .i64 (k:Int)] (0,0) _ rfl ((HS4.out.set 0 _).set 1 _) Tryz.underlying32 rfl Tryz.faultInfo) rfl ?_;exact⟨by rw[HAF.out],(HB4.out.setCell (p:=⟨B0,0,none⟩) (Nat.le_of_eq HB0E.out) _).setCell (p:=⟨B0,1,none⟩) (Nat.le_of_eq HB0E.out) _⟩
      ·
       have e9:decide (0<C)=false:=decide_eq_false hc;have HAF:Hid (archF vs=archFrom (k+1) (ahead vs (k+1)) (vs.drop (k+1))):=Hi (by
        have e:stoneC (ahead vs k) v=0:=by
         rw[HNO.out];refine if_neg (fun h=>?_);rcases h with h|h
         · exact HW.out h
         · exact hc (by rw[←HCE.out];exact(Qbb _ _).2 h)
        rw[HAFK.out,if_pos e])
       clear hc;simp only[e9];go_wp2;go_roundw
       case rel=>exact⟨k+1,by omega,by go_num,HAF.out,HB9.out⟩
       case measure=>simp[intOf];omega
    ·
     have e0:decide (0<k)=true:=decide_eq_true (by omega);obtain⟨k',hk'⟩:∃k',k=k'+1:=⟨k - 1,by omega⟩;have e1:(k:Int) - 1=(k':Int):=by omega
     have q2:((k':Int)<(ss.length:Int)):=by omega
     have wr1:IntKind.i64.wrap (k':Int)=(k':Int):=Qau _ (by omega) (by omega);obtain⟨s',hs'⟩:∃s',ss[k']?=some s':=⟨_,List.getElem?_eq_getElem (by omega)⟩;obtain⟨v',hv'⟩:∃v',vs[k']?=some v':=⟨vs[k']'(by have:=HVL.out;omega),List.getElem?_eq_getElem _⟩;have HSV':=Hi (HV.out.each k' s' v' hs' hv');obtain⟨sb2,so2,hse,hlt2,hp0,_⟩:=(HRW.out.below (HB0.out.trans (HBY.out.mono HB0.out.size))).stone hs';cases hse;have HCP:=Hi hp0;have HLT:=Hi hlt2;have HAH:Hid (ahead vs k=some v'.1):=Hi (by rw[hk'];simp[ahead,hv']);obtain⟨C6,hC6⟩:∃C6,cmpQ v.1 v'.1=C6:=⟨_,rfl⟩;have HC6:=Hi hC6;clear hk' hs' hv' hp0 hlt2 hC6;go_wp2_with fail;rw[HZE.out];simp only[HHB.out];clear d0 d1 d2 d3;refine RegG.begin 16 (fun j=>some (21+j)) (by kernel_rfl) (by kernel_rfl) (by kernel_rfl) rfl ?_;rw[HYE.out]
     refine RegG.is (c:=?_) [] (by simp only[List.nil_append,List.cons_append,List.length_append,List.length_cons,List.length_nil,Nat.reduceAdd];exact rfl) (by simp only[List.getElem?_toArray,List.getElem?_cons_zero,List.getElem?_cons_succ];exact rfl) (by kernel_rfl) (fun w hb=>?_) ?_;rotate_left
     ·
      simp only[Given,List.nil_append,List.cons_append,List.getD_cons_zero,List.getD_cons_succ,Qaa,Act.put,List.setIfInBounds_toArray,List.set_cons_zero,List.set_cons_succ,Nat.reduceAdd,Nat.reduceBEq,cond_true,cond_false];intro K hK;skip;go_simp;exact hK
     refine RegG.is (c:=?_) [0] (by simp only[List.nil_append,List.cons_append,List.length_append,List.length_cons,List.length_nil,Nat.reduceAdd];exact rfl) (by simp only[List.getElem?_toArray,List.getElem?_cons_zero,List.getElem?_cons_succ];exact rfl) (by kernel_rfl) (fun w hb=>?_) ?_;rotate_left
     ·
      simp only[Given,List.nil_append,List.cons_append,List.getD_cons_zero,List.getD_cons_succ,Qaa,Act.put,List.setIfInBounds_toArray,List.set_cons_zero,List.set_cons_succ,Nat.reduceAdd,Nat.reduceBEq,cond_true,cond_false];intro K hK;skip;go_simp;exact hK
     refine RegG.is (c:=?_) [1] (by simp only[List.nil_append,List.cons_append,List.length_append,List.length_cons,List.length_nil,Nat.reduceAdd];exact rfl) (by simp only[List.getElem?_toArray,List.getElem?_cons_zero,List.getElem?_cons_succ];exact rfl) (by kernel_rfl) (fun w hb=>?_) ?_;rotate_left
     ·
      simp only[Given,List.nil_append,List.cons_append,List.getD_cons_zero,List.getD_cons_succ,Qaa,Act.put,List.setIfInBounds_toArray,List.set_cons_zero,List.set_cons_succ,Nat.reduceAdd,Nat.reduceBEq,cond_true,cond_false];intro K hK;skip;go_simp;exact hK
     refine RegG.is (c:=?_) [2] (by simp only[List.nil_append,List.cons_append,List.length_append,List.length_cons,List.length_nil,Nat.reduceAdd];exact rfl) (by simp only[List.getElem?_toArray,List.getElem?_cons_zero,List.getElem?_cons_succ];exact rfl) (by kernel_rfl) (fun w hb=>?_) ?_;rotate_left
     ·
      simp only[Given,List.nil_append,List.cons_append,List.getD_cons_zero,List.getD_cons_succ,Qaa,Act.put,List.setIfInBounds_toArray,List.set_cons_zero,List.set_cons_succ,Nat.reduceAdd,Nat.reduceBEq,cond_true,cond_false];intro K hK;skip;go_simp;exact hK
     refine RegG.is (c:=?_) [2,3] (by simp only[List.nil_append,List.cons_append,List.length_append,List.length_cons,List.length_nil,Nat.reduceAdd];exact rfl) (by simp only[List.getElem?_toArray,List.getElem?_cons_zero,List.getElem?_cons_succ];exact rfl) (by kernel_rfl) (fun w hb=>?_) ?_;rotate_left
     ·
      simp only[Given,List.nil_append,List.cons_append,List.getD_cons_zero,List.getD_cons_succ,Qaa,Act.put,List.setIfInBounds_toArray,List.set_cons_zero,List.set_cons_succ,Nat.reduceAdd,Nat.reduceBEq,cond_true,cond_false];intro K hK;have hs4:=HSY.out.below hb HSY.out.lt;have c0:=hs4.cell 0;have c1:=hs4.cell 1;have c2:=hs4.cell 2;have c3:=hs4.cell 3;simp only[List.getElem?_toArray,List.getElem?_cons_zero,List.getElem?_cons_succ] at c0 c1 c2 c3;clear hs4;go_simp;exact hK
     refine RegG.step (φ:=FF v.1 4194400) [2,4] (by simp only[List.nil_append,List.cons_append,List.length_append,List.length_cons,List.length_nil,Nat.reduceAdd];exact rfl) (by simp only[List.getElem?_toArray,List.getElem?_cons_zero,List.getElem?_cons_succ];exact rfl) (by kernel_rfl) (FF.stays _ _) (fun w hb=>?_) ?_
     ·
      simp only[Given,List.nil_append,List.cons_append,List.getD_cons_zero,List.getD_cons_succ,Qaa,Act.put,List.setIfInBounds_toArray,List.set_cons_zero,List.set_cons_succ,Nat.reduceAdd,Nat.reduceBEq,cond_true,cond_false];skip;intro K hK;go_simp;exact Makes.use (FF.ofFits (HGY.out.below hb) HSV.out.a HSV.out.za.1 HSV.out.za.2 (by decide)) hK
     refine RegG.is (c:=?_) [2] (by simp only[List.nil_append,List.cons_append,List.length_append,List.length_cons,List.length_nil,Nat.reduceAdd];exact rfl) (by simp only[List.getElem?_toArray,List.getElem?_cons_zero,List.getElem?_cons_succ];exact rfl) (by kernel_rfl) (fun w hb=>?_) ?_;rotate_left
     ·
      simp only[Given,List.nil_append,List.cons_append,List.getD_cons_zero,List.getD_cons_succ,Qaa,Act.put,List.setIfInBounds_toArray,List.set_cons_zero,List.set_cons_succ,Nat.reduceAdd,Nat.reduceBEq,cond_true,cond_false];intro K hK;skip;go_simp;exact hK
     refine RegG.is (c:=?_) [2] (by simp only[List.nil_append,List.cons_append,List.length_append,List.length_cons,List.length_nil,Nat.reduceAdd];exact rfl) (by simp only[List.getElem?_toArray,List.getElem?_cons_zero,List.getElem?_cons_succ];exact rfl) (by kernel_rfl) (fun w hb=>?_) ?_;rotate_left
     ·
      simp only[Given,List.nil_append,List.cons_append,List.getD_cons_zero,List.getD_cons_succ,Qaa,Act.put,List.setIfInBounds_toArray,List.set_cons_zero,List.set_cons_succ,Nat.reduceAdd,Nat.reduceBEq,cond_true,cond_false];intro K hK;skip;go_simp;exact hK
     refine RegG.is (c:=?_) [2,7] (by simp only[List.nil_append,List.cons_append,List.length_append,List.length_cons,List.length_nil,Nat.reduceAdd];exact rfl) (by simp only[List.getElem?_toArray,List.getElem?_cons_zero,List.getElem?_cons_succ];exact rfl) (by kernel_rfl) (fun w hb=>?_) ?_;rotate_left
     ·
      simp only[Given,List.nil_append,List.cons_append,List.getD_cons_zero,List.getD_cons_succ,Qaa,Act.put,List.setIfInBounds_toArray,List.set_cons_zero,List.set_cons_succ,Nat.reduceAdd,Nat.reduceBEq,cond_true,cond_false];intro K hK;skip;go_simp;exact hK
     refine RegG.is (c:=?_) [2,6,8] (by simp only[List.nil_append,List.cons_append,List.length_append,List.length_cons,List.length_nil,Nat.reduceAdd];exact rfl) (by simp only[List.getElem?_toArray,List.getElem?_cons_zero,List.getElem?_cons_succ];exact rfl) (by kernel_rfl) (fun w hb=>?_) ?_;rotate_left
     ·
      simp only[Given,List.nil_append,List.cons_append,List.getD_cons_zero,List.getD_cons_succ,Qaa,Act.put,List.setIfInBounds_toArray,List.set_cons_zero,List.set_cons_succ,Nat.reduceAdd,Nat.reduceBEq,cond_true,cond_false];intro K hK;skip;go_simp;exact hK
     refine RegG.is (c:=?_) [2,9] (by simp only[List.nil_append,List.cons_append,List.length_append,List.length_cons,List.length_nil,Nat.reduceAdd];exact rfl) (by simp only[List.getElem?_toArray,List.getElem?_cons_zero,List.getElem?_cons_succ];exact rfl) (by kernel_rfl) (fun w hb=>?_) ?_;rotate_left
     ·
      simp only[Given,List.nil_append,List.cons_append,List.getD_cons_zero,List.getD_cons_succ,Qaa,Act.put,List.setIfInBounds_toArray,List.set_cons_zero,List.set_cons_succ,Nat.reduceAdd,Nat.reduceBEq,cond_true,cond_false];intro K hK;skip;go_simp;exact hK
     refine RegG.is (c:=?_) [2,10] (by simp only[List.nil_append,List.cons_append,List.length_append,List.length_cons,List.length_nil,Nat.reduceAdd];exact rfl) (by simp only[List.getElem?_toArray,List.getElem?_cons_zero,List.getElem?_cons_succ];exact rfl) (by kernel_rfl) (fun w hb=>?_) ?_;rotate_left
     ·
      simp only[Given,List.nil_append,List.cons_append,List.getD_cons_zero,List.getD_cons_succ,Qaa,Act.put,List.setIfInBounds_toArray,List.set_cons_zero,List.set_cons_succ,Nat.reduceAdd,Nat.reduceBEq,cond_true,cond_false];intro K hK;have w0:=(hb.cell (p:=⟨sb,so+k'*4,none⟩) HLT.out).trans HCP.out;go_simp;exact hK
     refine RegG.step (φ:=FF v'.1 4194400) [2,11] (by simp only[List.nil_append,List.cons_append,List.length_append,List.length_cons,List.length_nil,Nat.reduceAdd];exact rfl) (by simp only[List.getElem?_toArray,List.getElem?_cons_zero,List.getElem?_cons_succ];exact rfl) (by kernel_rfl) (FF.stays _ _) (fun w hb=>?_) ?_
     ·
      simp only[Given,List.nil_append,List.cons_append,List.getD_cons_zero,List.getD_cons_succ,Qaa,Act.put,List.setIfInBounds_toArray,List.set_cons_zero,List.set_cons_succ,Nat.reduceAdd,Nat.reduceBEq,cond_true,cond_false];skip;intro K hK;go_simp;exact Makes.use (FF.ofFits (HGY.out.below hb) HSV'.out.a HSV'.out.za.1 HSV'.out.za.2 (by decide)) hK
     refine RegG.step (φ:=Is (.int .i64 C6)) [2,5,12] (by simp only[List.nil_append,List.cons_append,List.length_append,List.length_cons,List.length_nil,Nat.reduceAdd];exact rfl) (by simp only[List.getElem?_toArray,List.getElem?_cons_zero,List.getElem?_cons_succ];exact rfl) (by kernel_rfl) (Is.stays _) (fun w hb=>?_) ?_
     ·
      simp only[Given,List.nil_append,List.cons_append,List.getD_cons_zero,List.getD_cons_succ,Qaa,Act.put,List.setIfInBounds_toArray,List.set_cons_zero,List.set_cons_succ,Nat.reduceAdd,Nat.reduceBEq,cond_true,cond_false];intro v5 h5 v12 h12;intro K hK;go_simp;exact Makes.use (HC6.out ▸ FF.compare h5 h12 (by decide)) hK
     refine RegG.is (c:=?_) [2,13] (by simp only[List.nil_append,List.cons_append,List.length_append,List.length_cons,List.length_nil,Nat.reduceAdd];exact rfl) (by simp only[List.getElem?_toArray,List.getElem?_cons_zero,List.getElem?_cons_succ];exact rfl) (by kernel_rfl) (fun w hb=>?_) ?_;rotate_left
     ·
      simp only[Given,List.nil_append,List.cons_append,List.getD_cons_zero,List.getD_cons_succ,Qaa,Act.put,List.setIfInBounds_toArray,List.set_cons_zero,List.set_cons_succ,Nat.reduceAdd,Nat.reduceBEq,cond_true,cond_false];intro K hK;skip;go_simp;exact hK
     refine RegG.is (c:=?_) [2,14] (by simp only[List.nil_append,List.cons_append,List.length_append,List.length_cons,List.length_nil,Nat.reduceAdd];exact rfl) (by simp only[List.getElem?_toArray,List.getElem?_cons_zero,List.getElem?_cons_succ];exact rfl) (by kernel_rfl) (fun w hb=>?_) ?_;rotate_left
     ·
      simp only[Given,List.nil_append,List.cons_append,List.getD_cons_zero,List.getD_cons_succ,Qaa,Act.put,List.setIfInBounds_toArray,List.set_cons_zero,List.set_cons_succ,Nat.reduceAdd,Nat.reduceBEq,cond_true,cond_false];intro K hK;skip;go_simp;exact hK
     refine RegG.fin (by rfl) (fun X hb=>?_);simp only[FinG,List.nil_append,List.cons_append,Qaa,Act.put,List.setIfInBounds_toArray,List.set_cons_zero,List.set_cons_succ,Nat.reduceAdd,Nat.reduceBEq,cond_true,cond_false];intro v5 _ v12 _;have HBX:=Hi (HBY.out.trans (hb.mono HBY.out.size));have HSX:=Hi (HSY.out.below hb HSY.out.lt);clear hb HSY HGY;by_cases hc6:C6≤0
     ·
      have e6:decide (C6≤0)=true:=decide_eq_true hc6;have HAF:Hid (archF vs=(6,(k:Int))):=Hi (by
       have e:stoneC (ahead vs k) v=6:=by rw[HAH.out];exact if_pos ((Qb4 _ _).1 (by rw[HC6.out];exact hc6))
       rw[HAFK.out,e,if_neg (by decide)])
      clear hc6;simp only[e6];have hs0:=HS0.out.below HBX.out HS0.out.lt;have z0:=hs0.cell 0;have z1:=hs0.cell 1;have f0:=hs0.free 0;have f1:=hs0.free 1;simp only[List.getElem?_toArray,List.getElem?_cons_zero,List.getElem?_cons_succ] at z0 z1;have HS4:=Hi hs0;have HB4:=Hi (HB0.out.trans (HBX.out.mono HB0.out.size));clear hs0;go_wp2;refine bodyPost_ret (v:=.agg #[.int .i64 6,.int .i64 (k:Int)]) (results_cell_row rfl _ _ B0 32 #[.int .i64 6,.int .i64 (k:Int)] (0,0) _ rfl ((HS4.out.set 0 _).set 1 _) Tryz.underlying32 rfl Tryz.faultInfo) rfl ?_;exact⟨by rw[HAF.out],(HB4.out.setCell (p:=⟨B0,0,none⟩) (Nat.le_of_eq HB0E.out) _).setCell (p:=⟨B0,1,none⟩) (Nat.le_of_eq HB0E.out) _⟩
     ·
      have e6:decide (C6≤0)=false:=decide_eq_false hc6;have HNO:Hid (stoneC (ahead vs k) v=valC v):=Hi (by rw[HAH.out];exact if_neg (fun h=>hc6 (by rw[←HC6.out];exact(Qb4 _ _).2 h)));clear hc6;simp only[e6];go_wp2_with fail;obtain⟨X2,hX2⟩:∃X2,X.drew=X2:=⟨_,rfl⟩;have HXE:=Hi hX2;have HBX2:Hid (Below V.heap.size V X2):=Hi (by rw[←hX2];exact HBX.out.drew);have HSY:Hid (SB X2 hb0 28 #[.string s.a,.string s.w,.string s.l,.string s.h]):=Hi (by rw[←hX2];exact HSX.out);have HGY:Hid (Glob X2):=Hi (HG.out.below (HB0.out.trans (HBX2.out.mono HB0.out.size)));clear hX2;by_cases hw:v.2.1<0
      ·
       have HAF:Hid (archF vs=(5,(k:Int))):=Hi (by
        have e:stoneC (ahead vs k) v=5:=by rw[HNO.out];exact if_pos (Or.inl hw)
        rw[HAFK.out,e,if_neg (by decide)])
       obtain⟨σ,hσ⟩:∃σ,sgn3 v.2.1.num=σ:=⟨_,rfl⟩;have e8:decide (σ<0)=true:=decide_eq_true (by rw[←hσ];exact(Qbe _).2 hw);have HSG:=Hi hσ;clear hw hσ;refine RegG.begin 15 (fun j=>some (39+j)) (by kernel_rfl) (by kernel_rfl) (by kernel_rfl) rfl ?_;rw[HXE.out];refine RegG.is (c:=?_) [] (by simp only[List.nil_append,List.cons_append,List.length_append,List.length_cons,List.length_nil,Nat.reduceAdd];exact rfl) (by simp only[List.getElem?_toArray,List.getElem?_cons_zero,List.getElem?_cons_succ];exact rfl) (by kernel_rfl) (fun w hb=>?_) ?_;rotate_left
       ·
        simp only[Given,List.nil_append,List.cons_append,List.getD_cons_zero,List.getD_cons_succ,Qaa,Act.put,List.setIfInBounds_toArray,List.set_cons_zero,List.set_cons_succ,Nat.reduceAdd,Nat.reduceBEq,cond_true,cond_false];intro K hK;skip;go_simp;exact hK
       refine RegG.is (c:=?_) [0] (by simp only[List.nil_append,List.cons_append,List.length_append,List.length_cons,List.length_nil,Nat.reduceAdd];exact rfl) (by simp only[List.getElem?_toArray,List.getElem?_cons_zero,List.getElem?_cons_succ];exact rfl) (by kernel_rfl) (fun w hb=>?_) ?_;rotate_left
       ·
        simp only[Given,List.nil_append,List.cons_append,List.getD_cons_zero,List.getD_cons_succ,Qaa,Act.put,List.setIfInBounds_toArray,List.set_cons_zero,List.set_cons_succ,Nat.reduceAdd,Nat.reduceBEq,cond_true,cond_false];intro K hK;have hs4:=HSY.out.below hb HSY.out.lt;have c0:=hs4.cell 0;have c1:=hs4.cell 1;have c2:=hs4.cell 2;have c3:=hs4.cell 3;simp only[List.getElem?_toArray,List.getElem?_cons_zero,List.getElem?_cons_succ] at c0 c1 c2 c3;clear hs4;go_simp;exact hK
       refine RegG.step (φ:=FF v.2.1 4194400) [1] (by simp only[List.nil_append,List.cons_append,List.length_append,List.length_cons,List.length_nil,Nat.reduceAdd];exact rfl) (by simp only[List.getElem?_toArray,List.getElem?_cons_zero,List.getElem?_cons_succ];exact rfl) (by kernel_rfl) (FF.stays _ _) (fun w hb=>?_) ?_
       ·
        simp only[Given,List.nil_append,List.cons_append,List.getD_cons_zero,List.getD_cons_succ,Qaa,Act.put,List.setIfInBounds_toArray,List.set_cons_zero,List.set_cons_succ,Nat.reduceAdd,Nat.reduceBEq,cond_true,cond_false];skip;intro K hK;go_simp;exact Makes.use (FF.ofFits (HGY.out.below hb) HSV.out.w HSV.out.zw.1 HSV.out.zw.2 (by decide)) hK
       refine RegG.step (φ:=Is (.int .i64 σ)) [2] (by simp only[List.nil_append,List.cons_append,List.length_append,List.length_cons,List.length_nil,Nat.reduceAdd];exact rfl) (by simp only[List.getElem?_toArray,List.getElem?_cons_zero,List.getElem?_cons_succ];exact rfl) (by kernel_rfl) (Is.stays _) (fun w hb=>?_) ?_
       ·
        simp only[Given,List.nil_append,List.cons_append,List.getD_cons_zero,List.getD_cons_succ,Qaa,Act.put,List.setIfInBounds_toArray,List.set_cons_zero,List.set_cons_succ,Nat.reduceAdd,Nat.reduceBEq,cond_true,cond_false];intro v2 h2;intro K hK;go_simp;exact Makes.use (HSG.out ▸ FF.sign h2) hK
       refine RegG.is (c:=?_) [3] (by simp only[List.nil_append,List.cons_append,List.length_append,List.length_cons,List.length_nil,Nat.reduceAdd];exact rfl) (by simp only[List.getElem?_toArray,List.getElem?_cons_zero,List.getElem?_cons_succ];exact rfl) (by kernel_rfl) (fun w hb=>?_) ?_;rotate_left
       ·
        simp only[Given,List.nil_append,List.cons_append,List.getD_cons_zero,List.getD_cons_succ,Qaa,Act.put,List.setIfInBounds_toArray,List.set_cons_zero,List.set_cons_succ,Nat.reduceAdd,Nat.reduceBEq,cond_true,cond_false];intro K hK;skip;go_simp;exact hK
       refine RegG.is (c:=?_) [4] (by simp only[List.nil_append,List.cons_append,List.length_append,List.length_cons,List.length_nil,Nat.reduceAdd];exact rfl) (by simp only[List.getElem?_toArray,List.getElem?_cons_zero,List.getElem?_cons_succ];exact rfl) (by kernel_rfl) (fun w hb=>?_) ?_;rotate_left
       ·
        simp only[Given,List.nil_append,List.cons_append,List.getD_cons_zero,List.getD_cons_succ,Qaa,Act.put,List.setIfInBounds_toArray,List.set_cons_zero,List.set_cons_succ,Nat.reduceAdd,Nat.reduceBEq,cond_true,cond_false];intro K hK;skip;go_simp;exact hK
       refine RegG.is (c:=?_) [5] (by simp only[List.nil_append,List.cons_append,List.length_append,List.length_cons,List.length_nil,Nat.reduceAdd];exact rfl) (by simp only[List.getElem?_toArray,List.getElem?_cons_zero,List.getElem?_cons_succ];exact rfl) (by kernel_rfl) (fun w hb=>?_) ?_;rotate_left
       ·
        simp only[Given,List.nil_append,List.cons_append,List.getD_cons_zero,List.getD_cons_succ,Qaa,Act.put,List.setIfInBounds_toArray,List.set_cons_zero,List.set_cons_succ,Nat.reduceAdd,Nat.reduceBEq,cond_true,cond_false];intro K hK;skip;go_simp;exact hK
       refine RegG.is (c:=?_) [5,6] (by simp only[List.nil_append,List.cons_append,List.length_append,List.length_cons,List.length_nil,Nat.reduceAdd];exact rfl) (by simp only[List.getElem?_toArray,List.getElem?_cons_zero,List.getElem?_cons_succ];exact rfl) (by kernel_rfl) (fun w hb=>?_) ?_;rotate_left
       ·
        simp only[Given,List.nil_append,List.cons_append,List.getD_cons_zero,List.getD_cons_succ,Qaa,Act.put,List.setIfInBounds_toArray,List.set_cons_zero,List.set_cons_succ,Nat.reduceAdd,Nat.reduceBEq,cond_true,cond_false];intro K hK;skip;go_simp;exact hK
       refine RegG.is (c:=?_) [5,7] (by simp only[List.nil_append,List.cons_append,List.length_append,List.length_cons,List.length_nil,Nat.reduceAdd];exact rfl) (by simp only[List.getElem?_toArray,List.getElem?_cons_zero,List.getElem?_cons_succ];exact rfl) (by kernel_rfl) (fun w hb=>?_) ?_;rotate_left
       ·
        simp only[Given,List.nil_append,List.cons_append,List.getD_cons_zero,List.getD_cons_succ,Qaa,Act.put,List.setIfInBounds_toArray,List.set_cons_zero,List.set_cons_succ,Nat.reduceAdd,Nat.reduceBEq,cond_true,cond_false];intro K hK;skip;go_simp;exact hK
       refine RegG.is (c:=?_) [5] (by simp only[List.nil_append,List.cons_append,List.length_append,List.length_cons,List.length_nil,Nat.reduceAdd];exact rfl) (by simp only[List.getElem?_toArray,List.getElem?_cons_zero,List.getElem?_cons_succ];exact rfl) (by kernel_rfl) (fun w hb=>?_) ?_;rotate_left
       ·
        simp only[Given,List.nil_append,List.cons_append,List.getD_cons_zero,List.getD_cons_succ,Qaa,Act.put,List.setIfInBounds_toArray,List.set_cons_zero,List.set_cons_succ,Nat.reduceAdd,Nat.reduceBEq,cond_true,cond_false];intro K hK;skip;go_simp;exact hK
       refine RegG.is (c:=?_) [5,9] (by simp only[List.nil_append,List.cons_append,List.length_append,List.length_cons,List.length_nil,Nat.reduceAdd];exact rfl) (by simp only[List.getElem?_toArray,List.getElem?_cons_zero,List.getElem?_cons_succ];exact rfl) (by kernel_rfl) (fun w hb=>?_) ?_;rotate_left
       ·
        simp only[Given,List.nil_append,List.cons_append,List.getD_cons_zero,List.getD_cons_succ,Qaa,Act.put,List.setIfInBounds_toArray,List.set_cons_zero,List.set_cons_succ,Nat.reduceAdd,Nat.reduceBEq,cond_true,cond_false];intro K hK;skip;go_simp;exact hK
       refine RegG.is (c:=?_) [5,10] (by simp only[List.nil_append,List.cons_append,List.length_append,List.length_cons,List.length_nil,Nat.reduceAdd];exact rfl) (by simp only[List.getElem?_toArray,List.getElem?_cons_zero,List.getElem?_cons_succ];exact rfl) (by kernel_rfl) (fun w hb=>?_) ?_;rotate_left
       ·
        simp only[Given,List.nil_append,List.cons_append,List.getD_cons_zero,List.getD_cons_succ,Qaa,Act.put,List.setIfInBounds_toArray,List.set_cons_zero,List.set_cons_succ,Nat.reduceAdd,Nat.reduceBEq,cond_true,cond_false];intro K hK;skip;go_simp;exact hK
       refine RegG.is (c:=?_) [5,8,11] (by simp only[List.nil_append,List.cons_append,List.length_append,List.length_cons,List.length_nil,Nat.reduceAdd];exact rfl) (by simp only[List.getElem?_toArray,List.getElem?_cons_zero,List.getElem?_cons_succ];exact rfl) (by kernel_rfl) (fun w hb=>?_) ?_;rotate_left
       ·
        simp only[Given,List.nil_append,List.cons_append,List.getD_cons_zero,List.getD_cons_succ,Qaa,Act.put,List.setIfInBounds_toArray,List.set_cons_zero,List.set_cons_succ,Nat.reduceAdd,Nat.reduceBEq,cond_true,cond_false];intro K hK;skip;go_simp;exact hK
       refine RegG.is (c:=?_) [5,12] (by simp only[List.nil_append,List.cons_append,List.length_append,List.length_cons,List.length_nil,Nat.reduceAdd];exact rfl) (by simp only[List.getElem?_toArray,List.getElem?_cons_zero,List.getElem?_cons_succ];exact rfl) (by kernel_rfl) (fun w hb=>?_) ?_;rotate_left
       ·
        simp only[Given,List.nil_append,List.cons_append,List.getD_cons_zero,List.getD_cons_succ,Qaa,Act.put,List.setIfInBounds_toArray,List.set_cons_zero,List.set_cons_succ,Nat.reduceAdd,Nat.reduceBEq,cond_true,cond_false];intro K hK;skip;go_simp;exact hK
       refine RegG.is (c:=?_) [5,13] (by simp only[List.nil_append,List.cons_append,List.length_append,List.length_cons,List.length_nil,Nat.reduceAdd];exact rfl) (by simp only[List.getElem?_toArray,List.getElem?_cons_zero,List.getElem?_cons_succ];exact rfl) (by kernel_rfl) (fun w hb=>?_) ?_;rotate_left
       ·
        simp only[Given,List.nil_append,List.cons_append,List.getD_cons_zero,List.getD_cons_succ,Qaa,Act.put,List.setIfInBounds_toArray,List.set_cons_zero,List.set_cons_succ,Nat.reduceAdd,Nat.reduceBEq,cond_true,cond_false];intro K hK;skip;go_simp;exact hK
       refine RegG.fin (by rfl) (fun u9 hb=>?_);simp only[FinG,List.nil_append,List.cons_append,Qaa,Act.put,List.setIfInBounds_toArray,List.set_cons_zero,List.set_cons_succ,Nat.reduceAdd,Nat.reduceBEq,cond_true,cond_false];intro v2 _;have HB9:=Hi (HBX2.out.trans (hb.mono HBX2.out.size));clear hb;have hs0:=HS0.out.below HB9.out HS0.out.lt;have z0:=hs0.cell 0;have z1:=hs0.cell 1;have f0:=hs0.free 0;have f1:=hs0.free 1;simp only[List.getElem?_toArray,List.getElem?_cons_zero,List.getElem?_cons_succ] at z0 z1;have HS4:=Hi hs0;have HB4:=Hi (HB0.out.trans (HB9.out.mono HB0.out.size));clear hs0;go_wp2;refine bodyPost_ret (v:=.agg #[.int .i64 5,.int .i64 (k:Int)]) (results_cell_row rfl _ _ B0 32 #[.int .i64 5,.int .i64 (k:Int)] (0,0) _ rfl ((HS4.out.set 0 _).set 1 _) Tryz.underlying32 rfl Tryz.faultInfo) rfl ?_
       exact⟨by rw[HAF.out],(HB4.out.setCell (p:=⟨B0,0,none⟩) (Nat.le_of_eq HB0E.out) _).setCell (p:=⟨B0,1,none⟩) (Nat.le_of_eq HB0E.out) _⟩
      ·
       obtain⟨σ,hσ⟩:∃σ,sgn3 v.2.1.num=σ:=⟨_,rfl⟩;have e8:decide (σ<0)=false:=decide_eq_false (by rw[←hσ];exact fun hc=>hw ((Qbe _).1 hc));obtain⟨C,hC⟩:∃C,cmpQ v.2.2.1 v.2.2.2=C:=⟨_,rfl⟩;have HSG:=Hi hσ;have HCE:=Hi hC;have HW:=Hi hw;clear hw hσ hC;refine RegG.begin 15 (fun j=>some (39+j)) (by kernel_rfl) (by kernel_rfl) (by kernel_rfl) rfl ?_;rw[HXE.out];refine RegG.is (c:=?_) [] (by simp only[List.nil_append,List.cons_append,List.length_append,List.length_cons,List.length_nil,Nat.reduceAdd];exact rfl) (by simp only[List.getElem?_toArray,List.getElem?_cons_zero,List.getElem?_cons_succ];exact rfl) (by kernel_rfl) (fun w hb=>?_) ?_;rotate_left
       ·
        simp only[Given,List.nil_append,List.cons_append,List.getD_cons_zero,List.getD_cons_succ,Qaa,Act.put,List.setIfInBounds_toArray,List.set_cons_zero,List.set_cons_succ,Nat.reduceAdd,Nat.reduceBEq,cond_true,cond_false];intro K hK;skip;go_simp;exact hK
       refine RegG.is (c:=?_) [0] (by simp only[List.nil_append,List.cons_append,List.length_append,List.length_cons,List.length_nil,Nat.reduceAdd];exact rfl) (by simp only[List.getElem?_toArray,List.getElem?_cons_zero,List.getElem?_cons_succ];exact rfl) (by kernel_rfl) (fun w hb=>?_) ?_;rotate_left
       ·
        simp only[Given,List.nil_append,List.cons_append,List.getD_cons_zero,List.getD_cons_succ,Qaa,Act.put,List.setIfInBounds_toArray,List.set_cons_zero,List.set_cons_succ,Nat.reduceAdd,Nat.reduceBEq,cond_true,cond_false];intro K hK;have hs4:=HSY.out.below hb HSY.out.lt;have c0:=hs4.cell 0;have c1:=hs4.cell 1;have c2:=hs4.cell 2;have c3:=hs4.cell 3;simp only[List.getElem?_toArray,List.getElem?_cons_zero,List.getElem?_cons_succ] at c0 c1 c2 c3;clear hs4;go_simp;exact hK
       refine RegG.step (φ:=FF v.2.1 4194400) [1] (by simp only[List.nil_append,List.cons_append,List.length_append,List.length_cons,List.length_nil,Nat.reduceAdd];exact rfl) (by simp only[List.getElem?_toArray,List.getElem?_cons_zero,List.getElem?_cons_succ];exact rfl) (by kernel_rfl) (FF.stays _ _) (fun w hb=>?_) ?_
       ·
        simp only[Given,List.nil_append,List.cons_append,List.getD_cons_zero,List.getD_cons_succ,Qaa,Act.put,List.setIfInBounds_toArray,List.set_cons_zero,List.set_cons_succ,Nat.reduceAdd,Nat.reduceBEq,cond_true,cond_false];skip;intro K hK;go_simp;exact Makes.use (FF.ofFits (HGY.out.below hb) HSV.out.w HSV.out.zw.1 HSV.out.zw.2 (by decide)) hK
       refine RegG.step (φ:=Is (.int .i64 σ)) [2] (by simp only[List.nil_append,List.cons_append,List.length_append,List.length_cons,List.length_nil,Nat.reduceAdd];exact rfl) (by simp only[List.getElem?_toArray,List.getElem?_cons_zero,List.getElem?_cons_succ];exact rfl) (by kernel_rfl) (Is.stays _) (fun w hb=>?_) ?_
       ·
        simp only[Given,List.nil_append,List.cons_append,List.getD_cons_zero,List.getD_cons_succ,Qaa,Act.put,List.setIfInBounds_toArray,List.set_cons_zero,List.set_cons_succ,Nat.reduceAdd,Nat.reduceBEq,cond_true,cond_false];intro v2 h2;intro K hK;go_simp;exact Makes.use (HSG.out ▸ FF.sign h2) hK
       refine RegG.is (c:=?_) [3] (by simp only[List.nil_append,List.cons_append,List.length_append,List.length_cons,List.length_nil,Nat.reduceAdd];exact rfl) (by simp only[List.getElem?_toArray,List.getElem?_cons_zero,List.getElem?_cons_succ];exact rfl) (by kernel_rfl) (fun w hb=>?_) ?_;rotate_left
       ·
        simp only[Given,List.nil_append,List.cons_append,List.getD_cons_zero,List.getD_cons_succ,Qaa,Act.put,List.setIfInBounds_toArray,List.set_cons_zero,List.set_cons_succ,Nat.reduceAdd,Nat.reduceBEq,cond_true,cond_false];intro K hK;skip;go_simp;exact hK
       refine RegG.is (c:=?_) [4] (by simp only[List.nil_append,List.cons_append,List.length_append,List.length_cons,List.length_nil,Nat.reduceAdd];exact rfl) (by simp only[List.getElem?_toArray,List.getElem?_cons_zero,List.getElem?_cons_succ];exact rfl) (by kernel_rfl) (fun w hb=>?_) ?_;rotate_left
       ·
        simp only[Given,List.nil_append,List.cons_append,List.getD_cons_zero,List.getD_cons_succ,Qaa,Act.put,List.setIfInBounds_toArray,List.set_cons_zero,List.set_cons_succ,Nat.reduceAdd,Nat.reduceBEq,cond_true,cond_false];intro K hK;skip;go_simp;exact hK
       refine RegG.is (c:=?_) [5] (by simp only[List.nil_append,List.cons_append,List.length_append,List.length_cons,List.length_nil,Nat.reduceAdd];exact rfl) (by simp only[List.getElem?_toArray,List.getElem?_cons_zero,List.getElem?_cons_succ];exact rfl) (by kernel_rfl) (fun w hb=>?_) ?_;rotate_left
       ·
        simp only[Given,List.nil_append,List.cons_append,List.getD_cons_zero,List.getD_cons_succ,Qaa,Act.put,List.setIfInBounds_toArray,List.set_cons_zero,List.set_cons_succ,Nat.reduceAdd,Nat.reduceBEq,cond_true,cond_false];intro K hK;skip;go_simp;exact hK
       refine RegG.is (c:=?_) [5,6] (by simp only[List.nil_append,List.cons_append,List.length_append,List.length_cons,List.length_nil,Nat.reduceAdd];exact rfl) (by simp only[List.getElem?_toArray,List.getElem?_cons_zero,List.getElem?_cons_succ];exact rfl) (by kernel_rfl) (fun w hb=>?_) ?_;rotate_left
       ·
        simp only[Given,List.nil_append,List.cons_append,List.getD_cons_zero,List.getD_cons_succ,Qaa,Act.put,List.setIfInBounds_toArray,List.set_cons_zero,List.set_cons_succ,Nat.reduceAdd,Nat.reduceBEq,cond_true,cond_false];intro K hK;have hs4:=HSY.out.below hb HSY.out.lt;have c0:=hs4.cell 0;have c1:=hs4.cell 1;have c2:=hs4.cell 2;have c3:=hs4.cell 3;simp only[List.getElem?_toArray,List.getElem?_cons_zero,List.getElem?_cons_succ] at c0 c1 c2 c3;clear hs4;go_simp;exact hK
       refine RegG.step (φ:=FF v.2.2.1 4194400) [5,7] (by simp only[List.nil_append,List.cons_append,List.length_append,List.length_cons,List.length_nil,Nat.reduceAdd];exact rfl) (by simp only[List.getElem?_toArray,List.getElem?_cons_zero,List.getElem?_cons_succ];exact rfl) (by kernel_rfl) (FF.stays _ _) (fun w hb=>?_) ?_
       ·
        simp only[Given,List.nil_append,List.cons_append,List.getD_cons_zero,List.getD_cons_succ,Qaa,Act.put,List.setIfInBounds_toArray,List.set_cons_zero,List.set_cons_succ,Nat.reduceAdd,Nat.reduceBEq,cond_true,cond_false];skip;intro K hK;go_simp;exact Makes.use (FF.ofFits (HGY.out.below hb) HSV.out.l HSV.out.zl.1 HSV.out.zl.2 (by decide)) hK
       refine RegG.is (c:=?_) [5] (by simp only[List.nil_append,List.cons_append,List.length_append,List.length_cons,List.length_nil,Nat.reduceAdd];exact rfl) (by simp only[List.getElem?_toArray,List.getElem?_cons_zero,List.getElem?_cons_succ];exact rfl) (by kernel_rfl) (fun w hb=>?_) ?_;rotate_left
       ·
        simp only[Given,List.nil_append,List.cons_append,List.getD_cons_zero,List.getD_cons_succ,Qaa,Act.put,List.setIfInBounds_toArray,List.set_cons_zero,List.set_cons_succ,Nat.reduceAdd,Nat.reduceBEq,cond_true,cond_false];intro K hK;skip;go_simp;exact hK
       refine RegG.is (c:=?_) [5,9] (by simp only[List.nil_append,List.cons_append,List.length_append,List.length_cons,List.length_nil,Nat.reduceAdd];exact rfl) (by simp only[List.getElem?_toArray,List.getElem?_cons_zero,List.getElem?_cons_succ];exact rfl) (by kernel_rfl) (fun w hb=>?_) ?_;rotate_left
       ·
        simp only[Given,List.nil_append,List.cons_append,List.getD_cons_zero,List.getD_cons_succ,Qaa,Act.put,List.setIfInBounds_toArray,List.set_cons_zero,List.set_cons_succ,Nat.reduceAdd,Nat.reduceBEq,cond_true,cond_false];intro K hK;have hs4:=HSY.out.below hb HSY.out.lt;have c0:=hs4.cell 0;have c1:=hs4.cell 1;have c2:=hs4.cell 2;have c3:=hs4.cell 3;simp only[List.getElem?_toArray,List.getElem?_cons_zero,List.getElem?_cons_succ] at c0 c1 c2 c3;clear hs4;go_simp;exact hK
       refine RegG.step (φ:=FF v.2.2.2 4194400) [5,10] (by simp only[List.nil_append,List.cons_append,List.length_append,List.length_cons,List.length_nil,Nat.reduceAdd];exact rfl) (by simp only[List.getElem?_toArray,List.getElem?_cons_zero,List.getElem?_cons_succ];exact rfl) (by kernel_rfl) (FF.stays _ _) (fun w hb=>?_) ?_
       ·
        simp only[Given,List.nil_append,List.cons_append,List.getD_cons_zero,List.getD_cons_succ,Qaa,Act.put,List.setIfInBounds_toArray,List.set_cons_zero,List.set_cons_succ,Nat.reduceAdd,Nat.reduceBEq,cond_true,cond_false];skip;intro K hK;go_simp;exact Makes.use (FF.ofFits (HGY.out.below hb) HSV.out.h HSV.out.zh.1 HSV.out.zh.2 (by decide)) hK
       refine RegG.step (φ:=Is (.int .i64 C)) [5,8,11] (by simp only[List.nil_append,List.cons_append,List.length_append,List.length_cons,List.length_nil,Nat.reduceAdd];exact rfl) (by simp only[List.getElem?_toArray,List.getElem?_cons_zero,List.getElem?_cons_succ];exact rfl) (by kernel_rfl) (Is.stays _) (fun w hb=>?_) ?_
       ·
        simp only[Given,List.nil_append,List.cons_append,List.getD_cons_zero,List.getD_cons_succ,Qaa,Act.put,List.setIfInBounds_toArray,List.set_cons_zero,List.set_cons_succ,Nat.reduceAdd,Nat.reduceBEq,cond_true,cond_false];intro v8 h8 v11 h11;intro K hK;go_simp;exact Makes.use (HCE.out ▸ FF.compare h8 h11 (by decide)) hK
       refine RegG.is (c:=?_) [5,12] (by simp only[List.nil_append,List.cons_append,List.length_append,List.length_cons,List.length_nil,Nat.reduceAdd];exact rfl) (by simp only[List.getElem?_toArray,List.getElem?_cons_zero,List.getElem?_cons_succ];exact rfl) (by kernel_rfl) (fun w hb=>?_) ?_;rotate_left
       ·
        simp only[Given,List.nil_append,List.cons_append,List.getD_cons_zero,List.getD_cons_succ,Qaa,Act.put,List.setIfInBounds_toArray,List.set_cons_zero,List.set_cons_succ,Nat.reduceAdd,Nat.reduceBEq,cond_true,cond_false];intro K hK;skip;go_simp;exact hK
       refine RegG.is (c:=?_) [5,13] (by simp only[List.nil_append,List.cons_append,List.length_append,List.length_cons,List.length_nil,Nat.reduceAdd];exact rfl) (by simp only[List.getElem?_toArray,List.getElem?_cons_zero,List.getElem?_cons_succ];exact rfl) (by kernel_rfl) (fun w hb=>?_) ?_;rotate_left
       ·
        simp only[Given,List.nil_append,List.cons_append,List.getD_cons_zero,List.getD_cons_succ,Qaa,Act.put,List.setIfInBounds_toArray,List.set_cons_zero,List.set_cons_succ,Nat.reduceAdd,Nat.reduceBEq,cond_true,cond_false];intro K hK;skip;go_simp;exact hK
       refine RegG.fin (by rfl) (fun u9 hb=>?_);simp only[FinG,List.nil_append,List.cons_append,Qaa,Act.put,List.setIfInBounds_toArray,List.set_cons_zero,List.set_cons_succ,Nat.reduceAdd,Nat.reduceBEq,cond_true,cond_false];intro v2 _ v8 _ v11 _;have HB9:=Hi (HBX2.out.trans (hb.mono HBX2.out.size));clear hb;by_cases hc:0<C
       ·
        have e9:decide (0<C)=true:=decide_eq_true hc;have HAF:Hid (archF vs=(5,(k:Int))):=Hi (by
         have e:stoneC (ahead vs k) v=5:=by rw[HNO.out];exact if_pos (Or.inr ((Qbb _ _).1 (by rw[HCE.out];exact hc)))
         rw[HAFK.out,e,if_neg (by decide)])
        clear hc;simp only[e9];have hs0:=HS0.out.below HB9.out HS0.out.lt;have z0:=hs0.cell 0;have z1:=hs0.cell 1;have f0:=hs0.free 0;have f1:=hs0.free 1;simp only[List.getElem?_toArray,List.getElem?_cons_zero,List.getElem?_cons_succ] at z0 z1;have HS4:=Hi hs0;have HB4:=Hi (HB0.out.trans (HB9.out.mono HB0.out.size));clear hs0;go_wp2;refine bodyPost_ret (v:=.agg #[.int .i64 5,.int .i64 (k:Int)]) (results_cell_row rfl _ _ B0 32 #[.int .i64 5,.int .i64 (k:Int)] (0,0) _ rfl ((HS4.out.set 0 _).set 1 _) Tryz.underlying32 rfl Tryz.faultInfo) rfl ?_;exact⟨by rw[HAF.out],(HB4.out.setCell (p:=⟨B0,0,none⟩) (Nat.le_of_eq HB0E.out) _).setCell (p:=⟨B0,1,none⟩) (Nat.le_of_eq HB0E.out) _⟩
       ·
        have e9:decide (0<C)=false:=decide_eq_false hc;have HAF:Hid (archF vs=archFrom (k+1) (ahead vs (k+1)) (vs.drop (k+1))):=Hi (by
         have e:stoneC (ahead vs k) v=0:=by
          rw[HNO.out];refine if_neg (fun h=>?_);rcases h with h|h
          · exact HW.out h
          · exact hc (by rw[←HCE.out];exact(Qbb _ _).2 h)
         rw[HAFK.out,if_pos e])
        clear hc;simp only[e9];go_wp2;go_roundw
        case rel=>exact⟨k+1,by omega,by go_num,HAF.out,HB9.out⟩
        case measure=>simp[intOf];omega
   ·
    obtain rfl:k=ss.length:=by omega
    have HAF:Hid (archF vs=(0,0)):=Hi (by rw[haf,←HVL.out];exact Qfi);have hs0:=HS0.out.below hb HS0.out.lt;have z0:=hs0.cell 0;have z1:=hs0.cell 1;have f0:=hs0.free 0;have f1:=hs0.free 1;simp only[List.getElem?_toArray,List.getElem?_cons_zero,List.getElem?_cons_succ] at z0 z1;have HS4:=Hi hs0;have HB4:=Hi (HB0.out.trans (hb.mono HB0.out.size));clear hs0 haf hb;go_wp2;refine bodyPost_ret (v:=.agg #[.int .i64 0,.int .i64 0]) (results_cell_row rfl _ _ B0 32 #[.int .i64 0,.int .i64 0] (0,0) _ rfl ((HS4.out.set 0 _).set 1 _) Tryz.underlying32 rfl Tryz.faultInfo) rfl ?_;exact⟨by rw[HAF.out],(HB4.out.setCell (p:=⟨B0,0,none⟩) (Nat.le_of_eq HB0E.out) _).setCell (p:=⟨B0,1,none⟩) (Nat.le_of_eq HB0E.out) _⟩
end Go.Proofs.YtldjeecnapgakaaGreatDoor
