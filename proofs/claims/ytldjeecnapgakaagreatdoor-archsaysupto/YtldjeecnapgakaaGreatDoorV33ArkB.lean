/- package arch: Check. -/
import Derived.Test.YtldjeecnapgakaaGreatDoorV32StillS
namespace Go.Proofs.YtldjeecnapgakaaGreatDoor
open Go.RowKit
open Go.Proofs.Tryz
set_option linter.unusedSimpArgs false
set_option linter.unusedVariables false
set_option maxHeartbeats 8000000
set_option maxRecDepth 1000000
theorem Qcx(a:Option Addr)(cap:Nat)(ss:List T4)(vs:List V4)(w:World)(hg:Glob w)(hr:ARow T4.cells w a cap ss)(hv:StonesV ss vs)(hn:ss.length<=1048576):
 Calls prog 12 #[.slice a ss.length cap] w fun e w'=>e=.returned (.agg #[.int .i64 (archF vs).1,.int .i64 (archF vs).2])/\Below w.heap.size w w':=by
 obtain⟨HG,HRW,HV,HVL⟩:=Ic hg hr hv hv.len;obtain⟨B0,hB0⟩:=nm w.heap.size;obtain⟨V,hV⟩:=nm (w.alloc (.cells #[.int .i64 0,.int .i64 0] 32));have HB0:=Ua hV;have HS0:=Uf hV hB0;obtain⟨HVE,HB0E⟩:=Ia hV hB0;clear hg hr hv hV hB0;by_cases hm:ss.length<2∨10<ss.length
 .
  have HAF:O (archF vs=(2,0)):=Hi (by unfold archF;rw[HVL.o,if_pos hm]);have key:((ss.length:Int)<2)∨(¬(ss.length:Int)<2/\(10:Int)<(ss.length:Int)):=by omega
  clear hm;rcases key with h2|⟨h2,h10⟩
  all_goals
   go_enter func12,ntmps12;go_wp2;refine bodyPost_ret (v:=.agg #[.int .i64 2,.int .i64 0]) (by simp[results,Tryz.results12,go_sem]) rfl ?_;exact⟨by rw[HAF.o],bR.alloc lZ _⟩
 .
  have h2:decide ((ss.length:Int)<2)=false:=by simp;omega
  have h10:decide ((10:Int)<(ss.length:Int))=false:=by simp;omega
  have hl10:ss.length<=10:=by omega
  have HAF0:O (archF vs=archFrom 0 none vs):=Hi (by unfold archF;rw[HVL.o,if_neg hm]);clear hm;go_enter func12,ntmps12;go_wp2_with fail;rw[HVE.o];simp only[HB0E.o];clear h2 h10;go_loopw [16] (fun iv wr=>∃k:Nat,k<=ss.length/\iv=.int .i64 k/\archF vs=archFrom k (ahead vs k) (vs.drop k)/\Below V.heap.size V wr) (fun iv _=>ss.length - (intOf iv).toNat)
  case atStart=>exact⟨0,Nat.zero_le _,rfl,HAF0.o,Below.refl _ _⟩
  case round=>
   obtain⟨k,hk,rfl,haf,hb⟩:=hrel;by_cases hkn:k<ss.length
   .
    obtain⟨s,hs⟩:∃s,ss[k]?=some s:=⟨_,gE hkn⟩;obtain⟨v,hv⟩:∃v,vs[k]?=some v:=⟨vs[k]'(by have:=HVL.o;omega),gE _⟩;have HSV:=Hi (HV.o.each k s v hs hv);rw[Qcw hv] at haf;have hbw:=HB0.o.trans (hb.mono HB0.o.size);obtain⟨sb,so,ha,hsb,d0,d1,d2,d3⟩:=(HRW.o.below hbw).stone hs;subst ha;obtain⟨hb0,hhb0⟩:=nm wr.heap.size;obtain⟨Z,hZ⟩:=nm (wr.alloc (.cells #[.string s.a,.string s.w,.string s.l,.string s.h] 28));have hBA:Below wr.heap.size wr Z:=by rw[<-hZ];exact(Below.refl _ _).alloc lZ _
    have HSZ:=Uf hZ hhb0;obtain⟨Y,hY⟩:=nm Z.drew;have HBY:O (Below V.heap.size V Y):=Hi (by rw[<-hY];exact(hb.trans (hBA.mono hb.size)).drew);have HBYr:O (Below wr.heap.size wr Y):=Hi (by rw[<-hY];exact hBA.drew);have HSY:O (SB Y hb0 28 #[.string s.a,.string s.w,.string s.l,.string s.h]):=Hi (by rw[<-hY];exact HSZ.o);have HGY:O (Glob Y):=Hi (HG.o.below (HB0.o.trans (HBY.o.mono HB0.o.size)));have q1:((k:Int)<(ss.length:Int)):=by omega
    obtain⟨HAFK,HZE,HYE,HHB,HS,HVK,HBR⟩:=If haf hZ hY hhb0 hs hv hb;clear hb hs haf hZ hY hhb0 hBA hbw hv;rcases Nat.eq_zero_or_pos k with hk0|hk0
    .
     have e0:decide (0<k)=false:=decide_eq_false (by omega);have e00:¬0<k:=by omega
     have HNO:O (stoneC (ahead vs k) v=valC v):=Hi (by rw[hk0];rfl);clear hk0;go_wp2_with fail;rw[HZE.o];simp only[HHB.o];clear d0 d1 d2 d3;refine RegG.bg 16 (fun j=>some (21+j)) ?_;rw[HYE.o];refine RegG.pu (c:=?_) [] (fun w hb=>?_) ?_;rotate_left
     .
      intro K hK;go_simp;exact hK
     refine RegG.pu (c:=?_) [0] (fun w hb=>?_) ?_;rotate_left
     .
      intro K hK;go_simp;exact hK
     refine RegG.pu (c:=?_) [1] (fun w hb=>?_) ?_;rotate_left
     .
      intro K hK;go_simp;exact hK
     refine RegG.pu (c:=?_) [2] (fun w hb=>?_) ?_;rotate_left
     .
      intro K hK;go_simp;exact hK
     refine RegG.pu (c:=?_) [2,3] (fun w hb=>?_) ?_;rotate_left
     .
      intro K hK;go_simp;exact hK
     refine RegG.pu (c:=?_) [2,4] (fun w hb=>?_) ?_;rotate_left
     .
      intro K hK;go_simp;exact hK
     refine RegG.pu (c:=?_) [2] (fun w hb=>?_) ?_;rotate_left
     .
      intro K hK;go_simp;exact hK
     refine RegG.pu (c:=?_) [2] (fun w hb=>?_) ?_;rotate_left
     .
      intro K hK;go_simp;exact hK
     refine RegG.pu (c:=?_) [2,7] (fun w hb=>?_) ?_;rotate_left
     .
      intro K hK;go_simp;exact hK
     refine RegG.pu (c:=?_) [2,6,8] (fun w hb=>?_) ?_;rotate_left
     .
      intro K hK;go_simp;exact hK
     refine RegG.pu (c:=?_) [2,9] (fun w hb=>?_) ?_;rotate_left
     .
      intro K hK;go_simp;exact hK
     refine RegG.pu (c:=?_) [2,10] (fun w hb=>?_) ?_;rotate_left
     .
      intro K hK;go_simp;exact hK
     refine RegG.pu (c:=?_) [2,11] (fun w hb=>?_) ?_;rotate_left
     .
      intro K hK;go_simp;exact hK
     refine RegG.pu (c:=?_) [2,5,12] (fun w hb=>?_) ?_;rotate_left
     .
      intro K hK;go_simp;exact hK
     refine RegG.pu (c:=?_) [2,13] (fun w hb=>?_) ?_;rotate_left
     .
      intro K hK;go_simp;exact hK
     refine RegG.pu (c:=?_) [2,14] (fun w hb=>?_) ?_;rotate_left
     .
      intro K hK;go_simp;exact hK
     refine RegG.fi (fun X hb=>?_);obtain⟨HBX,HSX⟩:=Ia (HBY.o.trans (hb.mono HBY.o.size)) (HSY.o.below hb HSY.o.lt);clear hb HSY HGY;go_wp2_with fail;obtain⟨X2,hX2⟩:=nm X.drew;have HXE:=Hi hX2;have HBX2:O (Below V.heap.size V X2):=Hi (by rw[<-hX2];exact HBX.o.drew);have HSY:O (SB X2 hb0 28 #[.string s.a,.string s.w,.string s.l,.string s.h]):=Hi (by rw[<-hX2];exact HSX.o);have HGY:O (Glob X2):=Hi (HG.o.below (HB0.o.trans (HBX2.o.mono HB0.o.size)));clear hX2;by_cases hw:v.2.1<0
     .
      have HAF:O (archF vs=(5,(k:Int))):=Hi (by
       have e:stoneC (ahead vs k) v=5:=by rw[HNO.o];exact if_pos (Or.inl hw)
       rw[HAFK.o,e,if_neg (by decide)])
      obtain⟨σ,hσ⟩:=nm (sgn3 v.2.1.num);have e8:decide (σ<0)=true:=decide_eq_true (by rw[<-hσ];exact(Qas _).2 hw);have HSG:=Hi hσ;clear hw hσ;refine RegG.bg 15 (fun j=>some (39+j)) ?_;rw[HXE.o];refine RegG.pu (c:=?_) [] (fun w hb=>?_) ?_;rotate_left
      .
       intro K hK;go_simp;exact hK
      refine RegG.pu (c:=?_) [0] (fun w hb=>?_) ?_;rotate_left
      .
       intro K hK;have hs4:=HSY.o.below hb HSY.o.lt;have c0:=hs4.cell 0;have c1:=hs4.cell 1;have c2:=hs4.cell 2;have c3:=hs4.cell 3;simp only[List.getElem?_toArray,List.getElem?_cons_zero,List.getElem?_cons_succ] at c0 c1 c2 c3;clear hs4;go_simp;exact hK
      refine RegG.ca (φ:=FF v.2.1 4194400) [1] (FF.stays _ _) (fun w hb=>?_) ?_
      .
       intro K hK;go_simp;exact Makes.use (FF.ofFits (HGY.o.below hb) HSV.o.w HSV.o.zw.1 HSV.o.zw.2 (by decide)) hK
      refine RegG.ca (φ:=Is (.int .i64 σ)) [2] (Is.stays _) (fun w hb=>?_) ?_
      .
       intro v2 h2;intro K hK;go_simp;exact Makes.use (HSG.o ▸ FF.sign h2) hK
      refine RegG.pu (c:=?_) [3] (fun w hb=>?_) ?_;rotate_left
      .
       intro K hK;go_simp;exact hK
      refine RegG.pu (c:=?_) [4] (fun w hb=>?_) ?_;rotate_left
      .
       intro K hK;go_simp;exact hK
      refine RegG.pu (c:=?_) [5] (fun w hb=>?_) ?_;rotate_left
      .
       intro K hK;go_simp;exact hK
      refine RegG.pu (c:=?_) [5,6] (fun w hb=>?_) ?_;rotate_left
      .
       intro K hK;go_simp;exact hK
      refine RegG.pu (c:=?_) [5,7] (fun w hb=>?_) ?_;rotate_left
      .
       intro K hK;go_simp;exact hK
      refine RegG.pu (c:=?_) [5] (fun w hb=>?_) ?_;rotate_left
      .
       intro K hK;go_simp;exact hK
      refine RegG.pu (c:=?_) [5,9] (fun w hb=>?_) ?_;rotate_left
      .
       intro K hK;go_simp;exact hK
      refine RegG.pu (c:=?_) [5,10] (fun w hb=>?_) ?_;rotate_left
      .
       intro K hK;go_simp;exact hK
      refine RegG.pu (c:=?_) [5,8,11] (fun w hb=>?_) ?_;rotate_left
      .
       intro K hK;go_simp;exact hK
      refine RegG.pu (c:=?_) [5,12] (fun w hb=>?_) ?_;rotate_left
      .
       intro K hK;go_simp;exact hK
      refine RegG.pu (c:=?_) [5,13] (fun w hb=>?_) ?_;rotate_left
      .
       intro K hK;go_simp;exact hK
      refine RegG.fi (fun u9 hb=>?_);intro v2 _;have HB9:=Hi (HBX2.o.trans (hb.mono HBX2.o.size));clear hb;have hs0:=HS0.o.below HB9.o HS0.o.lt;have z0:=hs0.cell 0;have z1:=hs0.cell 1;have f0:=hs0.free 0;have f1:=hs0.free 1;simp only[List.getElem?_toArray,List.getElem?_cons_zero,List.getElem?_cons_succ] at z0 z1;obtain⟨HS4,HB4⟩:=Ia hs0 (HB0.o.trans (HB9.o.mono HB0.o.size));clear hs0;go_wp2;refine bodyPost_ret (v:=.agg #[.int .i64 5,.int .i64 (k:Int)]) (results_cell_row rfl _ _ B0 32 #[.int .i64 5,.int .i64 (k:Int)] (0,0) _ rfl ((HS4.o.set 0 _).set 1 _) underlying32 rfl Tryz.faultInfo) rfl ?_;exact⟨by rw[HAF.o],(HB4.o.setCell (p:=⟨B0,0,none⟩) (Nat.le_of_eq HB0E.o) _).setCell (p:=⟨B0,1,none⟩) (Nat.le_of_eq HB0E.o) _⟩
     .
      obtain⟨σ,hσ⟩:=nm (sgn3 v.2.1.num);have e8:decide (σ<0)=false:=decide_eq_false (by rw[<-hσ];exact fun hc=>hw ((Qas _).1 hc));obtain⟨C,hC⟩:=nm (cmpQ v.2.2.1 v.2.2.2);obtain⟨HSG,HCE,HW⟩:=Ib hσ hC hw;clear hw hσ hC;refine RegG.bg 15 (fun j=>some (39+j)) ?_;rw[HXE.o];refine RegG.pu (c:=?_) [] (fun w hb=>?_) ?_;rotate_left
      .
       intro K hK;go_simp;exact hK
      refine RegG.pu (c:=?_) [0] (fun w hb=>?_) ?_;rotate_left
      .
       intro K hK;have hs4:=HSY.o.below hb HSY.o.lt;have c0:=hs4.cell 0;have c1:=hs4.cell 1;have c2:=hs4.cell 2;have c3:=hs4.cell 3;simp only[List.getElem?_toArray,List.getElem?_cons_zero,List.getElem?_cons_succ] at c0 c1 c2 c3;clear hs4;go_simp;exact hK
      refine RegG.ca (φ:=FF v.2.1 4194400) [1] (FF.stays _ _) (fun w hb=>?_) ?_
      .
       intro K hK;go_simp;exact Makes.use (FF.ofFits (HGY.o.below hb) HSV.o.w HSV.o.zw.1 HSV.o.zw.2 (by decide)) hK
      refine RegG.ca (φ:=Is (.int .i64 σ)) [2] (Is.stays _) (fun w hb=>?_) ?_
      .
       intro v2 h2;intro K hK;go_simp;exact Makes.use (HSG.o ▸ FF.sign h2) hK
      refine RegG.pu (c:=?_) [3] (fun w hb=>?_) ?_;rotate_left
      .
       intro K hK;go_simp;exact hK
      refine RegG.pu (c:=?_) [4] (fun w hb=>?_) ?_;rotate_left
      .
       intro K hK;go_simp;exact hK
      refine RegG.pu (c:=?_) [5] (fun w hb=>?_) ?_;rotate_left
      .
       intro K hK;go_simp;exact hK
      refine RegG.pu (c:=?_) [5,6] (fun w hb=>?_) ?_;rotate_left
      .
       intro K hK;have hs4:=HSY.o.below hb HSY.o.lt;have c0:=hs4.cell 0;have c1:=hs4.cell 1;have c2:=hs4.cell 2;have c3:=hs4.cell 3;simp only[List.getElem?_toArray,List.getElem?_cons_zero,List.getElem?_cons_succ] at c0 c1 c2 c3;clear hs4;go_simp;exact hK
      refine RegG.ca (φ:=FF v.2.2.1 4194400) [5,7] (FF.stays _ _) (fun w hb=>?_) ?_
      .
       intro K hK;go_simp;exact Makes.use (FF.ofFits (HGY.o.below hb) HSV.o.l HSV.o.zl.1 HSV.o.zl.2 (by decide)) hK
      refine RegG.pu (c:=?_) [5] (fun w hb=>?_) ?_;rotate_left
      .
       intro K hK;go_simp;exact hK
      refine RegG.pu (c:=?_) [5,9] (fun w hb=>?_) ?_;rotate_left
      .
       intro K hK;have hs4:=HSY.o.below hb HSY.o.lt;have c0:=hs4.cell 0;have c1:=hs4.cell 1;have c2:=hs4.cell 2;have c3:=hs4.cell 3;simp only[List.getElem?_toArray,List.getElem?_cons_zero,List.getElem?_cons_succ] at c0 c1 c2 c3;clear hs4;go_simp;exact hK
      refine RegG.ca (φ:=FF v.2.2.2 4194400) [5,10] (FF.stays _ _) (fun w hb=>?_) ?_
      .
       intro K hK;go_simp;exact Makes.use (FF.ofFits (HGY.o.below hb) HSV.o.h HSV.o.zh.1 HSV.o.zh.2 (by decide)) hK
      refine RegG.ca (φ:=Is (.int .i64 C)) [5,8,11] (Is.stays _) (fun w hb=>?_) ?_
      .
       intro v8 h8 v11 h11;intro K hK;go_simp;exact Makes.use (HCE.o ▸ FF.compare h8 h11 (by decide)) hK
      refine RegG.pu (c:=?_) [5,12] (fun w hb=>?_) ?_;rotate_left
      .
       intro K hK;go_simp;exact hK
      refine RegG.pu (c:=?_) [5,13] (fun w hb=>?_) ?_;rotate_left
      .
       intro K hK;go_simp;exact hK
      refine RegG.fi (fun u9 hb=>?_);intro v2 _ v8 _ v11 _;have HB9:=Hi (HBX2.o.trans (hb.mono HBX2.o.size));clear hb;by_cases hc:0<C
      .
       have e9:decide (0<C)=true:=decide_eq_true hc;have HAF:O (archF vs=(5,(k:Int))):=Hi (by
        have e:stoneC (ahead vs k) v=5:=by rw[HNO.o];exact if_pos (Or.inr ((Qaz _ _).1 (by rw[HCE.o];exact hc)))
        rw[HAFK.o,e,if_neg (by decide)])
       clear hc;simp only[e9];have hs0:=HS0.o.below HB9.o HS0.o.lt;have z0:=hs0.cell 0;have z1:=hs0.cell 1;have f0:=hs0.free 0;have f1:=hs0.free 1;simp only[List.getElem?_toArray,List.getElem?_cons_zero,List.getElem?_cons_succ] at z0 z1;obtain⟨HS4,HB4⟩:=Ia hs0 (HB0.o.trans (HB9.o.mono HB0.o.size));clear hs0;go_wp2;refine bodyPost_ret (v:=.agg #[.int .i64 5,.int .i64 (k:Int)]) (results_cell_row rfl _ _ B0 32 #[.int .i64 5,.int .i64 (k:Int)] (0,0) _ rfl ((HS4.o.set 0 _).set 1 _) underlying32 rfl Tryz.faultInfo) rfl ?_;exact⟨by rw[HAF.o],(HB4.o.setCell (p:=⟨B0,0,none⟩) (Nat.le_of_eq HB0E.o) _).setCell (p:=⟨B0,1,none⟩) (Nat.le_of_eq HB0E.o) _⟩
      .
       have e9:decide (0<C)=false:=decide_eq_false hc;have HAF:O (archF vs=archFrom (k+1) (ahead vs (k+1)) (vs.drop (k+1))):=Hi (by
        have e:stoneC (ahead vs k) v=0:=by
         rw[HNO.o];refine if_neg (fun h=>?_);rcases h with h|h
         . exact HW.o h
         . exact hc (by rw[<-HCE.o];exact(Qaz _ _).2 h)
        rw[HAFK.o,if_pos e])
       clear hc;simp only[e9];go_wp2;go_roundw
       case rel=>exact⟨k+1,by omega,by go_num,HAF.o,HB9.o⟩
       case measure=>simp[intOf];omega
    .
     have e0:decide (0<k)=true:=decide_eq_true (by omega);obtain⟨k',hk'⟩:∃k',k=k'+1:=⟨k - 1,by omega⟩;have e1:(k:Int) - 1=(k':Int):=by omega
     have q2:((k':Int)<(ss.length:Int)):=by omega
     have wr1:IntKind.i64.wrap (k':Int)=(k':Int):=wrap_i64 _ (by omega) (by omega);obtain⟨s',hs'⟩:∃s',ss[k']?=some s':=⟨_,gE (by omega)⟩;obtain⟨v',hv'⟩:∃v',vs[k']?=some v':=⟨vs[k']'(by have:=HVL.o;omega),gE _⟩;have HSV':=Hi (HV.o.each k' s' v' hs' hv');obtain⟨sb2,so2,hse,hlt2,hp0,_⟩:=(HRW.o.below (HB0.o.trans (HBY.o.mono HB0.o.size))).stone hs';cases hse;obtain⟨HCP,HLT⟩:=Ia hp0 hlt2;have HAH:O (ahead vs k=some v'.1):=Hi (by rw[hk'];simp[ahead,hv']);obtain⟨C6,hC6⟩:=nm (cmpQ v.1 v'.1);have HC6:=Hi hC6;clear hk' hs' hv' hp0 hlt2 hC6;go_wp2_with fail;rw[HZE.o];simp only[HHB.o];clear d0 d1 d2 d3;refine RegG.bg 16 (fun j=>some (21+j)) ?_;rw[HYE.o];refine RegG.pu (c:=?_) [] (fun w hb=>?_) ?_;rotate_left
     .
      intro K hK;go_simp;exact hK
     refine RegG.pu (c:=?_) [0] (fun w hb=>?_) ?_;rotate_left
     .
      intro K hK;go_simp;exact hK
     refine RegG.pu (c:=?_) [1] (fun w hb=>?_) ?_;rotate_left
     .
      intro K hK;go_simp;exact hK
     refine RegG.pu (c:=?_) [2] (fun w hb=>?_) ?_;rotate_left
     .
      intro K hK;go_simp;exact hK
     refine RegG.pu (c:=?_) [2,3] (fun w hb=>?_) ?_;rotate_left
     .
      intro K hK;have hs4:=HSY.o.below hb HSY.o.lt;have c0:=hs4.cell 0;have c1:=hs4.cell 1;have c2:=hs4.cell 2;have c3:=hs4.cell 3;simp only[List.getElem?_toArray,List.getElem?_cons_zero,List.getElem?_cons_succ] at c0 c1 c2 c3;clear hs4;go_simp;exact hK
     refine RegG.ca (φ:=FF v.1 4194400) [2,4] (FF.stays _ _) (fun w hb=>?_) ?_
     .
      intro K hK;go_simp;exact Makes.use (FF.ofFits (HGY.o.below hb) HSV.o.a HSV.o.za.1 HSV.o.za.2 (by decide)) hK
     refine RegG.pu (c:=?_) [2] (fun w hb=>?_) ?_;rotate_left
     .
      intro K hK;go_simp;exact hK
     refine RegG.pu (c:=?_) [2] (fun w hb=>?_) ?_;rotate_left
     .
      intro K hK;go_simp;exact hK
     refine RegG.pu (c:=?_) [2,7] (fun w hb=>?_) ?_;rotate_left
     .
      intro K hK;go_simp;exact hK
     refine RegG.pu (c:=?_) [2,6,8] (fun w hb=>?_) ?_;rotate_left
     .
      intro K hK;go_simp;exact hK
     refine RegG.pu (c:=?_) [2,9] (fun w hb=>?_) ?_;rotate_left
     .
      intro K hK;go_simp;exact hK
     refine RegG.pu (c:=?_) [2,10] (fun w hb=>?_) ?_;rotate_left
     .
      intro K hK;have w0:=ce hb HLT.o HCP.o;go_simp;exact hK
     refine RegG.ca (φ:=FF v'.1 4194400) [2,11] (FF.stays _ _) (fun w hb=>?_) ?_
     .
      intro K hK;go_simp;exact Makes.use (FF.ofFits (HGY.o.below hb) HSV'.o.a HSV'.o.za.1 HSV'.o.za.2 (by decide)) hK
     refine RegG.ca (φ:=Is (.int .i64 C6)) [2,5,12] (Is.stays _) (fun w hb=>?_) ?_
     .
      intro v5 h5 v12 h12;intro K hK;go_simp;exact Makes.use (HC6.o ▸ FF.compare h5 h12 (by decide)) hK
     refine RegG.pu (c:=?_) [2,13] (fun w hb=>?_) ?_;rotate_left
     .
      intro K hK;go_simp;exact hK
     refine RegG.pu (c:=?_) [2,14] (fun w hb=>?_) ?_;rotate_left
     .
      intro K hK;go_simp;exact hK
     refine RegG.fi (fun X hb=>?_);intro v5 _ v12 _;obtain⟨HBX,HSX⟩:=Ia (HBY.o.trans (hb.mono HBY.o.size)) (HSY.o.below hb HSY.o.lt);clear hb HSY HGY;by_cases hc6:C6<=0
     .
      have e6:decide (C6<=0)=true:=decide_eq_true hc6;have HAF:O (archF vs=(6,(k:Int))):=Hi (by
       have e:stoneC (ahead vs k) v=6:=by rw[HAH.o];exact if_pos ((Qbn _ _).1 (by rw[HC6.o];exact hc6))
       rw[HAFK.o,e,if_neg (by decide)])
      clear hc6;simp only[e6];have hs0:=HS0.o.below HBX.o HS0.o.lt;have z0:=hs0.cell 0;have z1:=hs0.cell 1;have f0:=hs0.free 0;have f1:=hs0.free 1;simp only[List.getElem?_toArray,List.getElem?_cons_zero,List.getElem?_cons_succ] at z0 z1;obtain⟨HS4,HB4⟩:=Ia hs0 (HB0.o.trans (HBX.o.mono HB0.o.size));clear hs0;go_wp2;refine bodyPost_ret (v:=.agg #[.int .i64 6,.int .i64 (k:Int)]) (results_cell_row rfl _ _ B0 32 #[.int .i64 6,.int .i64 (k:Int)] (0,0) _ rfl ((HS4.o.set 0 _).set 1 _) underlying32 rfl Tryz.faultInfo) rfl ?_;exact⟨by rw[HAF.o],(HB4.o.setCell (p:=⟨B0,0,none⟩) (Nat.le_of_eq HB0E.o) _).setCell (p:=⟨B0,1,none⟩) (Nat.le_of_eq HB0E.o) _⟩
     .
      have e6:decide (C6<=0)=false:=decide_eq_false hc6;have HNO:O (stoneC (ahead vs k) v=valC v):=Hi (by rw[HAH.o];exact if_neg (fun h=>hc6 (by rw[<-HC6.o];exact(Qbn _ _).2 h)));clear hc6;simp only[e6];go_wp2_with fail;obtain⟨X2,hX2⟩:=nm X.drew;have HXE:=Hi hX2;have HBX2:O (Below V.heap.size V X2):=Hi (by rw[<-hX2];exact HBX.o.drew);have HSY:O (SB X2 hb0 28 #[.string s.a,.string s.w,.string s.l,.string s.h]):=Hi (by rw[<-hX2];exact HSX.o);have HGY:O (Glob X2):=Hi (HG.o.below (HB0.o.trans (HBX2.o.mono HB0.o.size)));clear hX2;by_cases hw:v.2.1<0
      .
       have HAF:O (archF vs=(5,(k:Int))):=Hi (by
        have e:stoneC (ahead vs k) v=5:=by rw[HNO.o];exact if_pos (Or.inl hw)
        rw[HAFK.o,e,if_neg (by decide)])
       obtain⟨σ,hσ⟩:=nm (sgn3 v.2.1.num);have e8:decide (σ<0)=true:=decide_eq_true (by rw[<-hσ];exact(Qas _).2 hw);have HSG:=Hi hσ;clear hw hσ;refine RegG.bg 15 (fun j=>some (39+j)) ?_;rw[HXE.o];refine RegG.pu (c:=?_) [] (fun w hb=>?_) ?_;rotate_left
       .
        intro K hK;go_simp;exact hK
       refine RegG.pu (c:=?_) [0] (fun w hb=>?_) ?_;rotate_left
       .
        intro K hK;have hs4:=HSY.o.below hb HSY.o.lt;have c0:=hs4.cell 0;have c1:=hs4.cell 1;have c2:=hs4.cell 2;have c3:=hs4.cell 3;simp only[List.getElem?_toArray,List.getElem?_cons_zero,List.getElem?_cons_succ] at c0 c1 c2 c3;clear hs4;go_simp;exact hK
       refine RegG.ca (φ:=FF v.2.1 4194400) [1] (FF.stays _ _) (fun w hb=>?_) ?_
       .
        intro K hK;go_simp;exact Makes.use (FF.ofFits (HGY.o.below hb) HSV.o.w HSV.o.zw.1 HSV.o.zw.2 (by decide)) hK
       refine RegG.ca (φ:=Is (.int .i64 σ)) [2] (Is.stays _) (fun w hb=>?_) ?_
       .
        intro v2 h2;intro K hK;go_simp;exact Makes.use (HSG.o ▸ FF.sign h2) hK
       refine RegG.pu (c:=?_) [3] (fun w hb=>?_) ?_;rotate_left
       .
        intro K hK;go_simp;exact hK
       refine RegG.pu (c:=?_) [4] (fun w hb=>?_) ?_;rotate_left
       .
        intro K hK;go_simp;exact hK
       refine RegG.pu (c:=?_) [5] (fun w hb=>?_) ?_;rotate_left
       .
        intro K hK;go_simp;exact hK
       refine RegG.pu (c:=?_) [5,6] (fun w hb=>?_) ?_;rotate_left
       .
        intro K hK;go_simp;exact hK
       refine RegG.pu (c:=?_) [5,7] (fun w hb=>?_) ?_;rotate_left
       .
        intro K hK;go_simp;exact hK
       refine RegG.pu (c:=?_) [5] (fun w hb=>?_) ?_;rotate_left
       .
        intro K hK;go_simp;exact hK
       refine RegG.pu (c:=?_) [5,9] (fun w hb=>?_) ?_;rotate_left
       .
        intro K hK;go_simp;exact hK
       refine RegG.pu (c:=?_) [5,10] (fun w hb=>?_) ?_;rotate_left
       .
        intro K hK;go_simp;exact hK
       refine RegG.pu (c:=?_) [5,8,11] (fun w hb=>?_) ?_;rotate_left
       .
        intro K hK;go_simp;exact hK
       refine RegG.pu (c:=?_) [5,12] (fun w hb=>?_) ?_;rotate_left
       .
        intro K hK;go_simp;exact hK
       refine RegG.pu (c:=?_) [5,13] (fun w hb=>?_) ?_;rotate_left
       .
        intro K hK;go_simp;exact hK
       refine RegG.fi (fun u9 hb=>?_);intro v2 _;have HB9:=Hi (HBX2.o.trans (hb.mono HBX2.o.size));clear hb;have hs0:=HS0.o.below HB9.o HS0.o.lt;have z0:=hs0.cell 0;have z1:=hs0.cell 1;have f0:=hs0.free 0;have f1:=hs0.free 1;simp only[List.getElem?_toArray,List.getElem?_cons_zero,List.getElem?_cons_succ] at z0 z1;obtain⟨HS4,HB4⟩:=Ia hs0 (HB0.o.trans (HB9.o.mono HB0.o.size));clear hs0;go_wp2;refine bodyPost_ret (v:=.agg #[.int .i64 5,.int .i64 (k:Int)]) (results_cell_row rfl _ _ B0 32 #[.int .i64 5,.int .i64 (k:Int)] (0,0) _ rfl ((HS4.o.set 0 _).set 1 _) underlying32 rfl Tryz.faultInfo) rfl ?_;exact⟨by rw[HAF.o],(HB4.o.setCell (p:=⟨B0,0,none⟩) (Nat.le_of_eq HB0E.o) _).setCell (p:=⟨B0,1,none⟩) (Nat.le_of_eq HB0E.o) _⟩
      .
       obtain⟨σ,hσ⟩:=nm (sgn3 v.2.1.num);have e8:decide (σ<0)=false:=decide_eq_false (by rw[<-hσ];exact fun hc=>hw ((Qas _).1 hc));obtain⟨C,hC⟩:=nm (cmpQ v.2.2.1 v.2.2.2);obtain⟨HSG,HCE,HW⟩:=Ib hσ hC hw;clear hw hσ hC;refine RegG.bg 15 (fun j=>some (39+j)) ?_;rw[HXE.o];refine RegG.pu (c:=?_) [] (fun w hb=>?_) ?_;rotate_left
       .
        intro K hK;go_simp;exact hK
       refine RegG.pu (c:=?_) [0] (fun w hb=>?_) ?_;rotate_left
       .
        intro K hK;have hs4:=HSY.o.below hb HSY.o.lt;have c0:=hs4.cell 0;have c1:=hs4.cell 1;have c2:=hs4.cell 2;have c3:=hs4.cell 3;simp only[List.getElem?_toArray,List.getElem?_cons_zero,List.getElem?_cons_succ] at c0 c1 c2 c3;clear hs4;go_simp;exact hK
       refine RegG.ca (φ:=FF v.2.1 4194400) [1] (FF.stays _ _) (fun w hb=>?_) ?_
       .
        intro K hK;go_simp;exact Makes.use (FF.ofFits (HGY.o.below hb) HSV.o.w HSV.o.zw.1 HSV.o.zw.2 (by decide)) hK
       refine RegG.ca (φ:=Is (.int .i64 σ)) [2] (Is.stays _) (fun w hb=>?_) ?_
       .
        intro v2 h2;intro K hK;go_simp;exact Makes.use (HSG.o ▸ FF.sign h2) hK
       refine RegG.pu (c:=?_) [3] (fun w hb=>?_) ?_;rotate_left
       .
        intro K hK;go_simp;exact hK
       refine RegG.pu (c:=?_) [4] (fun w hb=>?_) ?_;rotate_left
       .
        intro K hK;go_simp;exact hK
       refine RegG.pu (c:=?_) [5] (fun w hb=>?_) ?_;rotate_left
       .
        intro K hK;go_simp;exact hK
       refine RegG.pu (c:=?_) [5,6] (fun w hb=>?_) ?_;rotate_left
       .
        intro K hK;have hs4:=HSY.o.below hb HSY.o.lt;have c0:=hs4.cell 0;have c1:=hs4.cell 1;have c2:=hs4.cell 2;have c3:=hs4.cell 3;simp only[List.getElem?_toArray,List.getElem?_cons_zero,List.getElem?_cons_succ] at c0 c1 c2 c3;clear hs4;go_simp;exact hK
       refine RegG.ca (φ:=FF v.2.2.1 4194400) [5,7] (FF.stays _ _) (fun w hb=>?_) ?_
       .
        intro K hK;go_simp;exact Makes.use (FF.ofFits (HGY.o.below hb) HSV.o.l HSV.o.zl.1 HSV.o.zl.2 (by decide)) hK
       refine RegG.pu (c:=?_) [5] (fun w hb=>?_) ?_;rotate_left
       .
        intro K hK;go_simp;exact hK
       refine RegG.pu (c:=?_) [5,9] (fun w hb=>?_) ?_;rotate_left
       .
        intro K hK;have hs4:=HSY.o.below hb HSY.o.lt;have c0:=hs4.cell 0;have c1:=hs4.cell 1;have c2:=hs4.cell 2;have c3:=hs4.cell 3;simp only[List.getElem?_toArray,List.getElem?_cons_zero,List.getElem?_cons_succ] at c0 c1 c2 c3;clear hs4;go_simp;exact hK
       refine RegG.ca (φ:=FF v.2.2.2 4194400) [5,10] (FF.stays _ _) (fun w hb=>?_) ?_
       .
        intro K hK;go_simp;exact Makes.use (FF.ofFits (HGY.o.below hb) HSV.o.h HSV.o.zh.1 HSV.o.zh.2 (by decide)) hK
       refine RegG.ca (φ:=Is (.int .i64 C)) [5,8,11] (Is.stays _) (fun w hb=>?_) ?_
       .
        intro v8 h8 v11 h11;intro K hK;go_simp;exact Makes.use (HCE.o ▸ FF.compare h8 h11 (by decide)) hK
       refine RegG.pu (c:=?_) [5,12] (fun w hb=>?_) ?_;rotate_left
       .
        intro K hK;go_simp;exact hK
       refine RegG.pu (c:=?_) [5,13] (fun w hb=>?_) ?_;rotate_left
       .
        intro K hK;go_simp;exact hK
       refine RegG.fi (fun u9 hb=>?_);intro v2 _ v8 _ v11 _;have HB9:=Hi (HBX2.o.trans (hb.mono HBX2.o.size));clear hb;by_cases hc:0<C
       .
        have e9:decide (0<C)=true:=decide_eq_true hc;have HAF:O (archF vs=(5,(k:Int))):=Hi (by
         have e:stoneC (ahead vs k) v=5:=by rw[HNO.o];exact if_pos (Or.inr ((Qaz _ _).1 (by rw[HCE.o];exact hc)))
         rw[HAFK.o,e,if_neg (by decide)])
        clear hc;simp only[e9];have hs0:=HS0.o.below HB9.o HS0.o.lt;have z0:=hs0.cell 0;have z1:=hs0.cell 1;have f0:=hs0.free 0;have f1:=hs0.free 1;simp only[List.getElem?_toArray,List.getElem?_cons_zero,List.getElem?_cons_succ] at z0 z1;obtain⟨HS4,HB4⟩:=Ia hs0 (HB0.o.trans (HB9.o.mono HB0.o.size));clear hs0;go_wp2;refine bodyPost_ret (v:=.agg #[.int .i64 5,.int .i64 (k:Int)]) (results_cell_row rfl _ _ B0 32 #[.int .i64 5,.int .i64 (k:Int)] (0,0) _ rfl ((HS4.o.set 0 _).set 1 _) underlying32 rfl Tryz.faultInfo) rfl ?_;exact⟨by rw[HAF.o],(HB4.o.setCell (p:=⟨B0,0,none⟩) (Nat.le_of_eq HB0E.o) _).setCell (p:=⟨B0,1,none⟩) (Nat.le_of_eq HB0E.o) _⟩
       .
        have e9:decide (0<C)=false:=decide_eq_false hc;have HAF:O (archF vs=archFrom (k+1) (ahead vs (k+1)) (vs.drop (k+1))):=Hi (by
         have e:stoneC (ahead vs k) v=0:=by
          rw[HNO.o];refine if_neg (fun h=>?_);rcases h with h|h
          . exact HW.o h
          . exact hc (by rw[<-HCE.o];exact(Qaz _ _).2 h)
         rw[HAFK.o,if_pos e])
        clear hc;simp only[e9];go_wp2;go_roundw
        case rel=>exact⟨k+1,by omega,by go_num,HAF.o,HB9.o⟩
        case measure=>simp[intOf];omega
   .
    obtain rfl:k=ss.length:=by omega
    have HAF:O (archF vs=(0,0)):=Hi (by rw[haf,<-HVL.o];exact Qf2);have hs0:=HS0.o.below hb HS0.o.lt;have z0:=hs0.cell 0;have z1:=hs0.cell 1;have f0:=hs0.free 0;have f1:=hs0.free 1;simp only[List.getElem?_toArray,List.getElem?_cons_zero,List.getElem?_cons_succ] at z0 z1;obtain⟨HS4,HB4⟩:=Ia hs0 (HB0.o.trans (hb.mono HB0.o.size));clear hs0 haf hb;go_wp2;refine bodyPost_ret (v:=.agg #[.int .i64 0,.int .i64 0]) (results_cell_row rfl _ _ B0 32 #[.int .i64 0,.int .i64 0] (0,0) _ rfl ((HS4.o.set 0 _).set 1 _) underlying32 rfl Tryz.faultInfo) rfl ?_;exact⟨by rw[HAF.o],(HB4.o.setCell (p:=⟨B0,0,none⟩) (Nat.le_of_eq HB0E.o) _).setCell (p:=⟨B0,1,none⟩) (Nat.le_of_eq HB0E.o) _⟩
end Go.Proofs.YtldjeecnapgakaaGreatDoor
