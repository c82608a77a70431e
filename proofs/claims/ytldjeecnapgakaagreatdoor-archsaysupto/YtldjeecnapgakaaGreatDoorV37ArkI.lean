/- package arch: corners, an iterator over lines. -/
import Derived.Test.YtldjeecnapgakaaGreatDoorV33ArkB
import Derived.Test.YtldjeecnapgakaaGreatDoorV36RngO
import Derived.RangeFuncBound
import Derived.RangeFuncCalls
import Derived.Shelf.Abstract
import Derived.Shelf.RegionOpen
import Derived.OwnWalkIn
import Derived.TacticsInMore
import Derived.LoopNIn
import Derived.LoopIn
namespace Go.Proofs.YtldjeecnapgakaaGreatDoor
open Go.RowKit
open Go.Proofs.Tryz
set_option linter.unusedSimpArgs false
set_option linter.unusedVariables false
set_option maxHeartbeats 8000000
set_option maxRecDepth 1000000
def lnS(vs:List V4)(h:Rat)(z:Nat->Rat):Nat->Rat:=lnV (z 0 - shp (atF vs) (wtF vs) h 0) ((z 1 - shp (atF vs) (wtF vs) h 1 - (z 0 - shp (atF vs) (wtF vs) h 0)) / (atF vs 1 - atF vs 0)) (atF vs 0) vs h
def standsF(vs:List V4)(h:Rat)(nl:Nat)(z:Nat->Rat)(b:Bool)(c:Int × Int):Prop:=
 if (archF vs).1≠0 then b=false/\c=archF vs else if nl≠vs.length then b=false/\c=(10,(vs.length:Int)) else if h<0 then b=false/\c=(5,(vs.length:Int)) else c=(0,0)/\(b=true↔goesTo (lnS vs h z) z vs.length/\fitsTo vs (lnS vs h z) vs.length)
theorem Qat{vs:List V4}(h:(archF vs).1=0):2<=vs.length/\vs.length<=10:=by
 unfold archF at h
 split at h
 . exact absurd h (by decide)
 . omega
theorem Qf8(a a2:Option Addr)(cap cap2 A H Kh:Nat)(ss:List T4)(vs:List V4)(sl:ByteArray)(h:Rat)(ls:List ByteArray)(z:Nat->Rat)(w:World)(hg:Glob w)(hr:ARow T4.cells w a cap ss)(hv:StonesV ss vs)(hn:ss.length<=1048576)(hnl:ls.length<=1048576)
 (hq:QOf sl.data.toList h) (hsz:sl.size<=1073741824) (hf:Fits h H) (hH0:0<H) (hr2:ARow tc w a2 cap2 ls) (hz:HeightsV ls z Kh) (hA:4194400<=A) (hA2:A<=5000000) (hH:H<=40000000) (hK:Kh<=2000000000):
 Calls prog 11 #[.slice a ss.length cap,.string sl,.slice a2 ls.length cap2] w fun e w'=>(∃b c1 c2,e=.returned (.tuple #[.bool b,.agg #[.int .i64 c1,.int .i64 c2]])/\standsF vs h ls.length z b (c1,c2))/\Below w.heap.size w w':=by
 obtain⟨HG,HRW,HR2,HV,HVL,HQ,HF,HZ⟩:=Ig hg hr hr2 hv hv.len hq hf hz;obtain⟨B0,hB0⟩:=nm w.heap.size;obtain⟨V,hV⟩:=nm (w.alloc (.cells #[.int .i64 0,.int .i64 0] 32));have HB0:=Ua hV;have HS0:=Uf hV hB0;obtain⟨HVE,HB0E⟩:=Ia hV hB0;have hpos:=hz.pos;clear hg hr hr2 hv hV hB0 hq hf hz;have HCK:=Hi (Qcx a cap ss vs V (HG.o.below HB0.o) (HRW.o.below HB0.o) HV.o hn);obtain⟨C,I,hCI⟩:∃C I,archF vs=(C,I):=⟨_,_,rfl⟩;rw[hCI] at HCK;have HCI:=Hi hCI;clear hCI;go_enter func11,ntmps11;go_wp2_with fail;rw[HVE.o];simp only[HB0E.o];refine HCK.o.mono ?_;rintro e w1 ⟨rfl,hb1⟩;clear HCK;obtain⟨b1,hb1e⟩:=nm w1.heap.size
 obtain⟨V1,hV1⟩:=nm (w1.alloc (.cells #[.int .i64 C,.int .i64 I] 32));have HBV1:O (Below V.heap.size V V1):=Hi (by rw[<-hV1];exact hb1.trans ((bR.alloc lZ _).mono hb1.size));have HSB1:=Uf hV1 hb1e;obtain⟨HV1,HB1E⟩:=Ia hV1 hb1e;have ltB:B0<V.heap.size:=HS0.o.lt;have hltb:V.heap.size<=b1:=by rw[<-hb1e];exact hb1.size
 clear hV1 hb1e hb1;by_cases hc:C=0
 .
  subst hc;have HAF0:O ((archF vs).1=0):=Hi (by rw[HCI.o]);obtain⟨hn2,hn10⟩:=Qat HAF0.o;rw[HVL.o] at hn2 hn10;by_cases hln:ls.length=ss.length
  .
   have e1:((ls.length:Int) != (ss.length:Int))=false:=by rw[hln];simp
   have HLN:=Hi hln;clear hln;have HBW1:=Hi (HB0.o.trans (HBV1.o.mono HB0.o.size));go_wp2_with fail;rw[HV1.o];simp only[HB1E.o];refine Makes.use (FF.ofFits (HG.o.below HBW1.o) HQ.o hsz HF.o hH0) ?_;intro vh w2 hb2 hh;obtain⟨x1,x2,x3,rfl⟩:=hh.parts;obtain⟨b2,hb2e⟩:=nm w2.heap.size;obtain⟨V2,hV2⟩:=nm (w2.alloc (.cells #[x1,x2,x3] 63));have hBV2:Below w2.heap.size w2 V2:=by rw[<-hV2];exact(Below.refl _ _).alloc lZ _
   have HBV2:O (Below V.heap.size V V2):=Hi (by have h1:=HBV1.o.trans (hb2.mono HBV1.o.size);exact h1.trans (hBV2.mono h1.size));have HSB2:=Uf hV2 hb2e;have HH:=Hi (hh.below hBV2);obtain⟨o1,o2,o3⟩:=hh.1.one;have s1:=Qaa prog o1;have s2:=Qaa prog o2;have s3:=Qaa prog o3;clear o1 o2 o3;obtain⟨HV2,HB2E⟩:=Ia hV2 hb2e;clear hV2 hb2e hb2 hh hBV2;go_wp2_with fail;rw[HV2.o];simp only[HB2E.o];clear s1 s2 s3;refine Makes.use (FF.sign HH.o) ?_;rintro _ w3 hb3 rfl;obtain⟨σ,hσ⟩:=nm (sgn3 h.num);have HSG:=Hi (Qas h);rw[hσ] at HSG ⊢;obtain⟨HB3,HH3,HSB3⟩:=Ib (HBV2.o.trans (hb3.mono HBV2.o.size)) (HH.o.below hb3) (HSB2.o.below hb3 HSB2.o.lt);clear hσ hb3;by_cases hs:σ<0
   .
    have e3:decide (σ<0)=true:=decide_eq_true hs;have HNG:=Hi (HSG.o.1 hs);clear hs;have hs0:=HS0.o.below HB3.o HS0.o.lt;have z0:=hs0.cell 0;have z1:=hs0.cell 1;have f0:=hs0.free 0;have f1:=hs0.free 1;simp only[List.getElem?_toArray,List.getElem?_cons_zero,List.getElem?_cons_succ] at z0 z1;obtain⟨HS4,HB4⟩:=Ia hs0 (HB0.o.trans (HB3.o.mono HB0.o.size));clear hs0;go_wp2;refine bodyPost_ret (Qcv rfl _ _ B0 32 #[.int .i64 5,.int .i64 (ss.length:Int)] (0,0) _ rfl ((HS4.o.set 0 _).set 1 _) underlying32 rfl Tryz.faultInfo) rfl ?_;refine⟨⟨false,5,(ss.length:Int),rfl,?_⟩,(HB4.o.setCell (p:=⟨B0,0,none⟩) (Nat.le_of_eq HB0E.o) _).setCell (p:=⟨B0,1,none⟩) (Nat.le_of_eq HB0E.o) _⟩;unfold standsF;rw[if_neg (by rw[HAF0.o];simp),if_neg (by rw[HLN.o,HVL.o];simp),if_pos HNG.o,HVL.o];exact⟨rfl,rfl⟩
   .
    have e3:decide (σ<0)=false:=decide_eq_false hs;have HNN:=Hi (fun hc=>hs (HSG.o.2 hc):¬h<0);clear hs;have c0:=HSB3.o.cell 0;have c1:=HSB3.o.cell 1;have c2:=HSB3.o.cell 2;simp only[List.getElem?_toArray,List.getElem?_cons_zero,List.getElem?_cons_succ] at c0 c1 c2;have HBW3:=Hi (HB0.o.trans (HB3.o.mono HB0.o.size));go_wp2_with fail;refine(Qd3 _ cap A H ss vs x1 x2 x3 h w3 (HG.o.below HBW3.o) (HRW.o.below HBW3.o) HV.o hn10 HH3.o hA hA2 hH).mono ?_;rintro e w4 ⟨g,ts,rfl,hgw,htb,hst,hb4⟩;obtain⟨HB4,HTB,HST⟩:=Ib (HB3.o.trans (hb4.mono HB3.o.size)) htb hst;clear htb hst hb4 c0 c1 c2 HH3 HSB3;go_wp2_with fail;obtain⟨v0,hv0⟩:∃v0,vs[0]?=some v0:=⟨vs[0]'(by have:=HVL.o;omega),gE _⟩;obtain⟨v1,hv1⟩:∃v1,vs[1]?=some v1:=⟨vs[1]'(by have:=HVL.o;omega),gE _⟩
    obtain⟨tx0,htx0⟩:∃tx0,ls[0]?=some tx0:=⟨ls[0]'(by have:=HLN.o;omega),gE _⟩;obtain⟨tx1,htx1⟩:∃tx1,ls[1]?=some tx1:=⟨ls[1]'(by have:=HLN.o;omega),gE _⟩;obtain⟨Y,hY⟩:=nm w4.drew;have HYE:=Hi hY;have HBY:O (Below V.heap.size V Y):=Hi (by rw[<-hY];exact HB4.o.drew);have HBWY:=Hi (HB0.o.trans (HBY.o.mono HB0.o.size));have HTY:O (TBlk 82 Y g ts):=Hi (by rw[<-hY];exact HTB.o.below bR.drew);have HGY:=Hi (HG.o.below HBWY.o);obtain⟨p0,p1,p2,p3,pi,g1,g2,g3,g4⟩:=HST.o.get HTY.o (i:=0) (by have:=HVL.o;omega) (by have:=HVL.o;omega) hv0;obtain⟨q0,q1,q2,q3,qi,j1,j2,j3,j4⟩:=HST.o.get HTY.o (i:=1) (by have:=HVL.o;omega) (by have:=HVL.o;omega) hv1;obtain⟨I0,I1,SP,SQ⟩:=Ic pi qi (SV4.of g1 g2 g3 g4) (SV4.of j1 j2 j3 j4);obtain⟨lb,lo,hle,hlt0,hc0⟩:=(HR2.o.below HBWY.o).text htx0
    subst hle;obtain⟨lb',lo',hle',_,hc1⟩:=(HR2.o.below HBWY.o).text htx1;cases hle';have HLT:=Hi hlt0;have HC0:O (Y.cell? ⟨lb,lo,none⟩=some (.string tx0)):=Hi hc0;obtain⟨HC1,HZ0,HZ1⟩:=Ib hc1 (HZ.o.each 0 tx0 htx0) (HZ.o.each 1 tx1 htx1);have i0:0<ss.length:=by omega
    have i1:1<ss.length:=by omega
    have i2:0<ls.length:=by have:=HLN.o;omega
    have i3:1<ls.length:=by have:=HLN.o;omega
    have i4:(1:Int)<(ss.length:Int):=by omega
    have i5:(1:Int)<(ls.length:Int):=by have:=HLN.o;omega
    have HA0:O (atF vs 0=v0.1):=Hi (by simp[atF,hv0]);have HA1:O (atF vs 1=v1.1):=Hi (by simp[atF,hv1]);clear hY pi qi g1 g2 g3 g4 j1 j2 j3 j4 hlt0 hc0 hc1 hv0 hv1 htx0 htx1;refine RegG.bg 16 (fun j=>some (bif j == 15 then 11 else 37+j)) ?_;rw[HYE.o];refine RegG.pu (c:=?_) [] (fun w hb=>?_) ?_;rotate_left
    .
     intro K hK;go_simp;exact hK
    refine RegG.pu (c:=?_) [0] (fun w hb=>?_) ?_;rotate_left
    .
     intro K hK;go_simp;exact hK
    refine RegG.pu (c:=?_) [1] (fun w hb=>?_) ?_;rotate_left
    .
     intro K hK;obtain⟨t0,t1,t2,t3,t4,t5,t6,t7,t8,t9,t10,t11⟩:=(HTY.o.below hb).stone I0.o.1 I0.o.2.1 I0.o.2.2.1 I0.o.2.2.2;simp only[Nat.zero_mul,Nat.zero_add] at t0 t1 t2 t3 t4 t5 t6 t7 t8 t9 t10 t11;obtain⟨r0,r1,r2,r3,r4,r5,r6,r7,r8,r9,r10,r11⟩:=(HTY.o.below hb).stone I1.o.1 I1.o.2.1 I1.o.2.2.1 I1.o.2.2.2;simp only[Nat.one_mul,Nat.reduceAdd] at r0 r1 r2 r3 r4 r5 r6 r7 r8 r9 r10 r11;obtain⟨w0,w1⟩:=Ja hb HLT.o HC0.o HC1.o;go_simp;exact hK
    refine RegG.pu (c:=?_) [] (fun w hb=>?_) ?_;rotate_left
    .
     intro K hK;go_simp;exact hK
    refine RegG.pu (c:=?_) [3] (fun w hb=>?_) ?_;rotate_left
    .
     intro K hK;go_simp;exact hK
    refine RegG.pu (c:=?_) [4] (fun w hb=>?_) ?_;rotate_left
    .
     intro K hK;obtain⟨t0,t1,t2,t3,t4,t5,t6,t7,t8,t9,t10,t11⟩:=(HTY.o.below hb).stone I0.o.1 I0.o.2.1 I0.o.2.2.1 I0.o.2.2.2;simp only[Nat.zero_mul,Nat.zero_add] at t0 t1 t2 t3 t4 t5 t6 t7 t8 t9 t10 t11;obtain⟨r0,r1,r2,r3,r4,r5,r6,r7,r8,r9,r10,r11⟩:=(HTY.o.below hb).stone I1.o.1 I1.o.2.1 I1.o.2.2.1 I1.o.2.2.2;simp only[Nat.one_mul,Nat.reduceAdd] at r0 r1 r2 r3 r4 r5 r6 r7 r8 r9 r10 r11;obtain⟨w0,w1⟩:=Ja hb HLT.o HC0.o HC1.o;go_simp;exact hK
    refine RegG.ca (φ:=FF (z 0) Kh) [5] (FF.stays _ _) (fun w hb=>?_) ?_
    .
     intro K hK;go_simp;exact Makes.use (FF.ofFits (HGY.o.below hb) HZ0.o.1 HZ0.o.2.2 HZ0.o.2.1 hpos) hK
    refine RegG.pu (c:=?_) [] (fun w hb=>?_) ?_;rotate_left
    .
     intro K hK;go_simp;exact hK
    refine RegG.pu (c:=?_) [7] (fun w hb=>?_) ?_;rotate_left
    .
     intro K hK;go_simp;exact hK
    refine RegG.pu (c:=?_) [8] (fun w hb=>?_) ?_;rotate_left
    .
     intro K hK;obtain⟨t0,t1,t2,t3,t4,t5,t6,t7,t8,t9,t10,t11⟩:=(HTY.o.below hb).stone I0.o.1 I0.o.2.1 I0.o.2.2.1 I0.o.2.2.2;simp only[Nat.zero_mul,Nat.zero_add] at t0 t1 t2 t3 t4 t5 t6 t7 t8 t9 t10 t11;obtain⟨r0,r1,r2,r3,r4,r5,r6,r7,r8,r9,r10,r11⟩:=(HTY.o.below hb).stone I1.o.1 I1.o.2.1 I1.o.2.2.1 I1.o.2.2.2;simp only[Nat.one_mul,Nat.reduceAdd] at r0 r1 r2 r3 r4 r5 r6 r7 r8 r9 r10 r11;obtain⟨w0,w1⟩:=Ja hb HLT.o HC0.o HC1.o;go_simp;exact hK
    refine RegG.pu (c:=?_) [] (fun w hb=>?_) ?_;rotate_left
    .
     intro K hK;go_simp;exact hK
    refine RegG.pu (c:=?_) [10] (fun w hb=>?_) ?_;rotate_left
    .
     intro K hK;go_simp;exact hK
    refine RegG.pu (c:=?_) [11] (fun w hb=>?_) ?_;rotate_left
    .
     intro K hK;obtain⟨t0,t1,t2,t3,t4,t5,t6,t7,t8,t9,t10,t11⟩:=(HTY.o.below hb).stone I0.o.1 I0.o.2.1 I0.o.2.2.1 I0.o.2.2.2;simp only[Nat.zero_mul,Nat.zero_add] at t0 t1 t2 t3 t4 t5 t6 t7 t8 t9 t10 t11;obtain⟨r0,r1,r2,r3,r4,r5,r6,r7,r8,r9,r10,r11⟩:=(HTY.o.below hb).stone I1.o.1 I1.o.2.1 I1.o.2.2.1 I1.o.2.2.2;simp only[Nat.one_mul,Nat.reduceAdd] at r0 r1 r2 r3 r4 r5 r6 r7 r8 r9 r10 r11;obtain⟨w0,w1⟩:=Ja hb HLT.o HC0.o HC1.o;go_simp;exact hK
    refine RegG.ca (φ:=FF (z 1) Kh) [12] (FF.stays _ _) (fun w hb=>?_) ?_
    .
     intro K hK;go_simp;exact Makes.use (FF.ofFits (HGY.o.below hb) HZ1.o.1 HZ1.o.2.2 HZ1.o.2.1 hpos) hK
    refine RegG.ca (φ:=LineV (z 0 - shp (atF vs) (wtF vs) h 0) ((z 1 - shp (atF vs) (wtF vs) h 1 - (z 0 - shp (atF vs) (wtF vs) h 0)) / (v1.1 - v0.1)) v0.1 (Kh+(52*A+36*H+61)+1) (Kh+(52*A+36*H+61)+1+(Kh+(52*A+36*H+61)+1)+1+(A+A+1)) A) [2,6,9,13] (LineV.stays _ _ _ _ _ _) (fun w hb=>?_) ?_
    .
     intro v6 h6 v13 h13;intro K hK;go_simp;exact Makes.use (Qf5 (SV4.stays _ _ _ _ _ _ _ _ _ hb SP.o) h6 (SV4.stays _ _ _ _ _ _ _ _ _ hb SQ.o) h13 (by omega)) hK
    refine RegG.ca (φ:=LineV (z 0 - shp (atF vs) (wtF vs) h 0) ((z 1 - shp (atF vs) (wtF vs) h 1 - (z 0 - shp (atF vs) (wtF vs) h 0)) / (v1.1 - v0.1)) v0.1 (Kh+(52*A+36*H+61)+1) (Kh+(52*A+36*H+61)+1+(Kh+(52*A+36*H+61)+1)+1+(A+A+1)) A) [14] (LineV.stays _ _ _ _ _ _) (fun w hb=>?_) ?_
    .
     intro v14 h14;intro K hK;go_simp;exact hK _ _ bR h14
    refine RegG.fi (fun u9 hb=>?_);intro v6 _ v13 _ v14 _ v15 hl;rw[<-HA0.o,<-HA1.o] at hl;have HBU:=Hi (HBY.o.trans (hb.mono HBY.o.size));obtain⟨HBWU,HTU,HL⟩:=Ib (HB0.o.trans (HBU.o.mono HB0.o.size)) (HTY.o.below hb) hl;clear hb hl;obtain⟨k1,hk1⟩:=nm (Kh+(52*A+36*H+61)+1);obtain⟨k2,hk2⟩:=nm (k1+k1+1+(A+A+1));rw[hk1,hk2] at HL;have hkk:k1+k2+A+54*A+36*H<50000000000:=by omega
    have HGA:O (Calls prog 40 #[.slice (some ⟨g,0,none⟩) ss.length ss.length,v15,.slice (some ⟨lb,lo,none⟩) ls.length cap2] u9 fun e w'=>(∃b,e=.returned (.bool b)/\(b=true↔goesTo (lnS vs h z) z vs.length))/\Below u9.heap.size u9 w'):=Hi (by
     have:=Qkp (HG.o.below HBWU.o) HTU.o HST.o (by have:=HVL.o;omega) HL.o (HR2.o.below HBWU.o) (by rw[HLN.o,HVL.o]) HZ.o hkk;rw[HLN.o];rw[HVL.o] at this ⊢
     exact this)
    have HFI:O (∀u,Below u9.heap.size u9 u->Calls prog 37 #[.slice (some ⟨g,0,none⟩) ss.length ss.length,v15] u fun e w'=>(∃b,e=.returned (.bool b)/\(b=true↔fitsTo vs (lnS vs h z) vs.length))/\Below u.heap.size u w'):=Hi (fun u hu=>by
     have:=Qf7 (HTU.o.below hu) HST.o (by have:=HVL.o;omega) (LineV.stays _ _ _ _ _ _ _ _ _ hu HL.o) hkk;rw[HVL.o] at this ⊢
     exact this)
    have HSTF:O (∀b:Bool,(b=true↔goesTo (lnS vs h z) z vs.length/\fitsTo vs (lnS vs h z) vs.length)->standsF vs h ls.length z b (0,0)):=Hi (fun b hb=>by
     unfold standsF;rw[if_neg (by rw[HAF0.o];simp),if_neg (by rw[HLN.o,HVL.o];simp),if_neg HNN.o]
     exact⟨rfl,hb⟩)
    clear hk1 hk2 hkk i0 i1 i2 i3 i4 i5;go_wp2_with fail;refine HGA.o.mono ?_;rintro e w5 ⟨⟨bg,rfl,hbg⟩,hb5⟩;obtain⟨HB5,HBG,HBX,HFC⟩:=Ic hb5 hbg (HBU.o.trans (hb5.mono HBU.o.size)) (HFI.o w5 hb5);clear hb5 hbg HGA HFI;cases bg with
    |true=>
     go_wp2_with fail;refine HFC.o.mono ?_;rintro e w6 ⟨⟨bf,rfl,hbf⟩,hb6⟩;obtain⟨HBF,HBZ⟩:=Ia hbf (HBX.o.trans (hb6.mono HBX.o.size));clear hb6 hbf HFC;have hs0:=HS0.o.below HBZ.o HS0.o.lt;have z0:=hs0.cell 0;have z1:=hs0.cell 1;have f0:=hs0.free 0;have f1:=hs0.free 1;simp only[List.getElem?_toArray,List.getElem?_cons_zero,List.getElem?_cons_succ] at z0 z1;obtain⟨HS4,HB4⟩:=Ia hs0 (HB0.o.trans (HBZ.o.mono HB0.o.size));clear hs0;go_wp2;refine bodyPost_ret (Qcv rfl _ _ B0 32 #[.int .i64 0,.int .i64 0] (0,0) _ rfl ((HS4.o.set 0 _).set 1 _) underlying32 rfl Tryz.faultInfo) rfl ?_;refine⟨⟨bf,0,0,rfl,?_⟩,(HB4.o.setCell (p:=⟨B0,0,none⟩) (Nat.le_of_eq HB0E.o) _).setCell (p:=⟨B0,1,none⟩) (Nat.le_of_eq HB0E.o) _⟩;exact HSTF.o bf ⟨fun hc=>⟨HBG.o.1 (by trivial),HBF.o.1 hc⟩,fun hc=>HBF.o.2 hc.2⟩
    |false=>
     have hs0:=HS0.o.below HBX.o HS0.o.lt;have z0:=hs0.cell 0;have z1:=hs0.cell 1;have f0:=hs0.free 0;have f1:=hs0.free 1;simp only[List.getElem?_toArray,List.getElem?_cons_zero,List.getElem?_cons_succ] at z0 z1;obtain⟨HS4,HB4⟩:=Ia hs0 (HB0.o.trans (HBX.o.mono HB0.o.size));clear hs0;go_wp2;refine bodyPost_ret (Qcv rfl _ _ B0 32 #[.int .i64 0,.int .i64 0] (0,0) _ rfl ((HS4.o.set 0 _).set 1 _) underlying32 rfl Tryz.faultInfo) rfl ?_;refine⟨⟨false,0,0,rfl,?_⟩,(HB4.o.setCell (p:=⟨B0,0,none⟩) (Nat.le_of_eq HB0E.o) _).setCell (p:=⟨B0,1,none⟩) (Nat.le_of_eq HB0E.o) _⟩;exact HSTF.o false ⟨fun hc=>absurd hc (by decide),fun hc=>absurd (HBG.o.2 hc.1) (by decide)⟩
  .
   have e1:((ls.length:Int) != (ss.length:Int))=true:=by rw[bne_iff_ne];omega
   have HLN:O (ls.length≠vs.length):=Hi (by rw[HVL.o];exact hln);clear hln;have hs0:=HS0.o.below HBV1.o HS0.o.lt;have z0:=hs0.cell 0;have z1:=hs0.cell 1;have f0:=hs0.free 0;have f1:=hs0.free 1;simp only[List.getElem?_toArray,List.getElem?_cons_zero,List.getElem?_cons_succ] at z0 z1;obtain⟨HS4,HB4⟩:=Ia hs0 (HB0.o.trans (HBV1.o.mono HB0.o.size));clear hs0;rw[<-HV1.o] at z0 z1 f0 f1;go_wp2;rw[HV1.o];refine bodyPost_ret (Qcv rfl _ _ B0 32 #[.int .i64 10,.int .i64 (ss.length:Int)] (0,0) _ rfl ((HS4.o.set 0 _).set 1 _) underlying32 rfl Tryz.faultInfo) rfl ?_;refine⟨⟨false,10,(ss.length:Int),rfl,?_⟩,(HB4.o.setCell (p:=⟨B0,0,none⟩) (Nat.le_of_eq HB0E.o) _).setCell (p:=⟨B0,1,none⟩) (Nat.le_of_eq HB0E.o) _⟩;unfold standsF;rw[if_neg (by rw[HAF0.o];simp),if_pos HLN.o,HVL.o];exact⟨rfl,rfl⟩
 .
  have HNE:O ((archF vs).1≠0):=Hi (by rw[HCI.o];exact hc);have e0:(C != 0)=true:=by simpa using hc
  clear hc;go_wp2_with fail;rw[HV1.o];simp only[HB1E.o];obtain⟨Y,hY⟩:=nm V1.drew;have HYE:=Hi hY;have HBY:O (Below V.heap.size V Y):=Hi (by rw[<-hY];exact HBV1.o.drew);have HSY:O (SB Y b1 32 #[.int .i64 C,.int .i64 I]):=Hi (by rw[<-hY];exact HSB1.o);clear hY;refine RegG.bg 2 (fun j=>some (bif j == 0 then 17 else 6)) ?_;rw[HYE.o];refine RegG.pu (c:=?_) [] (fun w hb=>?_) ?_;rotate_left
  .
   intro K hK;have hs2:=HSY.o.below hb HSY.o.lt;have c0:=hs2.cell 0;have c1:=hs2.cell 1;simp only[List.getElem?_toArray,List.getElem?_cons_zero,List.getElem?_cons_succ] at c0 c1;clear hs2;go_simp;exact hK
  refine RegG.pu (c:=?_) [] (fun w hb=>?_) ?_;rotate_left
  .
   intro K hK;go_simp;exact hK
  refine RegG.last (by simp only[List.nil_append,List.cons_append,List.length_append,List.length_cons,List.length_nil,Nat.reduceAdd]) (by rfl) (by rfl) (by kernel_rfl) (fun u2 hb=>?_);simp only[FinG,List.nil_append,List.cons_append,Qak,Act.put,List.setIfInBounds_toArray,List.set_cons_zero,List.set_cons_succ,Nat.reduceAdd,Nat.reduceBEq,cond_true,cond_false];intro K hK;have HBU:=Hi (HBY.o.trans (hb.mono HBY.o.size));have hs0:=HS0.o.below HBU.o HS0.o.lt;have z0:=hs0.cell 0;have z1:=hs0.cell 1;have f0:=hs0.free 0;have f1:=hs0.free 1;simp only[List.getElem?_toArray,List.getElem?_cons_zero,List.getElem?_cons_succ] at z0 z1;obtain⟨HS4,HB4⟩:=Ia hs0 (HB0.o.trans (HBU.o.mono HB0.o.size));clear hs0;clear hb;go_simp;refine hK _ _ ?_;go_wp2
  refine bodyPost_ret (Qcv rfl _ _ B0 32 #[.int .i64 C,.int .i64 I] (0,0) _ rfl ((HS4.o.set 0 _).set 1 _) underlying32 rfl Tryz.faultInfo) rfl ?_;refine⟨⟨false,C,I,rfl,?_⟩,(HB4.o.setCell (p:=⟨B0,0,none⟩) (Nat.le_of_eq HB0E.o) _).setCell (p:=⟨B0,1,none⟩) (Nat.le_of_eq HB0E.o) _⟩;unfold standsF;rw[if_pos HNE.o,HCI.o];exact⟨rfl,rfl⟩
end Go.Proofs.YtldjeecnapgakaaGreatDoor
namespace Go.Proofs.YtldjeecnapgakaaGreatDoor
open Go Go.RowKit Go.Shelf
open Go.Proofs.Tryz
set_option linter.unusedSimpArgs false
set_option linter.unusedVariables false
set_option maxHeartbeats 8000000
set_option maxRecDepth 1000000
attribute [local go_sem] Oper.semAt_some
abbrev Crn:=Nat × Nat × Value
def stC(vs:List V4)(h:Rat)(i:Nat):Rat:=loF vs i - shp (atF vs) (wtF vs) h i
def slC(vs:List V4)(h:Rat)(i j:Nat):Rat:=(hiF vs j - shp (atF vs) (wtF vs) h j - stC vs h i) / (atF vs j - atF vs i)
def kC1(A H:Nat):Nat:=A+(52*A+36*H+61)+1
def kC2(A H:Nat):Nat:=kC1 A H+kC1 A H+1+(A+A+1)
def OkC(vs:List V4)(h:Rat)(A H:Nat)(x:Crn)(w:World):Prop:=x.1<x.2.1/\x.2.1<vs.length/\LineV (stC vs h x.1) (slC vs h x.1 x.2.1) (atF vs x.1) (kC1 A H) (kC2 A H) A x.2.2 w
def AllC(n:Nat)(xs:List Crn):Prop:=∀i j,i<j->j<n->∃v,(i,j,v)∈ xs
theorem Qkr(g n:Nat)(w:World):Calls prog 36 #[.slice (some ⟨g,0,none⟩) n n] w fun e w'=>e=.returned (.func (.func 82) #[] #[.pointer (some ⟨w.heap.size,0,none⟩)])/\w'=w.alloc (.cells #[.slice (some ⟨g,0,none⟩) n n] 68):=by
 go_enter func36,ntmps36;go_wp2;go_ret;exact⟨rfl,rfl⟩
theorem Qks{g A H b m:Nat}{vs:List V4}{h:Rat}{ts:List FE}{w:World}(ht:TBlk 82 w g ts)(hs:Sto A H vs h ts vs.length)(hn:vs.length<=10)(hb:SB w b 68 #[.slice (some ⟨g,0,none⟩) vs.length vs.length])(hA:A<=5000000)(hH:H<=40000000)(hm:1<=m):
 Over Fence.wide m prog 82 #[.pointer (some ⟨b,0,none⟩)] (fun x:Crn=>x.2.2) (OkC vs h A H) (AllC vs.length) (fun _=>True) w:=by
 intro l J Jx W hbW hl hJb hJl hY h0;obtain⟨n,hnn⟩:=nm vs.length;obtain⟨HT,HS,HSB,HJB,HJL,HY,HJ0⟩:=If ht hs hb hJb hJl hY h0;rw[hnn] at hn HSB ⊢;obtain⟨HNN,HBW⟩:=Ia hnn hbW;have hltb:b<W.heap.size:=Nat.lt_of_lt_of_le hb.lt hbW.size;clear ht hs hb hJb hJl hY h0 hnn hbW;obtain⟨c0,-⟩:=zc (HSB.o.below HBW.o HSB.o.lt);refine callsIn_of_wp func82 rfl trivial ?_ rfl;simp only[ntmps82,List.size_toArray,List.length_cons,List.length_nil,Nat.reduceAdd,Nat.reduceSub,Array.replicate_succ,Array.replicate_zero,List.push_toArray,List.append_toArray,List.nil_append,List.cons_append]
 gi_wp2
 gi_loopw [9] (fun iv wr=>∃(k:Nat) (pre:List Crn),k<=n/\iv=.int .i64 k/\(∀i j,i<k->i<j->j<n->∃v,(i,j,v)∈ pre)/\J pre wr) (fun iv _=>n - (intOf iv).toNat)
 case atStart=>exact⟨0,[],Nat.zero_le _,rfl,fun i j hi=>by omega,HJ0.o⟩
 case round=>
  obtain⟨k,pre,hk,rfl,hpre,hj⟩:=hrel;obtain⟨HJ,HPRE⟩:=Ia hj hpre;have hjl:=HJL.o pre wr hj;have HBR:=Hi hjl.2.2;clear hj hpre hjl c0 hltb;by_cases hkn:k<n
  .
   obtain⟨v,hv⟩:∃v,vs[k]?=some v:=⟨vs[k]'(by have:=HNN.o;omega),gE _⟩;have htw:=HT.o.below HBR.o;obtain⟨pa,pl,pu,ps,⟨i1,i2,i3,i4⟩,h1,h2,h3,h4⟩:=HS.o.get htw (by have:=HNN.o;omega) (by have:=HNN.o;omega) hv;obtain⟨t0,t1,t2,t3,t4,t5,t6,t7,t8,t9,t10,t11⟩:=htw.stone i1 i2 i3 i4;obtain⟨o1,o2,o3⟩:=h1.1.one;obtain⟨o4,o5,o6⟩:=h2.1.one;obtain⟨o7,o8,o9⟩:=h3.1.one;obtain⟨o10,o11,o12⟩:=h4.1.one;have s1:=Qaa prog o1;have s2:=Qaa prog o2;have s3:=Qaa prog o3;have s4:=Qaa prog o4;have s5:=Qaa prog o5;have s6:=Qaa prog o6;have s7:=Qaa prog o7;have s8:=Qaa prog o8;have s9:=Qaa prog o9;have s10:=Qaa prog o10;have s11:=Qaa prog o11;have s12:=Qaa prog o12;clear o1 o2 o3 o4 o5 o6 o7 o8 o9 o10 o11 o12;have hbb:=(HSB.o.below HBR.o HSB.o.lt);obtain⟨b4,hb4⟩:=nm wr.heap.size
   obtain⟨V,hV⟩:=nm (wr.alloc (.cells #[pa.x,pa.y,pa.z,pl.x,pl.y,pl.z,pu.x,pu.y,pu.z,ps.x,ps.y,ps.z] 82));have hBV:Below wr.heap.size wr V:=by rw[<-hV];exact(Below.refl _ _).alloc lZ _
   have HP4:=Uf hV hb4;have HJV:=Hi (HJB.o pre wr V HJ.o hBV);obtain⟨cb,-⟩:=zc (hbb.below hBV hbb.lt);rw[<-hV] at cb;obtain⟨HV,HB4⟩:=Ia hV hb4;have q1:((k:Int)<(n:Int)):=by omega
   obtain⟨HPI,HVK⟩:=Ia (And.intro i1 (And.intro i2 (And.intro i3 i4))) hv;clear htw h1 h2 h3 h4 hbb hb4 hV hBV i1 i2 i3 i4 hv;rcases Nat.lt_or_ge (k+1) n with hk1|hk1
   .
    have hne:¬n=k+1:=by omega
    gi_wp2
    rw[HV.o];simp only[HB4.o];clear s1 s2 s3 s4 s5 s6 s7 s8 s9 s10 s11 s12;clear t0 t1 t2 t3 t4 t5 t6 t7 t8 t9 t10 t11 cb
    gi_loopw [19] (fun iv wr=>∃(q:Nat) (pre':List Crn),q<=n - (k+1)/\iv=.int .i64 q/\(∀x,x∈ pre->x∈ pre')/\(∀j,k<j->j<k+1+q->∃v,(k,j,v)∈ pre')/\J pre' wr/\SB wr b4 82 #[pa.x,pa.y,pa.z,pl.x,pl.y,pl.z,pu.x,pu.y,pu.z,ps.x,ps.y,ps.z]) (fun iv _=>n - (k+1) - (intOf iv).toNat)
    case atStart=>exact⟨0,pre,Nat.zero_le _,rfl,fun x hx=>hx,fun j hj hj'=>by omega,HJV.o,HP4.o⟩
    case round=>
     obtain⟨q,pre',hq,rfl,hsub,hin,hj',hsb4⟩:=hrel;have HJ':=Hi hj';obtain⟨HSUB,HIN,HS4⟩:=Ib hsub hin hsb4;obtain⟨hnc,hll,hbr⟩:=HJL.o pre' wr hj';have HNC:=Hi hnc;have HBR':=Hi hbr;clear hj' hsub hin hsb4 hnc hbr;by_cases hqn:q<n - (k+1)
     .
      obtain⟨v',hv'⟩:∃v',vs[k+1+q]?=some v':=⟨vs[k+1+q]'(by have:=HNN.o;omega),gE _⟩;have htw:=HT.o.below HBR'.o;obtain⟨qa,ql,qu,qs,⟨i1,i2,i3,i4⟩,h1,h2,h3,h4⟩:=HS.o.get htw (by have:=HNN.o;omega) (by have:=HNN.o;omega) hv';obtain⟨t0,t1,t2,t3,t4,t5,t6,t7,t8,t9,t10,t11⟩:=htw.stone i1 i2 i3 i4;have e12:(k+1+q)*12=(k+1)*12+q*12:=by omega
      rw[e12] at t0 t1 t2 t3 t4 t5 t6 t7 t8 t9 t10 t11;obtain⟨pa',pl',pu',ps',⟨k1,k2,k3,k4⟩,g1,g2,g3,g4⟩:=HS.o.get htw (i:=k) (by have:=HNN.o;omega) (by have:=HNN.o;omega) HVK.o;obtain⟨m1,m2,m3,m4⟩:=HPI.o;obtain rfl:=Option.some.inj (k1.symm.trans m1);obtain rfl:=Option.some.inj (k2.symm.trans m2);obtain rfl:=Option.some.inj (k3.symm.trans m3);obtain rfl:=Option.some.inj (k4.symm.trans m4);obtain⟨o1,o2,o3⟩:=h1.1.one;obtain⟨o4,o5,o6⟩:=h2.1.one;obtain⟨o7,o8,o9⟩:=h3.1.one;obtain⟨o10,o11,o12⟩:=h4.1.one;have s1:=Qaa prog o1;have s2:=Qaa prog o2;have s3:=Qaa prog o3;have s4:=Qaa prog o4;have s5:=Qaa prog o5;have s6:=Qaa prog o6;have s7:=Qaa prog o7;have s8:=Qaa prog o8;have s9:=Qaa prog o9;have s10:=Qaa prog o10;have s11:=Qaa prog o11;have s12:=Qaa prog o12;clear o1 o2 o3 o4 o5 o6 o7 o8 o9 o10 o11 o12
      obtain⟨b6,hb6⟩:=nm wr.heap.size;obtain⟨Z,hZ⟩:=nm (wr.alloc (.cells #[qa.x,qa.y,qa.z,ql.x,ql.y,ql.z,qu.x,qu.y,qu.z,qs.x,qs.y,qs.z] 82));have hBZ:Below wr.heap.size wr Z:=by rw[<-hZ];exact(Below.refl _ _).alloc lZ _
      obtain⟨SP,SQ,FL,FU⟩:=Ic (SV4.of (g1.below hBZ) (g2.below hBZ) (g3.below hBZ) (g4.below hBZ)) (SV4.of (h1.below hBZ) (h2.below hBZ) (h3.below hBZ) (h4.below hBZ)) (g2.below hBZ) (h3.below hBZ);have hs4z:=HS4.o.below hBZ HS4.o.lt;have p0:=hs4z.cell 0;have p1:=hs4z.cell 1;have p2:=hs4z.cell 2;have p3:=hs4z.cell 3;have p4:=hs4z.cell 4;have p5:=hs4z.cell 5;have p6:=hs4z.cell 6;have p7:=hs4z.cell 7;have p8:=hs4z.cell 8;have p9:=hs4z.cell 9;have p10:=hs4z.cell 10;have p11:=hs4z.cell 11;simp only[List.getElem?_toArray,List.getElem?_cons_zero,List.getElem?_cons_succ] at p0 p1 p2 p3 p4 p5 p6 p7 p8 p9 p10 p11;rw[<-hZ] at p0 p1 p2 p3 p4 p5 p6 p7 p8 p9 p10 p11;obtain⟨HZ,HB6,HBZ,HVQ⟩:=Ic hZ hb6 hBZ hv';have q2:((q:Int)<((n - (k+1):Nat):Int)):=by omega
      clear htw h1 h2 h3 h4 g1 g2 g3 g4 k1 k2 k3 k4 m1 m2 m3 m4 i1 i2 i3 i4 hs4z hZ hb6 hBZ hv' e12
      gi_wp2
      rw[HZ.o];simp only[HB6.o];clear s1 s2 s3 s4 s5 s6 s7 s8 s9 s10 s11 s12;clear t0 t1 t2 t3 t4 t5 t6 t7 t8 t9 t10 t11 p0 p1 p2 p3 p4 p5 p6 p7 p8 p9 p10 p11;refine⟨trivial,callsIn_wide.2 (Makes.use (Qf5 SP.o FL.o SQ.o FU.o (by omega)) ?_)⟩;intro vy w2 hb2 hy;have hlo:loF vs k=v.2.2.1:=by have:=HVK.o;simp[loF,this]
      have hhi:hiF vs (k+1+q)=v'.2.2.2:=by have:=HVQ.o;simp[hiF,this]
      have ha1:atF vs k=v.1:=by have:=HVK.o;simp[atF,this]
      have ha2:atF vs (k+1+q)=v'.1:=by have:=HVQ.o;simp[atF,this]
      rw[<-hlo,<-hhi,<-ha1,<-ha2] at hy;have hbw2:=HBZ.o.trans (hb2.mono HBZ.o.size);have hok:OkC vs h A H (k,k+1+q,vy) w2:=⟨by show k<k+1+q;omega,by rw[HNN.o];show k+1+q<n;omega,hy⟩;have hj2:=HJB.o pre' wr w2 HJ'.o hbw2;have HS42:=Hi (HS4.o.below hbw2 HS4.o.lt);have HNC2:=Hi (HJL.o pre' w2 hj2).1;obtain⟨fn,tmps,asg,bdy,hyy,hR⟩:=HY.o pre' (k,k+1+q,vy) w2 hj2 hok;dsimp only at hyy;have HR:=Hi hR;clear hlo hhi ha1 ha2 hy hok hj2 hb2 hbw2 hR
      gi_wp2
      refine HR.o.mono ?_;rintro e W3 (⟨rfl,hJ3,ho3⟩|⟨rfl,hJx3⟩)
      .
       have HJ3:=Hi hJ3;have HS43:O (SB W3 b4 82 #[pa'.x,pa'.y,pa'.z,pl'.x,pl'.y,pl'.z,pu'.x,pu'.y,pu'.z,ps'.x,ps'.y,ps'.z]):=Hi (HS42.o.only ho3 (by
        rintro rfl;have:=HNC2.o _ HS42.o
        cases this))
       clear hJ3 ho3 hyy
       gi_wp2
       go_roundw
       case rel=>
        refine⟨q+1,pre'++ [(k,k+1+q,vy)],by omega,by go_num,fun x hx=>List.mem_append_left _ (HSUB.o x hx),fun j hj hj'=>?_,HJ3.o,HS43.o⟩;rcases Nat.lt_or_ge j (k+1+q) with h1|h1
        . obtain⟨u,hu⟩:=HIN.o j hj h1
          exact⟨u,List.mem_append_left _ hu⟩
        . exact⟨vy,by rw[show j=k+1+q by omega];simp⟩
       case measure=>simp[intOf];omega
      .
       have HJX:=Hi hJx3;clear hJx3 hyy
       gi_wp2
       refine bodyPost_ret (results_none rfl _ _ _) rfl ?_;exact⟨⟨_,rfl⟩,.inr ⟨_,trivial,HJX.o⟩⟩
     .
      have hq':q=n - (k+1):=by omega
      have q3:¬((q:Int)<((n - (k+1):Nat):Int)):=by omega
      gi_wp2
      go_roundw
      case rel=>
       refine⟨k+1,pre',by omega,by go_num,fun i j hi hij hj=>?_,HJ'.o⟩;rcases Nat.lt_or_ge i k with h1|h1
       . obtain⟨u,hu⟩:=HPRE.o i j h1 hij hj
         exact⟨u,HSUB.o _ hu⟩
       . obtain rfl:i=k:=by omega
         exact HIN.o j hij (by omega)
      case measure=>simp[intOf];omega
   .
    obtain rfl:n=k+1:=by omega
    gi_wp2
    rw[HV.o];simp only[HB4.o];clear s1 s2 s3 s4 s5 s6 s7 s8 s9 s10 s11 s12;clear t0 t1 t2 t3 t4 t5 t6 t7 t8 t9 t10 t11 cb
    gi_loopw [19] (fun iv wr=>iv=.int .i64 0/\J pre wr) (fun iv _=>0)
    case atStart=>exact⟨rfl,HJV.o⟩
    case round=>
     obtain⟨rfl,hj'⟩:=hrel;have HJ':=Hi hj';clear hj'
     gi_wp2
     go_roundw
     case rel=>
      refine⟨k+1,pre,by omega,by go_num,fun i j hi hij hj=>?_,HJ'.o⟩;rcases Nat.lt_or_ge i k with h1|h1
      . exact HPRE.o i j h1 hij hj
      . omega
     case measure=>simp[intOf]
  .
   obtain rfl:k=n:=by omega
   gi_wp2
   go_end0;exact⟨⟨_,rfl⟩,.inl ⟨pre,fun i j hij hj=>HPRE.o i j (by omega) hij hj,HJ.o⟩⟩
end Go.Proofs.YtldjeecnapgakaaGreatDoor
