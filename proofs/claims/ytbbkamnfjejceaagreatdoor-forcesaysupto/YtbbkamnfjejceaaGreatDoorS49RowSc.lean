/- For every world that holds the tables, and all forces and places that together are of bulk at most 1048576: ForceSays answers true: the statement and its card. -/
import Derived.Test.YtbbkamnfjejceaaGreatDoorS48SaysC
import Derived.Test.YtbbkamnfjejceaaGreatDoorCards
import Derived.Test.YtbbkamnfjejceaaGreatDoorTie
import Derived.Deep.DeepHandedRow
namespace Go.Proofs.YtbbkamnfjejceaaGreatDoor
open Go.RowKit
set_option linter.unusedVariables false
set_option linter.unusedSimpArgs false
set_option maxRecDepth 100000 in
set_option maxHeartbeats 8000000 in
theorem Qon(a b:Option Addr)(cap cap2:Nat)(fs gs:List F4)(sx sy:ByteArray)(w:World)(hg:Glob w)(hm:Marked w)(hf:FRow w a cap fs)(hf2:FRow w b cap2 gs)(hs:Sized fs)(hs2:Sized gs)(hsx:sx.size≤1048576)(hsy:sy.size≤1048576):
 Calls Tryz.prog 3 #[.slice a fs.length cap,.slice b gs.length cap2,.agg #[.string sx,.string sy]] w fun e w'=>e=.returned (.bool true)∧Below w.heap.size w w':=by
 have HF2:=Hi hf2;have HS2:=Hi hs2;clear hf2 hs2;obtain⟨ox,hox⟩:=QOf.ex sx.data.toList;obtain⟨oy,hoy⟩:=QOf.ex sy.data.toList;have HOX:=Hi hox;have HOY:=Hi hoy;have HS:=Hi hs;have HSX:=Hi hsx;have HSY:=Hi hsy;have hn:fs.length≤1048576:=Nat.le_trans hs.len (by decide);clear hox hoy hs hsx hsy;have HG:=Hi hg;have HM:=Hi hm;have HF:=Hi hf;clear hg hm hf;go_enter Tryz.func3,Tryz.ntmps3;go_wp2_with fail;obtain⟨wA,hwA⟩:∃wA,w.alloc (.cells #[.string sx,.string sy] 25)=wA:=⟨_,rfl⟩;have HBA:Hid (Below w.heap.size w wA):=Hi (by rw[←hwA];exact(Below.refl _ _).alloc (Nat.le_refl _) _);have HAB:Hid (SB wA w.heap.size 25 #[.string sx,.string sy]):=Hi (by rw[←hwA];exact SB.new w _ _);rw[hwA];clear hwA;go_fit (Qdy wA (HG.out.below HBA.out));rintro e w1 ⟨rfl,hb1⟩;have HB1:=Hi (HBA.out.trans (hb1.mono HBA.out.size));have HC1:=Hi hb1;clear hb1;have hmk:=HM.out.below HB1.out
 have m0:w1.cell? ⟨0,0,none⟩=some (.string ⟨#[109,97,114,107]⟩):=hmk.c0;have m1:w1.cell? ⟨0,1,none⟩=some (.string ⟨#[]⟩):=hmk.c1;have m2:w1.cell? ⟨0,2,none⟩=some (.string ⟨#[]⟩):=hmk.c2;have m3:w1.cell? ⟨0,3,none⟩=some (.string ⟨#[]⟩):=hmk.c3;clear hmk;go_wp2_with fail;clear m0 m1 m2 m3;go_fit (Qd2 a cap fs ⟨#[109,97,114,107]⟩ ⟨#[]⟩ ⟨#[]⟩ ⟨#[]⟩ w1 (HF.out.below HB1.out) hn);rintro e w2 ⟨g,rfl,hrow,hb2⟩;have HB2:=Hi (HB1.out.trans (hb2.mono HB1.out.size));have HC2:=Hi (HC1.out.trans (hb2.mono HC1.out.size));have HL:=Hi hrow;clear hb2 hrow;have hab:=HAB.out.below HC2.out HAB.out.lt;have k0:_=some (Value.string sx):=hab.cell 0;have k1:_=some (Value.string sy):=hab.cell 1;clear hab;go_wp2_with fail;clear k0 k1
 go_fit (Qfg (some ⟨g,0,none⟩) (fs.length+3) 1048576 600000000 fs sx sy ox oy w2 (HG.out.below HB2.out) HL.out.left HS.out.len (by decide) HS.out.wtm (by decide) (fun f hf=>Nat.le_trans (HS.out.sz f hf) (by decide)) HSX.out HSY.out HOX.out HOY.out);rintro e w3 ⟨x,y,t,v1,v2,v3,hsum,g1,g2,g3,rfl,hb3⟩;have HSU:=Hi hsum;have P1:=Hi g1;have P2:=Hi g2;have P3:=Hi g3;clear hsum g1 g2 g3;have HB3:=Hi (HB2.out.trans (hb3.mono HB2.out.size));have HC3:=Hi (HC2.out.trans (hb3.mono HC2.out.size));have HD3:=Hi hb3;clear hb3;obtain⟨gV,hgV⟩:∃gV,w3.heap.size=gV:=⟨_,rfl⟩;obtain⟨wB,hwB⟩:∃wB,w3.alloc (.cells #[.string v1,.string v2] 25)=wB:=⟨_,rfl⟩;have HB4:Hid (Below w.heap.size w wB):=Hi (by rw[←hwB];exact HB3.out.alloc HB3.out.size _);have HC4:Hid (Below wA.heap.size wA wB):=Hi (by rw[←hwB];exact HC3.out.alloc HC3.out.size _)
 have HD4:Hid (Below w2.heap.size w2 wB):=Hi (by rw[←hwB];exact HD3.out.alloc HD3.out.size _);have HV:Hid (SB wB gV 25 #[.string v1,.string v2]):=Hi (by rw[←hwB,←hgV];exact SB.new w3 _ _);have HWB:=Hi hwB;have HGV:=Hi hgV;clear hwB hgV;go_wp2_with fail;rw[HWB.out,HGV.out];go_fit (Qdo (some ⟨g,0,none⟩) (fs.length+3) 20000000 fs wB (HG.out.below HB4.out) (HL.out.left.below HD4.out) HS.out.len HS.out.wt0 (by decide) (fun f hf=>Nat.le_trans (HS.out.sz f hf) (by decide)));rintro e w4 ⟨x0,y0,t0,s1,s2,s3,s4,s5,hsum0,h1,h2,h3,h4,h5,rfl,hb4⟩;obtain⟨kd,hkd⟩:∃kd,kindOf x0 y0 t0=kd:=⟨_,rfl⟩;rw[hkd];have HKD:=Hi hkd;have HS0:=Hi hsum0;have T1:=Hi h1;have T2:=Hi h2;have T3:=Hi h3;have T4:=Hi h4;have T5:=Hi h5;clear hkd hsum0 h1 h2 h3 h4 h5;have HB5:=Hi (HB4.out.trans (hb4.mono HB4.out.size));have HC5:=Hi (HC4.out.trans (hb4.mono HC4.out.size));have HD5:=Hi (HD4.out.trans (hb4.mono HD4.out.size))
 have HE5:=Hi hb4;clear hb4;obtain⟨gS,hgS⟩:∃gS,w4.heap.size=gS:=⟨_,rfl⟩;obtain⟨wC,hwC⟩:∃wC,w4.alloc (.cells #[.int .i64 (kd),.string s1,.string s2,.string s3,.string s4,.string s5] 34)=wC:=⟨_,rfl⟩;have HB6:Hid (Below w.heap.size w wC):=Hi (by rw[←hwC];exact HB5.out.alloc HB5.out.size _);have HC6:Hid (Below wA.heap.size wA wC):=Hi (by rw[←hwC];exact HC5.out.alloc HC5.out.size _);have HD6:Hid (Below w2.heap.size w2 wC):=Hi (by rw[←hwC];exact HD5.out.alloc HD5.out.size _);have HE6:Hid (Below wB.heap.size wB wC):=Hi (by rw[←hwC];exact HE5.out.alloc HE5.out.size _);have HU:Hid (SB wC gS 34 #[.int .i64 (kd),.string s1,.string s2,.string s3,.string s4,.string s5]):=Hi (by rw[←hwC,←hgS];exact SB.new w4 _ _);have HWC:=Hi hwC;have HGS:=Hi hgS;clear hwC hgS;go_wp2_with fail;rw[HWC.out,HGS.out]
 go_fit (Qjq (some ⟨g,0,none⟩) b (fs.length+3) cap2 20000000 20000000 fs gs wC (HG.out.below HB6.out) (HL.out.left.below HD6.out) (HF2.out.below HB6.out) HS.out.len HS2.out.len HS.out.wt0 (by decide) HS2.out.wt0 (by decide) (fun f hf=>Nat.le_trans (HS.out.sz f hf) (by decide)) (fun f hf=>Nat.le_trans (HS2.out.sz f hf) (by decide)));rintro e w5 ⟨xa,ya,ta,xb,yb,tb,hsa,hsb,rfl,hb5⟩;obtain⟨al,hal⟩:∃al,decide (xa=xb∧ya=yb∧ta=tb)=al:=⟨_,rfl⟩;rw[hal];have HAL:=Hi hal;have HSA:=Hi hsa;have HSB:=Hi hsb;clear hal hsa hsb;have HB7:=Hi (HB6.out.trans (hb5.mono HB6.out.size));have HC7:=Hi (HC6.out.trans (hb5.mono HC6.out.size));have HD7:=Hi (HD6.out.trans (hb5.mono HD6.out.size));have HV7:=Hi ((HV.out.below HE6.out HV.out.lt).below hb5 (HV.out.below HE6.out HV.out.lt).lt);have HU7:=Hi (HU.out.below hb5 HU.out.lt);clear hb5;have hmk:=HM.out.below HB7.out
 have m0:w5.cell? ⟨0,0,none⟩=some (.string ⟨#[109,97,114,107]⟩):=hmk.c0;have m1:w5.cell? ⟨0,1,none⟩=some (.string ⟨#[]⟩):=hmk.c1;have m2:w5.cell? ⟨0,2,none⟩=some (.string ⟨#[]⟩):=hmk.c2;have m3:w5.cell? ⟨0,3,none⟩=some (.string ⟨#[]⟩):=hmk.c3;clear hmk;go_wp2_with fail;clear m0 m1 m2 m3;go_fit (Qen g a cap fs _ _ _ _ w5 (HL.out.below HD7.out) (HF.out.below HB7.out) hn);rintro e w6 ⟨rfl,hb6⟩;have HB8:=Hi (HB7.out.trans (hb6.mono HB7.out.size));have HC8:=Hi (HC7.out.trans (hb6.mono HC7.out.size));have HV8:=Hi (HV7.out.below hb6 HV7.out.lt);have HU8:=Hi (HU7.out.below hb6 HU7.out.lt);have q1:¬((60:Int)<(fs.length:Int)):=by have:=HS.out.len;omega
 clear hb6;have hab:=HAB.out.below HC8.out HAB.out.lt;have k0:_=some (Value.string sx):=hab.cell 0;have k1:_=some (Value.string sy):=hab.cell 1;clear hab;go_wp2_with fail;clear k0 k1;have HZ:Hid (∀f,f∈ fs→f.ax.size≤1048576∧f.ay.size≤1048576∧f.wx.size≤1048576∧f.wy.size≤1048576):=Hi (fun f hf=>by have:=HS.out.sz f hf;simp only[sz] at this;omega);go_fit (Qek a cap 1048576 fs sx sy ox oy w6 (HG.out.below HB8.out).most (HF.out.below HB8.out) HS.out.len (by decide) HZ.out HSX.out HSY.out HOX.out HOY.out);rintro e w7 ⟨b1,b2,b3,xr,yr,tr,rfl,hsr,hbag⟩;obtain⟨rfl,rfl,rfl⟩:=hsr.inj HSU.out;have HR:=Hi hbag;clear hsr hbag;have hv:=HV8.out.below HR.out.base HV8.out.lt;have hu:=HU8.out.below HR.out.base HU8.out.lt;have y0:w7.cell? ⟨gV,0,none⟩=some (.string v1):=hv.cell 0;have y1:w7.cell? ⟨gV,1,none⟩=some (.string v2):=hv.cell 1;have u0:w7.cell? ⟨gS,0,none⟩=some (.int .i64 kd):=hu.cell 0
 have u1:w7.cell? ⟨gS,1,none⟩=some (.string s1):=hu.cell 1;have u2:w7.cell? ⟨gS,2,none⟩=some (.string s2):=hu.cell 2;have u3:w7.cell? ⟨gS,3,none⟩=some (.string s3):=hu.cell 3;have u4:w7.cell? ⟨gS,4,none⟩=some (.string s4):=hu.cell 4;have u5:w7.cell? ⟨gS,5,none⟩=some (.string s5):=hu.cell 5;clear hv hu;go_wp2_with fail;go_region_held3 (fun w'=>w'.cell? ⟨gV,0,none⟩=some (.string v1)∧w'.cell? ⟨gV,1,none⟩=some (.string v2)∧w'.cell? ⟨gS,0,none⟩=some (.int .i64 kd)∧w'.cell? ⟨gS,1,none⟩=some (.string s1)∧w'.cell? ⟨gS,2,none⟩=some (.string s2)∧w'.cell? ⟨gS,3,none⟩=some (.string s3)∧w'.cell? ⟨gS,4,none⟩=some (.string s4)∧w'.cell? ⟨gS,5,none⟩=some (.string s5)) ((first|(simp [*];done)|go_keep)) (first
  |
   (go_at_call_of 15 (Value.pointer (some ⟨b1,0,none⟩))
    apply Calls.mono;apply RBag.text (w0:=w6);(first|exact HR.out|exact HR.out.drew);(focus(repeat(first|exact List.Mem.head _|apply List.Mem.tail)));omega;rintro e wn ⟨⟨rr,rfl,hrr⟩,hbag⟩;obtain rfl:=Qan P1.out hrr;clear HR hrr;have HR:=Hi hbag;clear hbag;have hv:=HV8.out.below HR.out.base HV8.out.lt;have hu:=HU8.out.below HR.out.base HU8.out.lt;have y0:wn.cell? ⟨gV,0,none⟩=some (.string v1):=hv.cell 0;have y1:wn.cell? ⟨gV,1,none⟩=some (.string v2):=hv.cell 1;have u0:wn.cell? ⟨gS,0,none⟩=some (.int .i64 kd):=hu.cell 0;have u1:wn.cell? ⟨gS,1,none⟩=some (.string s1):=hu.cell 1;have u2:wn.cell? ⟨gS,2,none⟩=some (.string s2):=hu.cell 2;have u3:wn.cell? ⟨gS,3,none⟩=some (.string s3):=hu.cell 3;have u4:wn.cell? ⟨gS,4,none⟩=some (.string s4):=hu.cell 4;have u5:wn.cell? ⟨gS,5,none⟩=some (.string s5):=hu.cell 5;clear hv hu
    skip)
  |
   (go_at_call_of 15 (Value.pointer (some ⟨b2,0,none⟩))
    apply Calls.mono;apply RBag.text (w0:=w6);(first|exact HR.out|exact HR.out.drew);(focus(repeat(first|exact List.Mem.head _|apply List.Mem.tail)));omega;rintro e wn ⟨⟨rr,rfl,hrr⟩,hbag⟩;obtain rfl:=Qan P2.out hrr;clear HR hrr;have HR:=Hi hbag;clear hbag;have hv:=HV8.out.below HR.out.base HV8.out.lt;have hu:=HU8.out.below HR.out.base HU8.out.lt;have y0:wn.cell? ⟨gV,0,none⟩=some (.string v1):=hv.cell 0;have y1:wn.cell? ⟨gV,1,none⟩=some (.string v2):=hv.cell 1;have u0:wn.cell? ⟨gS,0,none⟩=some (.int .i64 kd):=hu.cell 0;have u1:wn.cell? ⟨gS,1,none⟩=some (.string s1):=hu.cell 1;have u2:wn.cell? ⟨gS,2,none⟩=some (.string s2):=hu.cell 2;have u3:wn.cell? ⟨gS,3,none⟩=some (.string s3):=hu.cell 3;have u4:wn.cell? ⟨gS,4,none⟩=some (.string s4):=hu.cell 4;have u5:wn.cell? ⟨gS,5,none⟩=some (.string s5):=hu.cell 5;clear hv hu
    skip)
  |
   (go_at_call_of 15 (Value.pointer (some ⟨b3,0,none⟩))
    apply Calls.mono;apply RBag.text (w0:=w6);(first|exact HR.out|exact HR.out.drew);(focus(repeat(first|exact List.Mem.head _|apply List.Mem.tail)));omega;rintro e wn ⟨⟨rr,rfl,hrr⟩,hbag⟩;obtain rfl:=Qan P3.out hrr;clear HR hrr;have HR:=Hi hbag;clear hbag;have hv:=HV8.out.below HR.out.base HV8.out.lt;have hu:=HU8.out.below HR.out.base HU8.out.lt;have y0:wn.cell? ⟨gV,0,none⟩=some (.string v1):=hv.cell 0;have y1:wn.cell? ⟨gV,1,none⟩=some (.string v2):=hv.cell 1;have u0:wn.cell? ⟨gS,0,none⟩=some (.int .i64 kd):=hu.cell 0;have u1:wn.cell? ⟨gS,1,none⟩=some (.string s1):=hu.cell 1;have u2:wn.cell? ⟨gS,2,none⟩=some (.string s2):=hu.cell 2;have u3:wn.cell? ⟨gS,3,none⟩=some (.string s3):=hu.cell 3;have u4:wn.cell? ⟨gS,4,none⟩=some (.string s4):=hu.cell 4;have u5:wn.cell? ⟨gS,5,none⟩=some (.string s5):=hu.cell 5;clear hv hu
    skip)
  |(
   go_at_call_of 14 (Value.string v1);apply Calls.mono;apply Qbz;rintro e wn ⟨rfl,hbn⟩;have HR':=Hi (HR.out.below hbn);clear HR;have HR:=HR';clear HR' hbn;have hv:=HV8.out.below HR.out.base HV8.out.lt;have hu:=HU8.out.below HR.out.base HU8.out.lt;have y0:wn.cell? ⟨gV,0,none⟩=some (.string v1):=hv.cell 0;have y1:wn.cell? ⟨gV,1,none⟩=some (.string v2):=hv.cell 1;have u0:wn.cell? ⟨gS,0,none⟩=some (.int .i64 kd):=hu.cell 0;have u1:wn.cell? ⟨gS,1,none⟩=some (.string s1):=hu.cell 1;have u2:wn.cell? ⟨gS,2,none⟩=some (.string s2):=hu.cell 2;have u3:wn.cell? ⟨gS,3,none⟩=some (.string s3):=hu.cell 3;have u4:wn.cell? ⟨gS,4,none⟩=some (.string s4):=hu.cell 4;have u5:wn.cell? ⟨gS,5,none⟩=some (.string s5):=hu.cell 5;clear hv hu
   skip)
  |(
   go_at_call_of 16 (Value.slice a fs.length cap);apply Calls.mono;apply Qc7 a cap 1048576 fs;exact HR.out.glob;exact HF.out.below (HB8.out.trans (HR.out.base.mono HB8.out.size));exact HS.out.len;decide;exact HZ.out;rintro e wn ⟨⟨kind,r1,r2,r3,r4,r5,rfl,hst⟩,hbn⟩;have HST:=Hi hst;obtain⟨e0,e1,e2,e3,e4,e5⟩:=Qht HS0.out T1.out T2.out T3.out T4.out T5.out hst;rw[HKD.out] at e0;obtain rfl:=e0.symm;obtain rfl:=e1.symm;obtain rfl:=e2.symm;obtain rfl:=e3.symm;obtain rfl:=e4.symm;obtain rfl:=e5.symm;have HR':=Hi (HR.out.below hbn);clear HR hst;have HR:=HR';clear HR' hbn;have hv:=HV8.out.below HR.out.base HV8.out.lt;have hu:=HU8.out.below HR.out.base HU8.out.lt;have y0:wn.cell? ⟨gV,0,none⟩=some (.string v1):=hv.cell 0;have y1:wn.cell? ⟨gV,1,none⟩=some (.string v2):=hv.cell 1;have u0:wn.cell? ⟨gS,0,none⟩=some (.int .i64 kd):=hu.cell 0;have u1:wn.cell? ⟨gS,1,none⟩=some (.string s1):=hu.cell 1
   have u2:wn.cell? ⟨gS,2,none⟩=some (.string s2):=hu.cell 2;have u3:wn.cell? ⟨gS,3,none⟩=some (.string s3):=hu.cell 3;have u4:wn.cell? ⟨gS,4,none⟩=some (.string s4):=hu.cell 4;have u5:wn.cell? ⟨gS,5,none⟩=some (.string s5):=hu.cell 5;clear hv hu
   skip)
  )
 all_goals
  have q2:¬((60:Int)<(gs.length:Int)):=by have:=HS2.out.len;omega
  have HB9:=Hi (HB8.out.trans (HR.out.base.mono HB8.out.size));go_wp2_with fail;go_fit (Qc7 a cap 1048576 fs _ (HG.out.below HB9.out).most (HF.out.below HB9.out) HS.out.len (by decide) HZ.out);rintro e w8 ⟨⟨kp,p1,p2,p3,p4,p5,rfl,hp⟩,hb8⟩;have HP:=Hi hp;have HB10:=Hi (HB9.out.trans (hb8.mono HB9.out.size));have HZ2:Hid (∀f,f∈ gs→f.ax.size≤1048576∧f.ay.size≤1048576∧f.wx.size≤1048576∧f.wy.size≤1048576):=Hi (fun f hf=>by have:=HS2.out.sz f hf;simp only[sz] at this;omega);clear hp hb8;go_wp2_with fail;go_fit (Qc7 b cap2 1048576 gs w8 (HG.out.below HB10.out).most (HF2.out.below HB10.out) HS2.out.len (by decide) HZ2.out);rintro e w9 ⟨⟨kq,q1',q2',q3',q4',q5',rfl,hq⟩,hb9⟩;have HB11:=Hi (HB10.out.trans (hb9.mono HB10.out.size));have hsame:=Qok HSA.out HSB.out HP.out hq;clear hq hb9;by_cases hyes:xa=xb∧ya=yb∧ta=tb
  ·
   have hal:al=true:=by rw[←HAL.out];exact decide_eq_true hyes
   obtain⟨e1,e2,e3⟩:=hsame.1 hyes;subst hal e1 e2 e3;clear hyes hsame;go_wp2;go_ret;exact⟨by simp,(HB11.out.alloc HB11.out.size _).alloc (by have:=HB11.out.size;simp;omega) _⟩
  ·
   have hal:al=false:=by rw[←HAL.out];exact decide_eq_false hyes
   have hno:¬(p1=q1'∧p2=q2'∧p3=q3'):=fun h=>hyes (hsame.2 h)
   subst hal;clear hyes hsame;have hbb:∀s r:ByteArray,¬s=r→¬s.toList=r.toList:=fun s r h he=>h (Qhs (by rw[ByteArray.toList_eq,ByteArray.toList_eq] at he;exact he))
   by_cases h1:p1=q1'
   ·
    subst h1;by_cases h2:p2=q2'
    ·
     subst h2;have h3:=hbb _ _ (fun h=>hno ⟨rfl,rfl,h⟩);clear hno hbb;go_wp2;go_ret;exact⟨by simp[h3],(HB11.out.alloc HB11.out.size _).alloc (by have:=HB11.out.size;simp;omega) _⟩
    ·
     have h2':=hbb _ _ h2;clear hno hbb;go_wp2;go_ret;exact⟨by simp[h2'],(HB11.out.alloc HB11.out.size _).alloc (by have:=HB11.out.size;simp;omega) _⟩
   ·
    have h1':=hbb _ _ h1;clear hno hbb;go_wp2;go_ret;exact⟨by simp[h1'],(HB11.out.alloc HB11.out.size _).alloc (by have:=HB11.out.size;simp;omega) _⟩
  skip
theorem Qoo(a b:Option Addr)(cap cap2:Nat)(fs gs:List F4)(sx sy:ByteArray)(w:World)(hg:Glob w)(hm:Marked w)(hf:FRow w a cap fs)(hf2:FRow w b cap2 gs)(hn:fs.length≤1048576)(hs:fs.length≤60→Sized fs)(hs2:gs.length≤60→Sized gs)(hsx:sx.size≤1048576)(hsy:sy.size≤1048576):
 Calls Tryz.prog 3 #[.slice a fs.length cap,.slice b gs.length cap2,.agg #[.string sx,.string sy]] w fun e w'=>e=.returned (.bool true)∧Below w.heap.size w w':=by
 by_cases hl:60<fs.length
 · exact Qol a b cap cap2 gs.length fs sx sy w hg hm hf hn hl
 by_cases hk:60<gs.length
 · exact Qom a b cap cap2 gs.length fs sx sy w hg hm hf (hs (by omega)) hsx hsy hk
 exact Qon a b cap cap2 fs gs sx sy w hg hm hf hf2 (hs (by omega)) (hs2 (by omega)) hsx hsy
end Go.Proofs.YtbbkamnfjejceaaGreatDoor
namespace Go.Proofs.YtbbkamnfjejceaaGreatDoor
namespace forceSays
open Go.ChangeShapes Go.WideShapes Go.ChangeAt Go.RowKit
set_option linter.unusedVariables false
set_option linter.unusedSimpArgs false
set_option maxRecDepth 100000 in
set_option maxHeartbeats 1000000 in
theorem Qof(H:Type)(enc:TypeId × Value→H)(W:World)(base:Nat)(args:Array Value)(ds gs:List (DataW H))(before:List MemPlace)
 (hval:∀(j:Nat) t v,Tryz.f3.params[j]?=some t→args[j]?=some v→Value.okWide Tryz.prog W .any base t v)
 (hW:DataW.Whole enc Tryz.prog Tryz.f3.params.toList Rows.forceSaysSpec.vars false W args.toList ds gs before) (hk:Rows.uptoSmall H (ds++gs)=true) (hG:Glob W) (hM:Marked W):
 Calls Tryz.prog 3 args W fun e W'=>∃v,e=.returned v∧Rows.forceSaysSpec.post enc Tryz.prog Tryz.f3 false true false false W args v W':=by
 have hW':=hW;obtain⟨p,q,hA0,hV,rfl,hfz,hnd⟩:=hW;have hA:DataW.TrodAll enc Tryz.prog W 0 (fun _=>true) true Tryz.f3.params.toList args.toList ds p:=hA0;rw[Tryz.params3] at hA hval;obtain⟨v0,v1,v2,d0,d1,d2,p0,p1,p2,rfl,rfl,rfl,h0,h1,h2⟩:=trodAll_three hA;obtain⟨rfl,rfl⟩:=trodVars_none hV;clear hA0;obtain⟨a0,l0,c0,rfl⟩:=okWide_slice Tryz.underlying22 (hval 0 22 v0 rfl rfl);obtain⟨a1,l1,c1,rfl⟩:=okWide_slice Tryz.underlying22 (hval 1 22 v1 rfl rfl);obtain⟨cs,rfl,hcs⟩:=okWide_struct Tryz.underlying25 (hval 2 25 v2 rfl rfl);unfold Rows.uptoSmall at hk;have hb:=of_decide_eq_true hk;rw[List.append_nil] at hb;obtain⟨fs,rfl,hf,hs,hn,_⟩:=Qhr (Nat.le_trans (Qem (by simp)) hb) h0;obtain⟨gs',rfl,hf2,hs2,_,_⟩:=Qhr (Nat.le_trans (Qem (by simp)) hb) h1;obtain⟨sx,sy,rfl,hx,hy⟩:=Qoe (Nat.le_trans (Qem (by simp)) hb) h2;have hlt:∀x∈ p0++p1++p2++ [],x.block<W.heap.size:=fun x hx=>hW'.lt x hx
 refine(Qoo a0 a1 c0 c1 fs gs' sx sy W hG hM hf hf2 hn hs hs2 hx hy).mono ?_;rintro e W' ⟨rfl,hbel⟩;refine⟨_,rfl,[d0,d1,d2],[],p0++p1++p2++ [],[],p0++(p1++(p2++ [])),[],hW',trodAll_cons_mk (shut_bool Tryz.underlying4 _) trodAll_mk0,?_,rfl,hbel.frame _,fun h=>by cases h⟩
 show DataW.TrodAll enc Tryz.prog W' 0 (fun b=>decide (b<W.heap.size)) true Tryz.f3.params.toList _ [d0,d1,d2] _
 rw[Tryz.params3];exact trodAll_cons_mk (Below.trod Qel Qhq manyTypes.1 h0 hbel (fun x hx=>hlt x (by simp[hx])))
  (trodAll_cons_mk (Below.trod Qel Qhq manyTypes.1 h1 hbel (fun x hx=>hlt x (by simp[hx]))) (trodAll_cons_mk (Below.trod Qel Qoc manyTypes.2 h2 hbel (fun x hx=>hlt x (by simp[hx]))) trodAll_mk0))
theorem glob{W:World}(hL:laidMetH Tryz.prog Rows.forceSaysUptoRow.laid W)(hsh:W.ShapedOpen Tryz.prog):Glob W:=
 ⟨Qob hsh,Qoa (Qby (Qby (show laidMet Tryz.prog Rows.forceSaysUptoRow.laid W from hL)))⟩
theorem gForce:Tryz.prog.globalNamed "rafter/raftersame.Force" =some 0:=by kernel_rfl
theorem gForceType:(Tryz.prog.globals[0]?).map (·.type)=some 29:=by kernel_rfl
theorem Qog{W:World}{rest:List (String × DataW Unit)}(h:laidMet Tryz.prog (("rafter/raftersame.Force",Rows.laid_rafter_raftersame_Force) :: rest) W):Marked W:=by
 obtain⟨ps,⟨g,t,cs,fuel,p,q,hg,ht,hvar,hd,_,_⟩,_⟩:=h;obtain rfl:=Option.some.inj (gForce.symm.trans hg);obtain rfl:=Option.some.inj (gForceType.symm.trans ht);obtain⟨f,hcs,hx,_⟩:=Qgf Tryz.underlying29 Tryz.underlying25 Tryz.underlying23 Qge Qef Qee rfl rfl rfl rfl rfl rfl rfl rfl hd;simp only[Rows.laid_rafter_raftersame_Force,forceD,DataW.agg.injEq,List.cons.injEq,DataW.lit.injEq,Lit.string.injEq,and_true] at hx;obtain⟨⟨h0,h1⟩,h2,h3⟩:=hx;have c:∀i,W.cell? ⟨0,i,none⟩=cs.toList[i]?:=fun i=>by rw[World.var?_cell gForce hvar i];simp
 rw[hcs] at c;refine⟨?_,?_,?_,?_⟩
 · rw[c 0,←Qax h0.symm];rfl
 · rw[c 1,←Qax h1.symm];rfl
 · rw[c 2,←Qax h2.symm];rfl
 · rw[c 3,←Qax h3.symm];rfl
theorem mark{W:World}(hL:laidMetH Tryz.prog Rows.forceSaysUptoRow.laid W):Marked W:=
 Qog (Qby (Qby (Qby (Qby (show laidMet Tryz.prog Rows.forceSaysUptoRow.laid W from hL)))))
end forceSays
namespace forceSays
open Go.ChangeShapes Go.WideShapes Go.ChangeAt Go.RowKit
set_option linter.unusedVariables false
set_option linter.unusedSimpArgs false
theorem Qoi(os:Os):laidMet Tryz.prog Rows.forceSaysUptoRow.laid ((tabled (World.holding Tryz.prog os ⟨#[],#[],[]⟩)).forCall (fun _ _=>0) ⟨#[],#[.slice none 0 0,.slice none 0 0,.agg #[.string ⟨#[]⟩,.string ⟨#[]⟩]],[]⟩).memory:=
 laidMet_of_run' 8 (by kernel_rfl) (by kernel_rfl)
theorem reads(os:Os){H:Type}(enc:TypeId × Value→H):∃places,DataW.whole enc Tryz.prog ((tabled (World.holding Tryz.prog os ⟨#[],#[],[]⟩)).forCall (fun _ _=>0) ⟨#[],#[.slice none 0 0,.slice none 0 0,.agg #[.string ⟨#[]⟩,.string ⟨#[]⟩]],[]⟩).memory Tryz.f3.params.toList Rows.forceSaysSpec.vars false #[Value.slice none 0 0,.slice none 0 0,.agg #[.string ⟨#[]⟩,.string ⟨#[]⟩]].toList 8=some ([.nil,.nil,.agg [.lit (.string []),.lit (.string [])]],[],places):=
 ⟨[],by kernel_rfl⟩
set_option maxRecDepth 100000 in
theorem Qoj(os:Os)(started:os.Started)(H:Type)(enc:TypeId × Value→H)(F:Stop.Interp):
 ReturnsInHanded {} Tryz.checked os 3 .any ((Rows.OpenSpec.upto Rows.forceSaysSpec).preRow enc Tryz.prog Tryz.f3 Rows.forceSaysUptoRow.domain false Rows.forceSaysUptoRow.laid) (((Rows.OpenSpec.upto Rows.forceSaysSpec).at F).post enc Tryz.prog Tryz.f3 false true false false):=by
 obtain⟨places,hx⟩:=reads os enc;refine returnsInHanded_of_row (C:=Tryz.checked) (s:=Rows.OpenSpec.upto Rows.forceSaysSpec) own started (by kernel_rfl) Tryz.func3
  (witness_row_at (enc:=enc) (C:=Tryz.checked) false (tabled (World.holding Tryz.prog os ⟨#[],#[],[]⟩)) #[.slice none 0 0,.slice none 0 0,.agg #[.string ⟨#[]⟩,.string ⟨#[]⟩]] rfl (by kernel_rfl) (by kernel_rfl) (by kernel_rfl)
    (OpenSpec.preRow_of_cond 8 hx (by kernel_rfl) (fun k hk=>by cases hk;kernel_rfl) (by kernel_rfl) (Qoi os))) ?_
 intro W base args ds gs before hval hW _ hcond _ hL hsh _;exact Qof H enc W base args ds gs before hval hW (hcond _ rfl) (glob hL hsh) (mark hL)
end forceSays
namespace forceSays
open Go.ChangeShapes Go.WideShapes Go.ChangeAt Go.RowKit
set_option linter.unusedVariables false
set_option linter.unusedSimpArgs false
set_option maxRecDepth 100000 in
set_option maxHeartbeats 4000000 in
theorem Qoh:joinedFacts Tryz.prog 3 Tryz.f3 (Rows.OpenSpec.upto Rows.forceSaysSpec).bare Rows.forceSaysUptoRow=true:=by
 unfold joinedFacts;simp only[Bool.and_eq_true]
 repeat' with_reducible apply And.intro
 all_goals (as_aux_lemma=>kernel_rfl)
theorem named:Tryz.prog.funcNamed Rows.forceSaysUptoRow.func=some 3:=by kernel_rfl
theorem said:Rows.ForceSaysUptoSaid:=
 OpenClaim.holds_of_cond 3 Tryz.f3 rfl rfl rfl rfl rfl rfl rfl ⟨rfl,rfl,rfl,rfl,rfl⟩ rfl rfl rfl rfl rfl named Tryz.func3 Qoh
  (of_decide_eq_true (by kernel_rfl)) (by unfold Func.isWrapper;first|(rw [if_pos (by decide +kernel)];kernel_rfl)|(rw [if_neg (by decide +kernel)];exact⟨rfl,rfl⟩))
  (fun os started H enc _ F=>by rw[OpenClaim.pre_eq_preRow];exact Qoj os started H enc F)
theorem plain(f:FuncId)(fn:Func)(hf:Tryz.pinned.checked.prog.funcNamed "rafter/rafterlaw.ForceSays" =some f)(hfn:Tryz.pinned.checked.prog.funcs[f]?=some fn):
 false=Tryz.pinned.checked.prog.looks []∧∀(j:Nat) t,fn.params[j]?=some t→Tryz.pinned.checked.prog.wantsStandIn t=false:=by
 obtain rfl:f=3:=Option.some.inj ((show Tryz.prog.funcNamed "rafter/rafterlaw.ForceSays" =some 3 by kernel_rfl).symm.trans hf) |>.symm;obtain rfl:fn=Tryz.f3:=(Option.some.inj (Tryz.func3.symm.trans hfn)).symm;refine⟨by kernel_rfl,fun j t ht=>?_⟩;rw[Tryz.params3] at ht;have:=Array.mem_of_getElem? ht;simp only[List.mem_toArray,List.mem_cons,List.not_mem_nil,or_false] at this;rcases this with rfl|rfl|rfl
 · exact(show Tryz.prog.wantsStandIn 22=false by kernel_rfl)
 · exact(show Tryz.prog.wantsStandIn 22=false by kernel_rfl)
 · exact(show Tryz.prog.wantsStandIn 25=false by kernel_rfl)
end forceSays
theorem forceSays_upto:Rows.ForceSaysUptoCardSaid:=
 Claim7.holds_tied_plain_at .later [] _ _ _ _ forceSays.said (fun _ h=>by cases h) (by kernel_rfl) (fun _ h=>by cases h) forceSaysUpto_row_tie rfl ⟨rfl,rfl⟩ (by kernel_rfl) rfl forceSays.plain (by kernel_rfl)
end Go.Proofs.YtbbkamnfjejceaaGreatDoor
