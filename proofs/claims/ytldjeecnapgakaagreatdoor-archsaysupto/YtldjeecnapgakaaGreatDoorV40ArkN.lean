/- package arch: threes, an iterator over threes of stones. -/
import Derived.RangeFuncBound
import Derived.Shelf.Abstract
import Derived.Shelf.RegionOpen
import Derived.OwnWalkIn
import Derived.TacticsInMore
import Derived.LoopNIn
import Derived.LoopIn
import Derived.Test.YtldjeecnapgakaaGreatDoorV39RngP
namespace Go.Proofs.YtldjeecnapgakaaGreatDoor
open Go.RowKit
open Go.Proofs.Tryz
set_option linter.unusedSimpArgs false
set_option linter.unusedVariables false
set_option maxHeartbeats 8000000
set_option maxRecDepth 1000000
theorem Qd6(q:Rat):sgn3 q.num<=0↔q<=0:=by
 rw[<-Qbn];unfold cmpQ;rw[show q.num*((0:Rat).den:Int)=q.num from by simp,show (0:Rat).num*(q.den:Int)=0 from by simp];exact Iff.rfl
theorem Qd7(q:Rat):0<=sgn3 q.num↔0<=q:=by
 have:=Qas q;rw[<-Rat.not_lt,<-this];omega
structure SkAt (w:World) (g:Nat) (a m:FE) (o:Bool):Prop where
 blk:SB w g 65 #[a.x,a.y,a.z,m.x,m.y,m.z,.bool o]
 least:FE.ok w a
 most:FE.ok w m
def mostOf(m:FE)(o:Bool):Option Rat:=if o then none else some m.q
section
variable {w w':World} {g:Nat} {a m:FE} {o:Bool}
theorem SkAt.no64(h:SkAt w g a m o):NoU64 #[a.x,a.y,a.z,m.x,m.y,m.z,.bool o]:=by
 refine Qdm fun v hv n=>?_
 obtain⟨a1,a2,a3⟩:=h.least.1.no64 n;obtain⟨m1,m2,m3⟩:=h.most.1.no64 n;simp at hv;rcases hv with rfl|rfl|rfl|rfl|rfl|rfl|rfl
 . exact a1
 . exact a2
 . exact a3
 . exact m1
 . exact m2
 . exact m3
 . exact nofun
theorem SkAt.keep(h:SkAt w g a m o)(ho:Only g w w'){q:Rat}{k:Nat}{v:Value}(hf:FF q k v w):FF q k v w':=⟨hf.1.only ho h.blk h.no64,hf.2⟩
theorem SkAt.below(h:SkAt w g a m o)(hb:Below w.heap.size w w'):SkAt w' g a m o:=⟨h.blk.below hb h.blk.lt,h.least.below hb,h.most.below hb⟩
theorem SkAt.cells(h:SkAt w g a m o):w.cell? ⟨g,0,none⟩=some a.x/\w.cell? ⟨g,1,none⟩=some a.y/\w.cell? ⟨g,2,none⟩=some a.z/\w.cell? ⟨g,3,none⟩=some m.x/\w.cell? ⟨g,4,none⟩=some m.y/\w.cell? ⟨g,5,none⟩=some m.z/\w.cell? ⟨g,6,none⟩=some (.bool o):=
 ⟨(h.blk.cell 0).trans rfl,(h.blk.cell 1).trans rfl,(h.blk.cell 2).trans rfl,(h.blk.cell 3).trans rfl,(h.blk.cell 4).trans rfl,(h.blk.cell 5).trans rfl,(h.blk.cell 6).trans rfl⟩
theorem SkAt.setL(h:SkAt w g a m o){e:FE}(he:FE.ok w e):SkAt (((w.setCell ⟨g,0,none⟩ e.x).setCell ⟨g,1,none⟩ e.y).setCell ⟨g,2,none⟩ e.z) g e m o/\Only g w (((w.setCell ⟨g,0,none⟩ e.x).setCell ⟨g,1,none⟩ e.y).setCell ⟨g,2,none⟩ e.z):=by
 have ho:Only g w (((w.setCell ⟨g,0,none⟩ e.x).setCell ⟨g,1,none⟩ e.y).setCell ⟨g,2,none⟩ e.z):=(((Only.refl g w).setCell _ _).setCell _ _).setCell _ _;exact⟨⟨((h.blk.set 0 e.x).set 1 e.y).set 2 e.z,h.keep ho he,h.keep ho h.most⟩,ho⟩
theorem SkAt.setM(h:SkAt w g a m o){e:FE}(he:FE.ok w e):SkAt ((((w.setCell ⟨g,3,none⟩ e.x).setCell ⟨g,4,none⟩ e.y).setCell ⟨g,5,none⟩ e.z).setCell ⟨g,6,none⟩ (.bool false)) g a e false/\Only g w ((((w.setCell ⟨g,3,none⟩ e.x).setCell ⟨g,4,none⟩ e.y).setCell ⟨g,5,none⟩ e.z).setCell ⟨g,6,none⟩ (.bool false)):=by
 have ho:Only g w ((((w.setCell ⟨g,3,none⟩ e.x).setCell ⟨g,4,none⟩ e.y).setCell ⟨g,5,none⟩ e.z).setCell ⟨g,6,none⟩ (.bool false)):=((((Only.refl g w).setCell _ _).setCell _ _).setCell _ _).setCell _ _;exact⟨⟨(((h.blk.set 3 e.x).set 4 e.y).set 5 e.z).set 6 (.bool false),h.keep ho h.least,h.keep ho he⟩,ho⟩
end
theorem cells3{w:World}{g:Nat}{T:TypeId}{x y z:Value}(h:SB w g T #[x,y,z]):w.cell? ⟨g,0,none⟩=some x/\w.cell? ⟨g,1,none⟩=some y/\w.cell? ⟨g,2,none⟩=some z:=⟨(h.cell 0).trans rfl,(h.cell 1).trans rfl,(h.cell 2).trans rfl⟩
def NarSays(w:World)(g K:Nat)(a m:FE)(o:Bool)(nd rm bb:FE)(e:Ending)(w':World):Prop:=
 Only g w w'/\∃a' m' o',SkAt w' g a' m' o'/\a'.k<=K+K/\m'.k<=K+K/\
  ((bb.q=0/\e=.returned (.bool (decide (nd.q<=0) && decide (0<=rm.q)))/\a'.q=a.q/\mostOf m' o'=mostOf m o)∨
   (bb.q≠0/\e=.returned (.bool true)/\a'.q=cutL a.q (nd.q / bb.q)/\mostOf m' o'=cutM (mostOf m o) (rm.q / bb.q)))
theorem Qkw{g K:Nat}{a m nd rm bb:FE}{o:Bool}{w:World}(hs:SkAt w g a m o)(hn:FE.ok w nd)(hr:FE.ok w rm)(hb:FE.ok w bb)(ka:a.k<=K+K)(km:m.k<=K+K)(kn:nd.k<=K)(kr:rm.k<=K)(kb:bb.k<=K)(hk:4*K<60000000000):
 Calls prog 69 #[.pointer (some ⟨g,0,none⟩),.agg #[nd.x,nd.y,nd.z],.agg #[rm.x,rm.y,rm.z],.agg #[bb.x,bb.y,bb.z]] w (NarSays w g K a m o nd rm bb):=by
 obtain⟨V,hV⟩:=nm (((w.alloc (.cells #[nd.x,nd.y,nd.z] 63)).alloc (.cells #[rm.x,rm.y,rm.z] 63)).alloc (.cells #[bb.x,bb.y,bb.z] 63));obtain⟨B,hB⟩:=nm w.heap.size;have HBV:O (Below w.heap.size w V):=Hi (by rw[<-hV];exact Below.new3 w _ _ _);have HN:O (SB V B 63 #[nd.x,nd.y,nd.z]):=Hi (by rw[<-hV,<-hB];exact((SB.new w _ _).alloc _).alloc _);have HR:O (SB V (B+1) 63 #[rm.x,rm.y,rm.z]):=Hi (by rw[<-hV,<-hB];exact(SB.new2 w _ _ _ _).alloc _);have HB:O (SB V (B+1+1) 63 #[bb.x,bb.y,bb.z]):=Hi (by rw[<-hV,<-hB];exact SB.new3 w _ _ _ _ _ _);obtain⟨o1,o2,o3⟩:=hn.1.one;have r1:=Qaa prog o1;have r2:=Qaa prog o2;have r3:=Qaa prog o3;clear o1 o2 o3;obtain⟨o1,o2,o3⟩:=hr.1.one;have r4:=Qaa prog o1;have r5:=Qaa prog o2;have r6:=Qaa prog o3;clear o1 o2 o3;obtain⟨o1,o2,o3⟩:=hb.1.one;have r7:=Qaa prog o1;have r8:=Qaa prog o2
 have r9:=Qaa prog o3;clear o1 o2 o3;have glt:g<B:=by rw[<-hB];exact hs.blk.lt
 obtain⟨HSV,FN0,FR0,FB0⟩:=Ic (hs.below HBV.o) (FE.ok.below hn HBV.o) (FE.ok.below hr HBV.o) (FE.ok.below hb HBV.o);obtain⟨q0,q1,q2⟩:=cells3 HB.o;rw[<-hV] at q0 q1 q2;obtain⟨HVE,HBE⟩:=Ia hV hB;clear hV hs hn hr hb;rw[<-hB] at q0 q1 q2;clear hB;go_enter func69,ntmps69;go_wp2_with fail;rw[HVE.o];simp only[HBE.o];clear r1 r2 r3 r4 r5 r6 r7 r8 r9 q0 q1 q2;refine Makes.use (FF.isZero FB0.o) ?_;rintro _ w1 hb1 rfl;obtain⟨HN1,HR1,HB1,FN,FR,FB,HS1⟩:=If (HN.o.below hb1 HN.o.lt) (HR.o.below hb1 HR.o.lt) (HB.o.below hb1 HB.o.lt) (FN0.o.below hb1) (FR0.o.below hb1) (FB0.o.below hb1) (HSV.o.below hb1);have HO1:O (Only g w w1):=Hi (Only.of_below (HBV.o.trans (hb1.mono HBV.o.size)));clear hb1 HN HR HB FN0 FR0 FB0 HSV HVE;by_cases hz:bb.q=0
 .
  have e0:decide (bb.q=0)=true:=decide_eq_true hz;have HZ:=Hi hz;clear hz;rw[e0];clear e0;obtain⟨p0,p1,p2⟩:=cells3 HN1.o;go_wp2_with fail;clear p0 p1 p2;refine Makes.use (FF.sign FN.o) ?_;rintro _ w2 hb2 rfl;obtain⟨C,hC⟩:=nm (sgn3 nd.q.num);have HCE:O (C<=0↔nd.q<=0):=Hi (by rw[<-hC];exact Qd6 _);rw[hC];clear hC;obtain⟨p0,p1,p2⟩:=cells3 (HR1.o.below hb2 HR1.o.lt);obtain⟨HS2,HO2,FR2⟩:=Ib (HS1.o.below hb2) (HO1.o.trans (Only.of_below hb2)) (FR.o.below hb2);clear hb2;by_cases hc:C<=0
  .
   have e1:decide (C<=0)=true:=decide_eq_true hc;have e2:decide (nd.q<=0)=true:=decide_eq_true (HCE.o.1 hc);have HE2:=Hi e2;clear hc e2;go_wp2_with fail;clear p0 p1 p2;refine Makes.use (FF.sign FR2.o) ?_;rintro _ w3 hb3 rfl;obtain⟨D,hD⟩:=nm (sgn3 rm.q.num);have HDE:O (decide (0<=D)=decide (0<=rm.q)):=Hi (by rw[<-hD];exact decide_eq_decide.2 (Qd7 _));rw[hD];clear hD;obtain⟨HS3,HO3⟩:=Ia (HS2.o.below hb3) (HO2.o.trans (Only.of_below hb3));clear hb3;go_wp2;go_ret;exact⟨HO3.o,a,m,o,HS3.o,ka,km,Or.inl ⟨HZ.o,by rw[HE2.o,<-HDE.o];rfl,rfl,rfl⟩⟩
  .
   have e1:decide (C<=0)=false:=decide_eq_false hc;have e2:decide (nd.q<=0)=false:=decide_eq_false (fun h=>hc (HCE.o.2 h));have HE2:=Hi e2;clear hc e2;go_wp2;go_ret;exact⟨HO2.o,a,m,o,HS2.o,ka,km,Or.inl ⟨HZ.o,by rw[HE2.o];rfl,rfl,rfl⟩⟩
 .
  have e0:decide (bb.q=0)=false:=decide_eq_false hz;have HBZ:=Hi hz;clear hz;rw[e0];clear e0;obtain⟨p0,p1,p2⟩:=cells3 HN1.o;obtain⟨q0,q1,q2⟩:=cells3 HB1.o;go_wp2_with fail;clear p0 p1 p2 q0 q1 q2;refine Makes.use (FF.over FN.o FB.o (by omega)) ?_;intro v9 w2 hb2 h9;obtain⟨x1,x2,x3,rfl⟩:=h9.parts;obtain⟨b9,hb9⟩:=nm w2.heap.size;obtain⟨V2,hV2⟩:=nm (w2.alloc (.cells #[x1,x2,x3] 63));have hBV:Below w2.heap.size w2 V2:=by rw[<-hV2];exact(Below.refl _ _).alloc lZ _
  have HS9:=Uf hV2 hb9;have hbx:=hb2.trans (hBV.mono hb2.size);obtain⟨Y,hY⟩:=nm V2.drew;have hby:Below V2.heap.size V2 Y:=by rw[<-hY];exact(Below.refl _ _).drew
  have hbz:=hbx.trans (hby.mono hbx.size);obtain⟨H9,F9,HSK,HOY,HRY,HBY,FRY,FBY⟩:=Ig (HS9.o.below hby HS9.o.lt) ((h9.below hBV).below hby) (HS1.o.below hbz) (HO1.o.trans (Only.of_below hbz)) (HR1.o.below hbz HR1.o.lt) (HB1.o.below hbz HB1.o.lt) (FR.o.below hbz) (FB.o.below hbz);obtain⟨o1,o2,o3⟩:=h9.1.one;have s1:=Qaa prog o1;have s2:=Qaa prog o2;have s3:=Qaa prog o3;clear o1 o2 o3;obtain⟨HV2,HB9,HYE⟩:=Ib hV2 hb9 hY;clear hb2 hV2 hb9 hBV hbx hY hby hbz h9 HS9 HS1 HR1 HB1 HN1 FN FR FB;go_wp2_with fail;clear s1 s2 s3;rw[HV2.o];simp only[HB9.o];obtain⟨C,hC⟩:=nm (cmpQ (nd.q / bb.q) a.q);have HCE:=Hi hC;clear hC;refine RegG.bg 7 (fun j=>some (24+j)) ?_;rw[HYE.o];refine RegG.pu (c:=?_) [] (fun w hb=>?_) ?_;rotate_left
  .
   intro K hK;obtain⟨p0,p1,p2⟩:=cells3 (H9.o.below hb H9.o.lt);go_simp;exact hK
  refine RegG.pu (c:=?_) [] (fun w hb=>?_) ?_;rotate_left
  .
   intro K hK;go_simp;exact hK
  refine RegG.pu (c:=?_) [1] (fun w hb=>?_) ?_;rotate_left
  .
   intro K hK;go_simp;exact hK
  refine RegG.pu (c:=?_) [2] (fun w hb=>?_) ?_;rotate_left
  .
   intro K hK;go_simp;exact hK
  refine RegG.pu (c:=?_) [3] (fun w hb=>?_) ?_;rotate_left
  .
   intro K hK;obtain⟨g0,g1,g2,g3,g4,g5,g6⟩:=(HSK.o.below hb).cells;go_simp;exact hK
  refine RegG.ca (φ:=Is (.int .i64 C)) [0,4] (Is.stays _) (fun w hb=>?_) ?_
  .
   intro K hK;go_simp;exact Makes.use (HCE.o ▸ FF.compare (F9.o.below hb) ((HSK.o.below hb).least) (by omega)) hK
  refine RegG.pu (c:=?_) [5] (fun w hb=>?_) ?_;rotate_left
  .
   intro K hK;go_simp;exact hK
  refine RegG.fi (fun u4 hb=>?_);clear HYE HV2 HB9;by_cases hc:0<C
  .
   have e1:decide (0<C)=true:=decide_eq_true hc;have HQ1:O ((⟨x1,x2,x3,nd.q / bb.q,nd.k+bb.k⟩:FE).q=cutL a.q (nd.q / bb.q)):=Hi (by
    have:=(Qaz (nd.q / bb.q) a.q).1 (by rw[HCE.o];exact hc)
    simp[cutL,if_pos this])
   have HK1:O ((⟨x1,x2,x3,nd.q / bb.q,nd.k+bb.k⟩:FE).k<=K+K):=Hi (by show nd.k+bb.k<=_;omega);clear hc;simp only[e1];have hx:=HSK.o.below hb;obtain⟨d0,d1,d2⟩:=cells3 (H9.o.below hb H9.o.lt);obtain⟨g0,g1,g2,g3,g4,g5,g6⟩:=hx.cells;obtain⟨o1,o2,o3⟩:=F9.o.1.one;have s1:=Qaa prog o1;have s2:=Qaa prog o2;have s3:=Qaa prog o3;clear o1 o2 o3;have f0:=hx.blk.free 0;have f1:=hx.blk.free 1;have f2:=hx.blk.free 2;obtain⟨h1,h2⟩:=hx.setL (e:=⟨x1,x2,x3,nd.q / bb.q,nd.k+bb.k⟩) (F9.o.below hb);obtain⟨X,hX⟩:=nm (((u4.setCell ⟨g,0,none⟩ x1).setCell ⟨g,1,none⟩ x2).setCell ⟨g,2,none⟩ x3);rw[hX] at h1 h2;obtain⟨FR,FB,HOW⟩:=Ib (hx.keep h2 (FRY.o.below hb)) (hx.keep h2 (FBY.o.below hb)) ((HOY.o.trans (Only.of_below hb)).trans h2);obtain⟨p0,p1,p2⟩:=cells3 ((HRY.o.below hb HRY.o.lt).only h2 (by omega))
   obtain⟨q0,q1,q2⟩:=cells3 ((HBY.o.below hb HBY.o.lt).only h2 (by omega));obtain⟨HSX,HXE⟩:=Ia h1 hX;rw[<-hX] at p0 p1 p2 q0 q1 q2;obtain⟨a1,ha1⟩:∃a1:FE,(⟨x1,x2,x3,nd.q / bb.q,nd.k+bb.k⟩:FE)=a1:=⟨_,rfl⟩;rw[ha1] at HSX HQ1 HK1;clear h1 h2 hx hb hX ha1 HSK HOY HRY HBY FRY FBY F9 H9;go_wp2_with fail;rw[HXE.o];clear d0 d1 d2 g0 g1 g2 g3 g4 g5 g6 f0 f1 f2 HXE p0 p1 p2 q0 q1 q2 e1 s1 s2 s3;refine Makes.use (FF.over FR.o FB.o (by omega)) ?_;intro v10 w6 hb6 h10;obtain⟨y1,y2,y3,rfl⟩:=h10.parts;obtain⟨b9,hb9⟩:=nm w6.heap.size;obtain⟨V6,hV6⟩:=nm (w6.alloc (.cells #[y1,y2,y3] 63));have hBV:Below w6.heap.size w6 V6:=by rw[<-hV6];exact(Below.refl _ _).alloc lZ _
   have HS9:=Uf hV6 hb9;have hbx:=hb6.trans (hBV.mono hb6.size);obtain⟨Y,hY⟩:=nm V6.drew;have hby:Below V6.heap.size V6 Y:=by rw[<-hY];exact(Below.refl _ _).drew
   have hbz:=hbx.trans (hby.mono hbx.size);obtain⟨H9,FM,HSK,HOX⟩:=Ic (HS9.o.below hby HS9.o.lt) ((h10.below hBV).below hby) (HSX.o.below hbz) (HOW.o.trans (Only.of_below hbz));obtain⟨o1,o2,o3⟩:=h10.1.one;have s1:=Qaa prog o1;have s2:=Qaa prog o2;have s3:=Qaa prog o3;clear o1 o2 o3;obtain⟨HV6,HB9,HYE⟩:=Ib hV6 hb9 hY;clear hb6 hV6 hb9 hBV hbx hY hby hbz h10 HS9;go_wp2_with fail;clear s1 s2 s3;rw[HV6.o];simp only[HB9.o];cases o with
   |true=>
    have HCM:O (mostOf ⟨y1,y2,y3,rm.q / bb.q,rm.k+bb.k⟩ false=cutM (mostOf m true) (rm.q / bb.q)):=Hi rfl;refine RegG.bg 13 (fun j=>some (38+j)) ?_;rw[HYE.o];refine RegG.pu (c:=?_) [] (fun w hb=>?_) ?_;rotate_left
    .
     intro K hK;go_simp;exact hK
    refine RegG.pu (c:=?_) [0] (fun w hb=>?_) ?_;rotate_left
    .
     intro K hK;go_simp;exact hK
    refine RegG.pu (c:=?_) [1] (fun w hb=>?_) ?_;rotate_left
    .
     intro K hK;go_simp;exact hK
    refine RegG.pu (c:=?_) [2] (fun w hb=>?_) ?_;rotate_left
    .
     intro K hK;obtain⟨g0,g1,g2,g3,g4,g5,g6⟩:=(HSK.o.below hb).cells;go_simp;exact hK
    refine RegG.pu (c:=?_) [3] (fun w hb=>?_) ?_;rotate_left
    .
     intro K hK;go_simp;exact hK
    refine RegG.pu (c:=?_) [4] (fun w hb=>?_) ?_;rotate_left
    .
     intro K hK;go_simp;exact hK
    refine RegG.pu (c:=?_) [4] (fun w hb=>?_) ?_;rotate_left
    .
     intro K hK;go_simp;exact hK
    refine RegG.pu (c:=?_) [4,6] (fun w hb=>?_) ?_;rotate_left
    .
     intro K hK;go_simp;exact hK
    refine RegG.pu (c:=?_) [4,7] (fun w hb=>?_) ?_;rotate_left
    .
     intro K hK;go_simp;exact hK
    refine RegG.pu (c:=?_) [4,8] (fun w hb=>?_) ?_;rotate_left
    .
     intro K hK;go_simp;exact hK
    refine RegG.pu (c:=?_) [4,5,9] (fun w hb=>?_) ?_;rotate_left
    .
     intro K hK;go_simp;exact hK
    refine RegG.pu (c:=?_) [4,10] (fun w hb=>?_) ?_;rotate_left
    .
     intro K hK;go_simp;exact hK
    refine RegG.pu (c:=?_) [4,11] (fun w hb=>?_) ?_;rotate_left
    .
     intro K hK;go_simp;exact hK
    refine RegG.fi (fun u7 hb=>?_);have hx:=HSK.o.below hb;obtain⟨d0,d1,d2⟩:=cells3 (H9.o.below hb H9.o.lt);obtain⟨g0,g1,g2,g3,g4,g5,g6⟩:=hx.cells;obtain⟨o1,o2,o3⟩:=FM.o.1.one;have s1:=Qaa prog o1;have s2:=Qaa prog o2;have s3:=Qaa prog o3;clear o1 o2 o3;have f3:=hx.blk.free 3;have f4:=hx.blk.free 4;have f5:=hx.blk.free 5;have f6:=hx.blk.free 6;obtain⟨h1,h2⟩:=hx.setM (e:=⟨y1,y2,y3,rm.q / bb.q,rm.k+bb.k⟩) (FM.o.below hb);obtain⟨HS1,HO1⟩:=Ia h1 ((HOX.o.trans (Only.of_below hb)).trans h2);clear h1 h2 hx hb;go_wp2;go_ret;exact⟨HO1.o,a1,⟨y1,y2,y3,rm.q / bb.q,rm.k+bb.k⟩,false,HS1.o,HK1.o,by show rm.k+bb.k<=_;omega,Or.inr ⟨HBZ.o,rfl,HQ1.o,HCM.o⟩⟩
   |false=>
    obtain⟨C,hC⟩:=nm (cmpQ (rm.q / bb.q) m.q);have HCE:=Hi hC;clear hC;refine RegG.bg 13 (fun j=>some (38+j)) ?_;rw[HYE.o];refine RegG.pu (c:=?_) [] (fun w hb=>?_) ?_;rotate_left
    .
     intro K hK;go_simp;exact hK
    refine RegG.pu (c:=?_) [0] (fun w hb=>?_) ?_;rotate_left
    .
     intro K hK;go_simp;exact hK
    refine RegG.pu (c:=?_) [1] (fun w hb=>?_) ?_;rotate_left
    .
     intro K hK;go_simp;exact hK
    refine RegG.pu (c:=?_) [2] (fun w hb=>?_) ?_;rotate_left
    .
     intro K hK;obtain⟨g0,g1,g2,g3,g4,g5,g6⟩:=(HSK.o.below hb).cells;go_simp;exact hK
    refine RegG.pu (c:=?_) [3] (fun w hb=>?_) ?_;rotate_left
    .
     intro K hK;go_simp;exact hK
    refine RegG.pu (c:=?_) [4] (fun w hb=>?_) ?_;rotate_left
    .
     intro K hK;obtain⟨p0,p1,p2⟩:=cells3 (H9.o.below hb H9.o.lt);go_simp;exact hK
    refine RegG.pu (c:=?_) [4] (fun w hb=>?_) ?_;rotate_left
    .
     intro K hK;go_simp;exact hK
    refine RegG.pu (c:=?_) [4,6] (fun w hb=>?_) ?_;rotate_left
    .
     intro K hK;go_simp;exact hK
    refine RegG.pu (c:=?_) [4,7] (fun w hb=>?_) ?_;rotate_left
    .
     intro K hK;go_simp;exact hK
    refine RegG.pu (c:=?_) [4,8] (fun w hb=>?_) ?_;rotate_left
    .
     intro K hK;obtain⟨g0,g1,g2,g3,g4,g5,g6⟩:=(HSK.o.below hb).cells;go_simp;exact hK
    refine RegG.ca (φ:=Is (.int .i64 C)) [4,5,9] (Is.stays _) (fun w hb=>?_) ?_
    .
     intro K hK;go_simp;exact Makes.use (HCE.o ▸ FF.compare (FM.o.below hb) ((HSK.o.below hb).most) (by omega)) hK
    refine RegG.pu (c:=?_) [4,10] (fun w hb=>?_) ?_;rotate_left
    .
     intro K hK;go_simp;exact hK
    refine RegG.pu (c:=?_) [4,11] (fun w hb=>?_) ?_;rotate_left
    .
     intro K hK;go_simp;exact hK
    refine RegG.fi (fun u7 hb=>?_);by_cases hc:C<0
    .
     have e1:decide (C<0)=true:=decide_eq_true hc;have HCM:O (mostOf ⟨y1,y2,y3,rm.q / bb.q,rm.k+bb.k⟩ false=cutM (mostOf m false) (rm.q / bb.q)):=Hi (by
      have:=(Qao (rm.q / bb.q) m.q).1 (by rw[HCE.o];exact hc)
      simp[mostOf,cutM,if_pos this])
     clear hc;simp only[e1];have hx:=HSK.o.below hb;obtain⟨d0,d1,d2⟩:=cells3 (H9.o.below hb H9.o.lt);obtain⟨g0,g1,g2,g3,g4,g5,g6⟩:=hx.cells;obtain⟨o1,o2,o3⟩:=FM.o.1.one;have s1:=Qaa prog o1;have s2:=Qaa prog o2;have s3:=Qaa prog o3;clear o1 o2 o3;have f3:=hx.blk.free 3;have f4:=hx.blk.free 4;have f5:=hx.blk.free 5;have f6:=hx.blk.free 6;obtain⟨h1,h2⟩:=hx.setM (e:=⟨y1,y2,y3,rm.q / bb.q,rm.k+bb.k⟩) (FM.o.below hb);obtain⟨HS1,HO1⟩:=Ia h1 ((HOX.o.trans (Only.of_below hb)).trans h2);clear h1 h2 hx hb;go_wp2;go_ret;exact⟨HO1.o,a1,⟨y1,y2,y3,rm.q / bb.q,rm.k+bb.k⟩,false,HS1.o,HK1.o,by show rm.k+bb.k<=_;omega,Or.inr ⟨HBZ.o,rfl,HQ1.o,HCM.o⟩⟩
    .
     have e1:decide (C<0)=false:=decide_eq_false hc;have HCM:O (mostOf m false=cutM (mostOf m false) (rm.q / bb.q)):=Hi (by
      have:¬(rm.q / bb.q)<m.q:=fun h=>hc (by rw[<-HCE.o];exact(Qao _ _).2 h)
      simp[mostOf,cutM,if_neg this])
     obtain⟨HS1,HO1⟩:=Ia (HSK.o.below hb) (HOX.o.trans (Only.of_below hb));clear hc hb;simp only[e1];go_wp2;go_ret;exact⟨HO1.o,a1,m,false,HS1.o,HK1.o,by omega,Or.inr ⟨HBZ.o,rfl,HQ1.o,HCM.o⟩⟩
  .
   have e1:decide (0<C)=false:=decide_eq_false hc;obtain⟨a1,ha1⟩:∃a1:FE,a=a1:=⟨_,rfl⟩;have HQ1:O (a1.q=cutL a.q (nd.q / bb.q)):=Hi (by
    have:¬a.q<(nd.q / bb.q):=fun h=>hc (by rw[<-HCE.o];exact(Qaz _ _).2 h)
    rw[<-ha1]
    simp[cutL,if_neg this])
   have HK1:O (a1.k<=K+K):=Hi (by rw[<-ha1];exact ka);have HSX:=Hi (HSK.o.below hb);rw[ha1] at HSX;obtain⟨FR,FB,HOW⟩:=Ib (FRY.o.below hb) (FBY.o.below hb) (HOY.o.trans (Only.of_below hb));obtain⟨p0,p1,p2⟩:=cells3 (HRY.o.below hb HRY.o.lt);obtain⟨q0,q1,q2⟩:=cells3 (HBY.o.below hb HBY.o.lt);clear hc ha1 hb HSK HOY HRY HBY FRY FBY F9 H9;simp only[e1];go_wp2_with fail;clear p0 p1 p2 q0 q1 q2 e1;refine Makes.use (FF.over FR.o FB.o (by omega)) ?_;intro v10 w6 hb6 h10;obtain⟨y1,y2,y3,rfl⟩:=h10.parts;obtain⟨b9,hb9⟩:=nm w6.heap.size;obtain⟨V6,hV6⟩:=nm (w6.alloc (.cells #[y1,y2,y3] 63));have hBV:Below w6.heap.size w6 V6:=by rw[<-hV6];exact(Below.refl _ _).alloc lZ _
   have HS9:=Uf hV6 hb9;have hbx:=hb6.trans (hBV.mono hb6.size);obtain⟨Y,hY⟩:=nm V6.drew;have hby:Below V6.heap.size V6 Y:=by rw[<-hY];exact(Below.refl _ _).drew
   have hbz:=hbx.trans (hby.mono hbx.size);obtain⟨H9,FM,HSK,HOX⟩:=Ic (HS9.o.below hby HS9.o.lt) ((h10.below hBV).below hby) (HSX.o.below hbz) (HOW.o.trans (Only.of_below hbz));obtain⟨o1,o2,o3⟩:=h10.1.one;have s1:=Qaa prog o1;have s2:=Qaa prog o2;have s3:=Qaa prog o3;clear o1 o2 o3;obtain⟨HV6,HB9,HYE⟩:=Ib hV6 hb9 hY;clear hb6 hV6 hb9 hBV hbx hY hby hbz h10 HS9;go_wp2_with fail;clear s1 s2 s3;rw[HV6.o];simp only[HB9.o];cases o with
   |true=>
    have HCM:O (mostOf ⟨y1,y2,y3,rm.q / bb.q,rm.k+bb.k⟩ false=cutM (mostOf m true) (rm.q / bb.q)):=Hi rfl;refine RegG.bg 13 (fun j=>some (38+j)) ?_;rw[HYE.o];refine RegG.pu (c:=?_) [] (fun w hb=>?_) ?_;rotate_left
    .
     intro K hK;go_simp;exact hK
    refine RegG.pu (c:=?_) [0] (fun w hb=>?_) ?_;rotate_left
    .
     intro K hK;go_simp;exact hK
    refine RegG.pu (c:=?_) [1] (fun w hb=>?_) ?_;rotate_left
    .
     intro K hK;go_simp;exact hK
    refine RegG.pu (c:=?_) [2] (fun w hb=>?_) ?_;rotate_left
    .
     intro K hK;obtain⟨g0,g1,g2,g3,g4,g5,g6⟩:=(HSK.o.below hb).cells;go_simp;exact hK
    refine RegG.pu (c:=?_) [3] (fun w hb=>?_) ?_;rotate_left
    .
     intro K hK;go_simp;exact hK
    refine RegG.pu (c:=?_) [4] (fun w hb=>?_) ?_;rotate_left
    .
     intro K hK;go_simp;exact hK
    refine RegG.pu (c:=?_) [4] (fun w hb=>?_) ?_;rotate_left
    .
     intro K hK;go_simp;exact hK
    refine RegG.pu (c:=?_) [4,6] (fun w hb=>?_) ?_;rotate_left
    .
     intro K hK;go_simp;exact hK
    refine RegG.pu (c:=?_) [4,7] (fun w hb=>?_) ?_;rotate_left
    .
     intro K hK;go_simp;exact hK
    refine RegG.pu (c:=?_) [4,8] (fun w hb=>?_) ?_;rotate_left
    .
     intro K hK;go_simp;exact hK
    refine RegG.pu (c:=?_) [4,5,9] (fun w hb=>?_) ?_;rotate_left
    .
     intro K hK;go_simp;exact hK
    refine RegG.pu (c:=?_) [4,10] (fun w hb=>?_) ?_;rotate_left
    .
     intro K hK;go_simp;exact hK
    refine RegG.pu (c:=?_) [4,11] (fun w hb=>?_) ?_;rotate_left
    .
     intro K hK;go_simp;exact hK
    refine RegG.fi (fun u7 hb=>?_);have hx:=HSK.o.below hb;obtain⟨d0,d1,d2⟩:=cells3 (H9.o.below hb H9.o.lt);obtain⟨g0,g1,g2,g3,g4,g5,g6⟩:=hx.cells;obtain⟨o1,o2,o3⟩:=FM.o.1.one;have s1:=Qaa prog o1;have s2:=Qaa prog o2;have s3:=Qaa prog o3;clear o1 o2 o3;have f3:=hx.blk.free 3;have f4:=hx.blk.free 4;have f5:=hx.blk.free 5;have f6:=hx.blk.free 6;obtain⟨h1,h2⟩:=hx.setM (e:=⟨y1,y2,y3,rm.q / bb.q,rm.k+bb.k⟩) (FM.o.below hb);obtain⟨HS1,HO1⟩:=Ia h1 ((HOX.o.trans (Only.of_below hb)).trans h2);clear h1 h2 hx hb;go_wp2;go_ret;exact⟨HO1.o,a1,⟨y1,y2,y3,rm.q / bb.q,rm.k+bb.k⟩,false,HS1.o,HK1.o,by show rm.k+bb.k<=_;omega,Or.inr ⟨HBZ.o,rfl,HQ1.o,HCM.o⟩⟩
   |false=>
    obtain⟨C,hC⟩:=nm (cmpQ (rm.q / bb.q) m.q);have HCE:=Hi hC;clear hC;refine RegG.bg 13 (fun j=>some (38+j)) ?_;rw[HYE.o];refine RegG.pu (c:=?_) [] (fun w hb=>?_) ?_;rotate_left
    .
     intro K hK;go_simp;exact hK
    refine RegG.pu (c:=?_) [0] (fun w hb=>?_) ?_;rotate_left
    .
     intro K hK;go_simp;exact hK
    refine RegG.pu (c:=?_) [1] (fun w hb=>?_) ?_;rotate_left
    .
     intro K hK;go_simp;exact hK
    refine RegG.pu (c:=?_) [2] (fun w hb=>?_) ?_;rotate_left
    .
     intro K hK;obtain⟨g0,g1,g2,g3,g4,g5,g6⟩:=(HSK.o.below hb).cells;go_simp;exact hK
    refine RegG.pu (c:=?_) [3] (fun w hb=>?_) ?_;rotate_left
    .
     intro K hK;go_simp;exact hK
    refine RegG.pu (c:=?_) [4] (fun w hb=>?_) ?_;rotate_left
    .
     intro K hK;obtain⟨p0,p1,p2⟩:=cells3 (H9.o.below hb H9.o.lt);go_simp;exact hK
    refine RegG.pu (c:=?_) [4] (fun w hb=>?_) ?_;rotate_left
    .
     intro K hK;go_simp;exact hK
    refine RegG.pu (c:=?_) [4,6] (fun w hb=>?_) ?_;rotate_left
    .
     intro K hK;go_simp;exact hK
    refine RegG.pu (c:=?_) [4,7] (fun w hb=>?_) ?_;rotate_left
    .
     intro K hK;go_simp;exact hK
    refine RegG.pu (c:=?_) [4,8] (fun w hb=>?_) ?_;rotate_left
    .
     intro K hK;obtain⟨g0,g1,g2,g3,g4,g5,g6⟩:=(HSK.o.below hb).cells;go_simp;exact hK
    refine RegG.ca (φ:=Is (.int .i64 C)) [4,5,9] (Is.stays _) (fun w hb=>?_) ?_
    .
     intro K hK;go_simp;exact Makes.use (HCE.o ▸ FF.compare (FM.o.below hb) ((HSK.o.below hb).most) (by omega)) hK
    refine RegG.pu (c:=?_) [4,10] (fun w hb=>?_) ?_;rotate_left
    .
     intro K hK;go_simp;exact hK
    refine RegG.pu (c:=?_) [4,11] (fun w hb=>?_) ?_;rotate_left
    .
     intro K hK;go_simp;exact hK
    refine RegG.fi (fun u7 hb=>?_);by_cases hc:C<0
    .
     have e1:decide (C<0)=true:=decide_eq_true hc;have HCM:O (mostOf ⟨y1,y2,y3,rm.q / bb.q,rm.k+bb.k⟩ false=cutM (mostOf m false) (rm.q / bb.q)):=Hi (by
      have:=(Qao (rm.q / bb.q) m.q).1 (by rw[HCE.o];exact hc)
      simp[mostOf,cutM,if_pos this])
     clear hc;simp only[e1];have hx:=HSK.o.below hb;obtain⟨d0,d1,d2⟩:=cells3 (H9.o.below hb H9.o.lt);obtain⟨g0,g1,g2,g3,g4,g5,g6⟩:=hx.cells;obtain⟨o1,o2,o3⟩:=FM.o.1.one;have s1:=Qaa prog o1;have s2:=Qaa prog o2;have s3:=Qaa prog o3;clear o1 o2 o3;have f3:=hx.blk.free 3;have f4:=hx.blk.free 4;have f5:=hx.blk.free 5;have f6:=hx.blk.free 6;obtain⟨h1,h2⟩:=hx.setM (e:=⟨y1,y2,y3,rm.q / bb.q,rm.k+bb.k⟩) (FM.o.below hb);obtain⟨HS1,HO1⟩:=Ia h1 ((HOX.o.trans (Only.of_below hb)).trans h2);clear h1 h2 hx hb;go_wp2;go_ret;exact⟨HO1.o,a1,⟨y1,y2,y3,rm.q / bb.q,rm.k+bb.k⟩,false,HS1.o,HK1.o,by show rm.k+bb.k<=_;omega,Or.inr ⟨HBZ.o,rfl,HQ1.o,HCM.o⟩⟩
    .
     have e1:decide (C<0)=false:=decide_eq_false hc;have HCM:O (mostOf m false=cutM (mostOf m false) (rm.q / bb.q)):=Hi (by
      have:¬(rm.q / bb.q)<m.q:=fun h=>hc (by rw[<-HCE.o];exact(Qao _ _).2 h)
      simp[mostOf,cutM,if_neg this])
     obtain⟨HS1,HO1⟩:=Ia (HSK.o.below hb) (HOX.o.trans (Only.of_below hb));clear hc hb;simp only[e1];go_wp2;go_ret;exact⟨HO1.o,a1,m,false,HS1.o,HK1.o,by omega,Or.inr ⟨HBZ.o,rfl,HQ1.o,HCM.o⟩⟩
end Go.Proofs.YtldjeecnapgakaaGreatDoor
namespace Go.Proofs.YtldjeecnapgakaaGreatDoor
open Go Go.RowKit Go.Shelf
open Go.Proofs.Tryz
set_option linter.unusedSimpArgs false
set_option linter.unusedVariables false
set_option maxHeartbeats 8000000
set_option maxRecDepth 1000000
attribute [local go_sem] Oper.semAt_some
def stn(ts:List FE)(i:Nat):S4:=⟨ts.getD (i*4) FE.nil,ts.getD (i*4+1) FE.nil,ts.getD (i*4+2) FE.nil,ts.getD (i*4+3) FE.nil⟩
abbrev Thr:=Nat × Nat × Nat
def encT(ts:List FE)(x:Thr):Value:=.agg (S4.cells3 (stn ts x.1) (stn ts x.2.1) (stn ts x.2.2))
def OkT(g n:Nat)(ts:List FE)(x:Thr)(w:World):Prop:=x.1<x.2.1/\x.2.1<x.2.2/\x.2.2<n/\TBlk 82 w g ts
def AllT(n:Nat)(xs:List Thr):Prop:=∀i j k,i<j->j<k->k<n->(i,j,k)∈ xs
def EnvT(g b n:Nat)(ts:List FE)(w:World):Prop:=TBlk 82 w g ts/\SB w b 68 #[.slice (some ⟨g,0,none⟩) n n]
def S4.box(s:S4):Array Value:=#[s.a.x,s.a.y,s.a.z,s.l.x,s.l.y,s.l.z,s.u.x,s.u.y,s.u.z,s.s.x,s.s.y,s.s.z]
theorem getD_some{ts:List FE}{i:Nat}(h:i<ts.length):ts[i]?=some (ts.getD i FE.nil):=by
 rw[gE h,List.getD_eq_getElem?_getD,gE h];rfl
section
variable {T:TypeId} {w:World} {g n i:Nat} {ts:List FE}
theorem TBlk.stoneAt(h:TBlk T w g ts)(hl:ts.length=n*4)(hi:i<n):w.cell? ⟨g,i*12,none⟩=some (stn ts i).a.x/\w.cell? ⟨g,i*12+1,none⟩=some (stn ts i).a.y/\w.cell? ⟨g,i*12+2,none⟩=some (stn ts i).a.z/\w.cell? ⟨g,i*12+3,none⟩=some (stn ts i).l.x/\w.cell? ⟨g,i*12+4,none⟩=some (stn ts i).l.y/\w.cell? ⟨g,i*12+5,none⟩=some (stn ts i).l.z/\w.cell? ⟨g,i*12+6,none⟩=some (stn ts i).u.x/\w.cell? ⟨g,i*12+7,none⟩=some (stn ts i).u.y/\w.cell? ⟨g,i*12+8,none⟩=some (stn ts i).u.z/\w.cell? ⟨g,i*12+9,none⟩=some (stn ts i).s.x/\w.cell? ⟨g,i*12+10,none⟩=some (stn ts i).s.y/\w.cell? ⟨g,i*12+11,none⟩=some (stn ts i).s.z:=
 h.stone (getD_some (by omega)) (getD_some (by omega)) (getD_some (by omega)) (getD_some (by omega))
theorem TBlk.okAt(h:TBlk T w g ts)(hl:ts.length=n*4)(hi:i<n):FE.ok w (stn ts i).a/\FE.ok w (stn ts i).l/\FE.ok w (stn ts i).u/\FE.ok w (stn ts i).s:=
 ⟨h.ok _ (mO (getD_some (by omega))),h.ok _ (mO (getD_some (by omega))),h.ok _ (mO (getD_some (by omega))),h.ok _ (mO (getD_some (by omega)))⟩
theorem S4.at{s:S4}(h:SB w g T s.box):w.cell? ⟨g,0,none⟩=some s.a.x/\w.cell? ⟨g,1,none⟩=some s.a.y/\w.cell? ⟨g,2,none⟩=some s.a.z/\w.cell? ⟨g,3,none⟩=some s.l.x/\w.cell? ⟨g,4,none⟩=some s.l.y/\w.cell? ⟨g,5,none⟩=some s.l.z/\w.cell? ⟨g,6,none⟩=some s.u.x/\w.cell? ⟨g,7,none⟩=some s.u.y/\w.cell? ⟨g,8,none⟩=some s.u.z/\w.cell? ⟨g,9,none⟩=some s.s.x/\w.cell? ⟨g,10,none⟩=some s.s.y/\w.cell? ⟨g,11,none⟩=some s.s.z:=
 ⟨(h.cell 0).trans rfl,(h.cell 1).trans rfl,(h.cell 2).trans rfl,(h.cell 3).trans rfl,(h.cell 4).trans rfl,(h.cell 5).trans rfl,(h.cell 6).trans rfl,(h.cell 7).trans rfl,(h.cell 8).trans rfl,(h.cell 9).trans rfl,(h.cell 10).trans rfl,(h.cell 11).trans rfl⟩
end
theorem Qkx(g n:Nat)(w:World):Calls prog 67 #[.slice (some ⟨g,0,none⟩) n n] w fun e w'=>e=.returned (.func (.func 114) #[] #[.pointer (some ⟨w.heap.size,0,none⟩)])/\w'=w.alloc (.cells #[.slice (some ⟨g,0,none⟩) n n] 68):=by
 go_enter func67,ntmps67;go_wp2;go_ret;exact⟨rfl,rfl⟩
theorem Qky{g b n m R B:Nat}{ts:List FE}(hl:ts.length=n*4)(hn:n<=10)(hm:1<=m)(hRB:R<B):
 OverR R (EnvT g b n ts) Fence.wide m prog 114 #[.pointer (some ⟨b,0,none⟩)] (encT ts) (OkT g n ts) (AllT n) (fun _=>True) B:=by
 intro l J Jx W hBl hJb hJl hY h0;obtain⟨HLE,HJB,HJL,HY,HJ0⟩:=Id hl hJb hJl hY h0;have c0:=(hJl [] W h0).2.2.2.2.cell 0;simp only[List.getElem?_toArray,List.getElem?_cons_zero] at c0;clear hl hJb hJl hY h0;refine callsIn_of_wp func114 rfl trivial ?_ rfl;simp only[ntmps114,List.size_toArray,List.length_cons,List.length_nil,Nat.reduceAdd,Nat.reduceSub,Array.replicate_succ,Array.replicate_zero,List.push_toArray,List.append_toArray,List.nil_append,List.cons_append]
 gi_wp2
 gi_loopw [11] (fun iv wr=>∃(k:Nat) (pre:List Thr),k<=n/\iv=.int .i64 k/\(∀i j k',i<j->j<k'->k'<k->(i,j,k')∈ pre)/\J pre wr) (fun iv _=>n - (intOf iv).toNat)
 case atStart=>exact⟨0,[],Nat.zero_le _,rfl,fun i j k hi hj hk=>by omega,HJ0.o⟩
 case round=>
  obtain⟨k,pre,hk,rfl,hpre,hj⟩:=hrel;obtain⟨HJ,HPRE⟩:=Ia hj hpre;clear hj hpre c0;by_cases hkn:k<n
  .
   have he:=(HJL.o pre wr HJ.o).2.2.2;obtain⟨t0,t1,t2,t3,t4,t5,t6,t7,t8,t9,t10,t11⟩:=he.1.stoneAt HLE.o (i:=k) (by omega);obtain⟨h1,h2,h3,h4⟩:=he.1.okAt HLE.o (i:=k) (by omega);obtain⟨t,hx⟩:∃x,stn ts k=x:=⟨_,rfl⟩;rw[hx] at t0 t1 t2 t3 t4 t5 t6 t7 t8 t9 t10 t11 h1 h2 h3 h4;obtain⟨o1,o2,o3⟩:=h1.1.one;obtain⟨o4,o5,o6⟩:=h2.1.one;obtain⟨o7,o8,o9⟩:=h3.1.one;obtain⟨o10,o11,o12⟩:=h4.1.one;have s1:=Qaa prog o1;have s2:=Qaa prog o2;have s3:=Qaa prog o3;have s4:=Qaa prog o4;have s5:=Qaa prog o5;have s6:=Qaa prog o6;have s7:=Qaa prog o7;have s8:=Qaa prog o8;have s9:=Qaa prog o9;have s10:=Qaa prog o10;have s11:=Qaa prog o11;have s12:=Qaa prog o12;clear o1 o2 o3 o4 o5 o6 o7 o8 o9 o10 o11 o12;obtain⟨b4,hbx⟩:∃bx,wr.heap.size=bx:=⟨_,rfl⟩
   obtain⟨V4,hV⟩:∃V,wr.alloc (.cells #[t.a.x,t.a.y,t.a.z,t.l.x,t.l.y,t.l.z,t.u.x,t.u.y,t.u.z,t.s.x,t.s.y,t.s.z] 82)=V:=⟨_,rfl⟩;have hBV:Below wr.heap.size wr V4:=by rw[<-hV];exact(Below.refl _ _).alloc lZ _
   have HS4:=Uf hV hbx;have hRX:R<b4:=by rw[<-hbx];exact Nat.lt_of_lt_of_le hRB (HJL.o pre wr HJ.o).2.2.1
   obtain⟨HV4,HB4,HJN,HSBV,HXE⟩:=Id hV hbx (HJB.o pre wr V4 HJ.o hBV) hBV hx;have cb:=(HJL.o pre V4 HJN.o).2.2.2.2.cell 0;simp only[List.getElem?_toArray,List.getElem?_cons_zero] at cb;rw[<-hV] at cb;clear he h1 h2 h3 h4 hx hbx hV hBV;have HJ4:=HJN;have hR4:=hRX;have HTE:=HXE;have q1:((k:Int)<(n:Int)):=by omega
   clear HJN hRX HXE HSBV
   gi_wp2
   rw[HV4.o];simp only[HB4.o];clear s1 s2 s3 s4 s5 s6 s7 s8 s9 s10 s11 s12;clear t0 t1 t2 t3 t4 t5 t6 t7 t8 t9 t10 t11 cb
   gi_loopw [20] (fun iv wr=>∃(q:Nat) (pre':List Thr),q<=k/\iv=.int .i64 q/\(∀x,x∈ pre->x∈ pre')/\(∀i j,i<j->j<q->(i,j,k)∈ pre')/\J pre' wr/\SB wr b4 82 t.box) (fun iv _=>k - (intOf iv).toNat)
   case atStart=>exact⟨0,pre,Nat.zero_le _,rfl,fun x hx=>hx,fun i j hi hj'=>by omega,HJ4.o,HS4.o⟩
   case round=>
    obtain⟨q,pre',hq,rfl,hsub,hin,hj',hs4⟩:=hrel;have HJ':=Hi hj';obtain⟨HSUB,HIN⟩:=Ia hsub hin;have HS4':=Hi hs4;clear hj' hsub hin hs4 HJ4 HS4;by_cases hqk:q<k
    .
     have he:=(HJL.o pre' wr HJ'.o).2.2.2;obtain⟨t0,t1,t2,t3,t4,t5,t6,t7,t8,t9,t10,t11⟩:=he.1.stoneAt HLE.o (i:=q) (by omega);obtain⟨h1,h2,h3,h4⟩:=he.1.okAt HLE.o (i:=q) (by omega);obtain⟨s,hx⟩:∃x,stn ts q=x:=⟨_,rfl⟩;rw[hx] at t0 t1 t2 t3 t4 t5 t6 t7 t8 t9 t10 t11 h1 h2 h3 h4;obtain⟨o1,o2,o3⟩:=h1.1.one;obtain⟨o4,o5,o6⟩:=h2.1.one;obtain⟨o7,o8,o9⟩:=h3.1.one;obtain⟨o10,o11,o12⟩:=h4.1.one;have s1:=Qaa prog o1;have s2:=Qaa prog o2;have s3:=Qaa prog o3;have s4:=Qaa prog o4;have s5:=Qaa prog o5;have s6:=Qaa prog o6;have s7:=Qaa prog o7;have s8:=Qaa prog o8;have s9:=Qaa prog o9;have s10:=Qaa prog o10;have s11:=Qaa prog o11;have s12:=Qaa prog o12;clear o1 o2 o3 o4 o5 o6 o7 o8 o9 o10 o11 o12;obtain⟨b6,hbx⟩:∃bx,wr.heap.size=bx:=⟨_,rfl⟩
     obtain⟨V6,hV⟩:∃V,wr.alloc (.cells #[s.a.x,s.a.y,s.a.z,s.l.x,s.l.y,s.l.z,s.u.x,s.u.y,s.u.z,s.s.x,s.s.y,s.s.z] 82)=V:=⟨_,rfl⟩;have hBV:Below wr.heap.size wr V6:=by rw[<-hV];exact(Below.refl _ _).alloc lZ _
     have HS6:=Uf hV hbx;have hRX:R<b6:=by rw[<-hbx];exact Nat.lt_of_lt_of_le hRB (HJL.o pre' wr HJ'.o).2.2.1
     obtain⟨HV6,HB6,HJN,HSBV,HXE⟩:=Id hV hbx (HJB.o pre' wr V6 HJ'.o hBV) hBV hx;have cb:=(HJL.o pre' V6 HJN.o).2.2.2.2.cell 0;simp only[List.getElem?_toArray,List.getElem?_cons_zero] at cb;rw[<-hV] at cb;clear he h1 h2 h3 h4 hx hbx hV hBV;have HJ6:=HJN;have hR6:=hRX;have HSE:=HXE;have HS46:=Hi (HS4'.o.below HSBV.o HS4'.o.lt);have q2:((q:Int)<(k:Int)):=by omega
     clear HJN hRX HXE HSBV
     gi_wp2
     rw[HV6.o];simp only[HB6.o];clear s1 s2 s3 s4 s5 s6 s7 s8 s9 s10 s11 s12;clear t0 t1 t2 t3 t4 t5 t6 t7 t8 t9 t10 t11 cb
     gi_loopw [29] (fun iv wr=>∃(p:Nat) (pr2:List Thr),p<=q/\iv=.int .i64 p/\(∀x,x∈ pre'->x∈ pr2)/\(∀i,i<p->(i,q,k)∈ pr2)/\J pr2 wr/\SB wr b4 82 t.box/\SB wr b6 82 s.box) (fun iv _=>q - (intOf iv).toNat)
     case atStart=>exact⟨0,pre',Nat.zero_le _,rfl,fun x hx=>hx,fun i hi=>by omega,HJ6.o,HS46.o,HS6.o⟩
     case round=>
      obtain⟨p,pr2,hp,rfl,hsub2,hin2,hj2,hs42,hs62⟩:=hrel;obtain⟨HJ2,HSUB2,HIN2,HS42,HS62⟩:=Id hj2 hsub2 hin2 hs42 hs62;clear hj2 hsub2 hin2 hs42 hs62 HJ6 HS46 HS6;by_cases hpq:p<q
      .
       have he:=(HJL.o pr2 wr HJ2.o).2.2.2;obtain⟨t0,t1,t2,t3,t4,t5,t6,t7,t8,t9,t10,t11⟩:=he.1.stoneAt HLE.o (i:=p) (by omega);obtain⟨h1,h2,h3,h4⟩:=he.1.okAt HLE.o (i:=p) (by omega);obtain⟨r,hx⟩:∃x,stn ts p=x:=⟨_,rfl⟩;rw[hx] at t0 t1 t2 t3 t4 t5 t6 t7 t8 t9 t10 t11 h1 h2 h3 h4;obtain⟨o1,o2,o3⟩:=h1.1.one;obtain⟨o4,o5,o6⟩:=h2.1.one;obtain⟨o7,o8,o9⟩:=h3.1.one;obtain⟨o10,o11,o12⟩:=h4.1.one;have s1:=Qaa prog o1;have s2:=Qaa prog o2;have s3:=Qaa prog o3;have s4:=Qaa prog o4;have s5:=Qaa prog o5;have s6:=Qaa prog o6;have s7:=Qaa prog o7;have s8:=Qaa prog o8;have s9:=Qaa prog o9;have s10:=Qaa prog o10;have s11:=Qaa prog o11;have s12:=Qaa prog o12;clear o1 o2 o3 o4 o5 o6 o7 o8 o9 o10 o11 o12;obtain⟨b8,hbx⟩:∃bx,wr.heap.size=bx:=⟨_,rfl⟩
       obtain⟨V8,hV⟩:∃V,wr.alloc (.cells #[r.a.x,r.a.y,r.a.z,r.l.x,r.l.y,r.l.z,r.u.x,r.u.y,r.u.z,r.s.x,r.s.y,r.s.z] 82)=V:=⟨_,rfl⟩;have hBV:Below wr.heap.size wr V8:=by rw[<-hV];exact(Below.refl _ _).alloc lZ _
       have HS8:=Uf hV hbx;have hRX:R<b8:=by rw[<-hbx];exact Nat.lt_of_lt_of_le hRB (HJL.o pr2 wr HJ2.o).2.2.1
       obtain⟨HV8,HB8,HJN,HSBV,HXE⟩:=Id hV hbx (HJB.o pr2 wr V8 HJ2.o hBV) hBV hx;have cb:=(HJL.o pr2 V8 HJN.o).2.2.2.2.cell 0;simp only[List.getElem?_toArray,List.getElem?_cons_zero] at cb;rw[<-hV] at cb;clear he h1 h2 h3 h4 hx hbx hV hBV;have HJ8:=HJN;have HRE:=HXE;obtain⟨HS48,HS68⟩:=Ia (HS42.o.below HSBV.o HS42.o.lt) (HS62.o.below HSBV.o HS62.o.lt);have q3:((p:Int)<(q:Int)):=by omega
       obtain⟨x0,x1,x2,x3,x4,x5,x6,x7,x8,x9,x10,x11⟩:=S4.at HS48.o;obtain⟨y0,y1,y2,y3,y4,y5,y6,y7,y8,y9,y10,y11⟩:=S4.at HS68.o;rw[<-HV8.o] at x0 x1 x2 x3 x4 x5 x6 x7 x8 x9 x10 x11 y0 y1 y2 y3 y4 y5 y6 y7 y8 y9 y10 y11;have hll:=(HJL.o pr2 V8 HJ8.o).2.1;have HOK:O (OkT g n ts (p,q,k) V8):=Hi ⟨hpq,hqk,hkn,(HJL.o pr2 V8 HJ8.o).2.2.2.1⟩;have HNC:=Hi (HJL.o pr2 V8 HJ8.o).1;obtain⟨fn,tmps,asg,bdy,hyy,hR⟩:=HY.o pr2 (p,q,k) V8 HJ8.o HOK.o;dsimp only[encT] at hyy;rw[HRE.o,HSE.o,HTE.o] at hyy;unfold S4.cells3 at hyy;rw[<-HV8.o] at hyy;have HR:=Hi hR;clear HJN hRX HXE HSBV hR cb
       gi_wp2
       rw[HV8.o];simp only[HB8.o];refine HR.o.mono ?_;rintro e W3 (⟨rfl,hJ3,ho3⟩|⟨rfl,hJx3⟩)
       .
        obtain⟨HJ3,HS43,HS63⟩:=Ib hJ3 (HS48.o.only2 ho3 (by rintro rfl;have:=HNC.o _ HS48.o;cases this) (by omega)) (HS68.o.only2 ho3 (by rintro rfl;have:=HNC.o _ HS68.o;cases this) (by omega));clear s1 s2 s3 s4 s5 s6 s7 s8 s9 s10 s11 s12;clear hJ3 ho3 hyy x0 x1 x2 x3 x4 x5 x6 x7 x8 x9 x10 x11 y0 y1 y2 y3 y4 y5 y6 y7 y8 y9 y10 y11 t0 t1 t2 t3 t4 t5 t6 t7 t8 t9 t10 t11
        gi_wp2
        go_roundw
        case rel=>
         refine⟨p+1,pr2++ [(p,q,k)],by omega,by go_num,fun x hx=>List.mem_append_left _ (HSUB2.o x hx),fun i hi=>?_,HJ3.o,HS43.o,HS63.o⟩;rcases Nat.lt_or_ge i p with h1|h1
         . exact List.mem_append_left _ (HIN2.o i h1)
         . rw[show i=p by omega];simp
        case measure=>simp[intOf];omega
       .
        have HJX:=Hi hJx3;clear s1 s2 s3 s4 s5 s6 s7 s8 s9 s10 s11 s12;clear hJx3 hyy x0 x1 x2 x3 x4 x5 x6 x7 x8 x9 x10 x11 y0 y1 y2 y3 y4 y5 y6 y7 y8 y9 y10 y11 t0 t1 t2 t3 t4 t5 t6 t7 t8 t9 t10 t11
        gi_wp2
        refine bodyPost_ret (results_none rfl _ _ _) rfl ?_;exact⟨⟨_,rfl⟩,.inr ⟨_,trivial,HJX.o⟩⟩
      .
       have q3:¬((p:Int)<(q:Int)):=by omega
       gi_wp2
       go_roundw
       case rel=>
        refine⟨q+1,pr2,by omega,by go_num,fun x hx=>HSUB2.o x (HSUB.o x hx),fun i j hi hj=>?_,HJ2.o,HS42.o⟩;rcases Nat.lt_or_ge j q with h1|h1
        . exact HSUB2.o _ (HIN.o i j hi h1)
        . rw[show j=q by omega];exact HIN2.o i (by omega)
       case measure=>simp[intOf];omega
    .
     have q2:¬((q:Int)<(k:Int)):=by omega
     gi_wp2
     go_roundw
     case rel=>
      refine⟨k+1,pre',by omega,by go_num,fun i j k' hi hj hk'=>?_,HJ'.o⟩;rcases Nat.lt_or_ge k' k with h1|h1
      . exact HSUB.o _ (HPRE.o i j k' hi hj h1)
      . rw[show k'=k by omega];exact HIN.o i j hi (by omega)
     case measure=>simp[intOf];omega
  .
   obtain rfl:k=n:=by omega
   gi_wp2
   go_end0;exact⟨⟨_,rfl⟩,.inl ⟨pre,fun i j k' hi hj hk'=>HPRE.o i j k' hi hj hk',HJ.o⟩⟩
end Go.Proofs.YtldjeecnapgakaaGreatDoor
