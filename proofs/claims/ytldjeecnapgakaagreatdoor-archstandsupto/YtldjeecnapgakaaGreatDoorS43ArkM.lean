/- package arch: narrow: slacks are cut to those that, times something, lie between two. -/
import Derived.Test.YtldjeecnapgakaaGreatDoorS37RngO
namespace Go.Proofs.YtldjeecnapgakaaGreatDoor
open Go.RowKit
set_option linter.unusedVariables false
set_option linter.unusedSimpArgs false
theorem Qfo(q:Rat):sgn3 q.num≤0↔q≤0:=by
 rw[←Qb4];unfold cmpQ;rw[show q.num*((0:Rat).den:Int)=q.num from by simp,show (0:Rat).num*(q.den:Int)=0 from by simp];exact Iff.rfl
theorem Qj1(q:Rat):0≤sgn3 q.num↔0≤q:=by
 have:=Qbe q;rw[←Rat.not_lt,←this];omega
structure SkAt (w:World) (g:Nat) (a m:FE) (o:Bool):Prop where
 blk:SB w g 65 #[a.x,a.y,a.z,m.x,m.y,m.z,.bool o]
 least:FE.ok w a
 most:FE.ok w m
def mostOf(m:FE)(o:Bool):Option Rat:=if o then none else some m.q
section
variable {w w':World} {g:Nat} {a m:FE} {o:Bool}
theorem SkAt.no64(h:SkAt w g a m o):NoU64 #[a.x,a.y,a.z,m.x,m.y,m.z,.bool o]:=by
 refine Qda fun v hv n=>?_
 obtain⟨a1,a2,a3⟩:=h.least.1.no64 n;obtain⟨m1,m2,m3⟩:=h.most.1.no64 n;simp at hv;rcases hv with rfl|rfl|rfl|rfl|rfl|rfl|rfl
 · exact a1
 · exact a2
 · exact a3
 · exact m1
 · exact m2
 · exact m3
 · exact nofun
theorem SkAt.keep(h:SkAt w g a m o)(ho:Only g w w'){q:Rat}{k:Nat}{v:Value}(hf:FF q k v w):FF q k v w':=⟨hf.1.only ho h.blk h.no64,hf.2⟩
theorem SkAt.below(h:SkAt w g a m o)(hb:Below w.heap.size w w'):SkAt w' g a m o:=⟨h.blk.below hb h.blk.lt,h.least.below hb,h.most.below hb⟩
theorem SkAt.cells(h:SkAt w g a m o):w.cell? ⟨g,0,none⟩=some a.x∧w.cell? ⟨g,1,none⟩=some a.y∧w.cell? ⟨g,2,none⟩=some a.z∧w.cell? ⟨g,3,none⟩=some m.x∧w.cell? ⟨g,4,none⟩=some m.y∧w.cell? ⟨g,5,none⟩=some m.z∧w.cell? ⟨g,6,none⟩=some (.bool o):=
 ⟨(h.blk.cell 0).trans rfl,(h.blk.cell 1).trans rfl,(h.blk.cell 2).trans rfl,(h.blk.cell 3).trans rfl,(h.blk.cell 4).trans rfl,(h.blk.cell 5).trans rfl,(h.blk.cell 6).trans rfl⟩
theorem SkAt.setL(h:SkAt w g a m o){e:FE}(he:FE.ok w e):SkAt (((w.setCell ⟨g,0,none⟩ e.x).setCell ⟨g,1,none⟩ e.y).setCell ⟨g,2,none⟩ e.z) g e m o∧Only g w (((w.setCell ⟨g,0,none⟩ e.x).setCell ⟨g,1,none⟩ e.y).setCell ⟨g,2,none⟩ e.z):=by
 have ho:Only g w (((w.setCell ⟨g,0,none⟩ e.x).setCell ⟨g,1,none⟩ e.y).setCell ⟨g,2,none⟩ e.z):=(((Only.refl g w).setCell _ _).setCell _ _).setCell _ _;exact⟨⟨((h.blk.set 0 e.x).set 1 e.y).set 2 e.z,h.keep ho he,h.keep ho h.most⟩,ho⟩
theorem SkAt.setM(h:SkAt w g a m o){e:FE}(he:FE.ok w e):SkAt ((((w.setCell ⟨g,3,none⟩ e.x).setCell ⟨g,4,none⟩ e.y).setCell ⟨g,5,none⟩ e.z).setCell ⟨g,6,none⟩ (.bool false)) g a e false∧Only g w ((((w.setCell ⟨g,3,none⟩ e.x).setCell ⟨g,4,none⟩ e.y).setCell ⟨g,5,none⟩ e.z).setCell ⟨g,6,none⟩ (.bool false)):=by
 have ho:Only g w ((((w.setCell ⟨g,3,none⟩ e.x).setCell ⟨g,4,none⟩ e.y).setCell ⟨g,5,none⟩ e.z).setCell ⟨g,6,none⟩ (.bool false)):=((((Only.refl g w).setCell _ _).setCell _ _).setCell _ _).setCell _ _;exact⟨⟨(((h.blk.set 3 e.x).set 4 e.y).set 5 e.z).set 6 (.bool false),h.keep ho h.least,h.keep ho he⟩,ho⟩
end
theorem cells3{w:World}{g:Nat}{T:TypeId}{x y z:Value}(h:SB w g T #[x,y,z]):w.cell? ⟨g,0,none⟩=some x∧w.cell? ⟨g,1,none⟩=some y∧w.cell? ⟨g,2,none⟩=some z:=⟨(h.cell 0).trans rfl,(h.cell 1).trans rfl,(h.cell 2).trans rfl⟩
def NarSays(w:World)(g K:Nat)(a m:FE)(o:Bool)(nd rm bb:FE)(e:Ending)(w':World):Prop:=
 Only g w w'∧∃a' m' o',SkAt w' g a' m' o'∧a'.k≤K+K∧m'.k≤K+K∧
  ((bb.q=0∧e=.returned (.bool (decide (nd.q≤0) && decide (0≤rm.q)))∧a'.q=a.q∧mostOf m' o'=mostOf m o)∨
   (bb.q≠0∧e=.returned (.bool true)∧a'.q=cutL a.q (nd.q / bb.q)∧mostOf m' o'=cutM (mostOf m o) (rm.q / bb.q)))
set_option maxRecDepth 100000 in
set_option maxHeartbeats 4000000 in
theorem Qj2{g K:Nat}{a m nd rm bb:FE}{o:Bool}{w:World}(hs:SkAt w g a m o)(hn:FE.ok w nd)(hr:FE.ok w rm)(hb:FE.ok w bb)(ka:a.k≤K+K)(km:m.k≤K+K)(kn:nd.k≤K)(kr:rm.k≤K)(kb:bb.k≤K)(hk:4*K<60000000000):
 Calls Tryz.prog 69 #[.pointer (some ⟨g,0,none⟩),.agg #[nd.x,nd.y,nd.z],.agg #[rm.x,rm.y,rm.z],.agg #[bb.x,bb.y,bb.z]] w (NarSays w g K a m o nd rm bb):=by
 obtain⟨V,hV⟩:∃V,((w.alloc (.cells #[nd.x,nd.y,nd.z] 63)).alloc (.cells #[rm.x,rm.y,rm.z] 63)).alloc (.cells #[bb.x,bb.y,bb.z] 63)=V:=⟨_,rfl⟩;obtain⟨B,hB⟩:∃B,w.heap.size=B:=⟨_,rfl⟩;have HBV:Hid (Below w.heap.size w V):=Hi (by rw[←hV];exact Below.new3 w _ _ _);have HN:Hid (SB V B 63 #[nd.x,nd.y,nd.z]):=Hi (by rw[←hV,←hB];exact((SB.new w _ _).alloc _).alloc _);have HR:Hid (SB V (B+1) 63 #[rm.x,rm.y,rm.z]):=Hi (by rw[←hV,←hB];exact(SB.new2 w _ _ _ _).alloc _);have HB:Hid (SB V (B+1+1) 63 #[bb.x,bb.y,bb.z]):=Hi (by rw[←hV,←hB];exact SB.new3 w _ _ _ _ _ _);obtain⟨o1,o2,o3⟩:=hn.1.one;have r1:=Qab Tryz.prog o1;have r2:=Qab Tryz.prog o2;have r3:=Qab Tryz.prog o3;clear o1 o2 o3;obtain⟨o1,o2,o3⟩:=hr.1.one;have r4:=Qab Tryz.prog o1;have r5:=Qab Tryz.prog o2;have r6:=Qab Tryz.prog o3;clear o1 o2 o3;obtain⟨o1,o2,o3⟩:=hb.1.one;have r7:=Qab Tryz.prog o1;have r8:=Qab Tryz.prog o2
 have r9:=Qab Tryz.prog o3;clear o1 o2 o3;have glt:g<B:=by rw[←hB];exact hs.blk.lt
 have HSV:=Hi (hs.below HBV.out);have FN0:=Hi (FE.ok.below hn HBV.out);have FR0:=Hi (FE.ok.below hr HBV.out);have FB0:=Hi (FE.ok.below hb HBV.out);obtain⟨q0,q1,q2⟩:=cells3 HB.out;rw[←hV] at q0 q1 q2;have HVE:=Hi hV;have HBE:=Hi hB;clear hV hs hn hr hb;rw[←hB] at q0 q1 q2;clear hB;go_enter Tryz.func69,Tryz.ntmps69;go_wp2_with fail;rw[HVE.out];simp only[HBE.out];clear r1 r2 r3 r4 r5 r6 r7 r8 r9 q0 q1 q2;refine Makes.use (FF.isZero FB0.out) ?_;rintro _ w1 hb1 rfl;have HN1:=Hi (HN.out.below hb1 HN.out.lt);have HR1:=Hi (HR.out.below hb1 HR.out.lt);have HB1:=Hi (HB.out.below hb1 HB.out.lt);have FN:=Hi (FN0.out.below hb1);have FR:=Hi (FR0.out.below hb1);have FB:=Hi (FB0.out.below hb1);have HS1:=Hi (HSV.out.below hb1);have HO1:Hid (Only g w w1):=Hi (Only.of_below (HBV.out.trans (hb1.mono HBV.out.size)));clear hb1 HN HR HB FN0 FR0 FB0 HSV HVE;by_cases hz:bb.q=0
 ·
  have e0:decide (bb.q=0)=true:=decide_eq_true hz;have HZ:=Hi hz;clear hz;rw[e0];clear e0;obtain⟨p0,p1,p2⟩:=cells3 HN1.out;go_wp2_with fail;clear p0 p1 p2;refine Makes.use (FF.sign FN.out) ?_;rintro _ w2 hb2 rfl;obtain⟨C,hC⟩:∃C,sgn3 nd.q.num=C:=⟨_,rfl⟩;have HCE:Hid (C≤0↔nd.q≤0):=Hi (by rw[←hC];exact Qfo _);rw[hC];clear hC;obtain⟨p0,p1,p2⟩:=cells3 (HR1.out.below hb2 HR1.out.lt);have HS2:=Hi (HS1.out.below hb2);have HO2:=Hi (HO1.out.trans (Only.of_below hb2));have FR2:=Hi (FR.out.below hb2);clear hb2;by_cases hc:C≤0
  ·
   have e1:decide (C≤0)=true:=decide_eq_true hc;have e2:decide (nd.q≤0)=true:=decide_eq_true (HCE.out.1 hc);have HE2:=Hi e2;clear hc e2;go_wp2_with fail;clear p0 p1 p2;refine Makes.use (FF.sign FR2.out) ?_;rintro _ w3 hb3 rfl;obtain⟨D,hD⟩:∃D,sgn3 rm.q.num=D:=⟨_,rfl⟩;have HDE:Hid (decide (0≤D)=decide (0≤rm.q)):=Hi (by rw[←hD];exact decide_eq_decide.2 (Qj1 _));rw[hD];clear hD;have HS3:=Hi (HS2.out.below hb3);have HO3:=Hi (HO2.out.trans (Only.of_below hb3));clear hb3;go_wp2;go_ret;exact⟨HO3.out,a,m,o,HS3.out,ka,km,Or.inl ⟨HZ.out,by rw[HE2.out,←HDE.out];rfl,rfl,rfl⟩⟩
  ·
   have e1:decide (C≤0)=false:=decide_eq_false hc;have e2:decide (nd.q≤0)=false:=decide_eq_false (fun h=>hc (HCE.out.2 h));have HE2:=Hi e2;clear hc e2;go_wp2;go_ret;exact⟨HO2.out,a,m,o,HS2.out,ka,km,Or.inl ⟨HZ.out,by rw[HE2.out];rfl,rfl,rfl⟩⟩
 ·
  have e0:decide (bb.q=0)=false:=decide_eq_false hz;have HBZ:=Hi hz;clear hz;rw[e0];clear e0;obtain⟨p0,p1,p2⟩:=cells3 HN1.out;obtain⟨q0,q1,q2⟩:=cells3 HB1.out;go_wp2_with fail;clear p0 p1 p2 q0 q1 q2;refine Makes.use (FF.over FN.out FB.out (by omega)) ?_;intro v9 w2 hb2 h9;obtain⟨x1,x2,x3,rfl⟩:=h9.parts;obtain⟨b9,hb9⟩:∃b9,w2.heap.size=b9:=⟨_,rfl⟩;obtain⟨V2,hV2⟩:∃V2,w2.alloc (.cells #[x1,x2,x3] 63)=V2:=⟨_,rfl⟩;have hBV:Below w2.heap.size w2 V2:=by rw[←hV2];exact(Below.refl _ _).alloc (Nat.le_refl _) _
  have HS9:Hid (SB V2 b9 63 #[x1,x2,x3]):=Hi (by rw[←hV2,←hb9];exact SB.new w2 _ _);have hbx:=hb2.trans (hBV.mono hb2.size);obtain⟨Y,hY⟩:∃Y,V2.drew=Y:=⟨_,rfl⟩;have hby:Below V2.heap.size V2 Y:=by rw[←hY];exact(Below.refl _ _).drew
  have hbz:=hbx.trans (hby.mono hbx.size);have H9:=Hi (HS9.out.below hby HS9.out.lt);have F9:=Hi ((h9.below hBV).below hby);have HSK:=Hi (HS1.out.below hbz);have HOY:=Hi (HO1.out.trans (Only.of_below hbz));have HRY:=Hi (HR1.out.below hbz HR1.out.lt);have HBY:=Hi (HB1.out.below hbz HB1.out.lt);have FRY:=Hi (FR.out.below hbz);have FBY:=Hi (FB.out.below hbz);obtain⟨o1,o2,o3⟩:=h9.1.one;have s1:=Qab Tryz.prog o1;have s2:=Qab Tryz.prog o2;have s3:=Qab Tryz.prog o3;clear o1 o2 o3;have HV2:=Hi hV2;have HB9:=Hi hb9;have HYE:=Hi hY;clear hb2 hV2 hb9 hBV hbx hY hby hbz h9 HS9 HS1 HR1 HB1 HN1 FN FR FB;go_wp2_with fail;clear s1 s2 s3;rw[HV2.out];simp only[HB9.out];obtain⟨C,hC⟩:∃C,cmpQ (nd.q / bb.q) a.q=C:=⟨_,rfl⟩;have HCE:=Hi hC;clear hC;refine RegG.begin 7 (fun j=>some (24+j)) (by kernel_rfl) (by kernel_rfl) (by kernel_rfl) rfl ?_;rw[HYE.out]
  refine RegG.is (c:=?_) [] (by simp only[List.nil_append,List.cons_append,List.length_append,List.length_cons,List.length_nil,Nat.reduceAdd];exact rfl) (by simp only[List.getElem?_toArray,List.getElem?_cons_zero,List.getElem?_cons_succ];exact rfl) (by kernel_rfl) (fun w hb=>?_) ?_;rotate_left
  ·
   simp only[Given,List.nil_append,List.cons_append,List.getD_cons_zero,List.getD_cons_succ,Qaa,Act.put,List.setIfInBounds_toArray,List.set_cons_zero,List.set_cons_succ,Nat.reduceAdd,Nat.reduceBEq,cond_true,cond_false];intro K hK;obtain⟨p0,p1,p2⟩:=cells3 (H9.out.below hb H9.out.lt);go_simp;exact hK
  refine RegG.is (c:=?_) [] (by simp only[List.nil_append,List.cons_append,List.length_append,List.length_cons,List.length_nil,Nat.reduceAdd];exact rfl) (by simp only[List.getElem?_toArray,List.getElem?_cons_zero,List.getElem?_cons_succ];exact rfl) (by kernel_rfl) (fun w hb=>?_) ?_;rotate_left
  ·
   simp only[Given,List.nil_append,List.cons_append,List.getD_cons_zero,List.getD_cons_succ,Qaa,Act.put,List.setIfInBounds_toArray,List.set_cons_zero,List.set_cons_succ,Nat.reduceAdd,Nat.reduceBEq,cond_true,cond_false];intro K hK;skip;go_simp;exact hK
  refine RegG.is (c:=?_) [1] (by simp only[List.nil_append,List.cons_append,List.length_append,List.length_cons,List.length_nil,Nat.reduceAdd];exact rfl) (by simp only[List.getElem?_toArray,List.getElem?_cons_zero,List.getElem?_cons_succ];exact rfl) (by kernel_rfl) (fun w hb=>?_) ?_;rotate_left
  ·
   simp only[Given,List.nil_append,List.cons_append,List.getD_cons_zero,List.getD_cons_succ,Qaa,Act.put,List.setIfInBounds_toArray,List.set_cons_zero,List.set_cons_succ,Nat.reduceAdd,Nat.reduceBEq,cond_true,cond_false];intro K hK;skip;go_simp;exact hK
  refine RegG.is (c:=?_) [2] (by simp only[List.nil_append,List.cons_append,List.length_append,List.length_cons,List.length_nil,Nat.reduceAdd];exact rfl) (by simp only[List.getElem?_toArray,List.getElem?_cons_zero,List.getElem?_cons_succ];exact rfl) (by kernel_rfl) (fun w hb=>?_) ?_;rotate_left
  ·
   simp only[Given,List.nil_append,List.cons_append,List.getD_cons_zero,List.getD_cons_succ,Qaa,Act.put,List.setIfInBounds_toArray,List.set_cons_zero,List.set_cons_succ,Nat.reduceAdd,Nat.reduceBEq,cond_true,cond_false];intro K hK;skip;go_simp;exact hK
  refine RegG.is (c:=?_) [3] (by simp only[List.nil_append,List.cons_append,List.length_append,List.length_cons,List.length_nil,Nat.reduceAdd];exact rfl) (by simp only[List.getElem?_toArray,List.getElem?_cons_zero,List.getElem?_cons_succ];exact rfl) (by kernel_rfl) (fun w hb=>?_) ?_;rotate_left
  ·
   simp only[Given,List.nil_append,List.cons_append,List.getD_cons_zero,List.getD_cons_succ,Qaa,Act.put,List.setIfInBounds_toArray,List.set_cons_zero,List.set_cons_succ,Nat.reduceAdd,Nat.reduceBEq,cond_true,cond_false];intro K hK;obtain⟨g0,g1,g2,g3,g4,g5,g6⟩:=(HSK.out.below hb).cells;go_simp;exact hK
  refine RegG.step (φ:=Is (.int .i64 C)) [0,4] (by simp only[List.nil_append,List.cons_append,List.length_append,List.length_cons,List.length_nil,Nat.reduceAdd];exact rfl) (by simp only[List.getElem?_toArray,List.getElem?_cons_zero,List.getElem?_cons_succ];exact rfl) (by kernel_rfl) (Is.stays _) (fun w hb=>?_) ?_
  ·
   simp only[Given,List.nil_append,List.cons_append,List.getD_cons_zero,List.getD_cons_succ,Qaa,Act.put,List.setIfInBounds_toArray,List.set_cons_zero,List.set_cons_succ,Nat.reduceAdd,Nat.reduceBEq,cond_true,cond_false];skip;intro K hK;go_simp;exact Makes.use (HCE.out ▸ FF.compare (F9.out.below hb) ((HSK.out.below hb).least) (by omega)) hK
  refine RegG.is (c:=?_) [5] (by simp only[List.nil_append,List.cons_append,List.length_append,List.length_cons,List.length_nil,Nat.reduceAdd];exact rfl) (by simp only[List.getElem?_toArray,List.getElem?_cons_zero,List.getElem?_cons_succ];exact rfl) (by kernel_rfl) (fun w hb=>?_) ?_;rotate_left
  ·
   simp only[Given,List.nil_append,List.cons_append,List.getD_cons_zero,List.getD_cons_succ,Qaa,Act.put,List.setIfInBounds_toArray,List.set_cons_zero,List.set_cons_succ,Nat.reduceAdd,Nat.reduceBEq,cond_true,cond_false];intro K hK;skip;go_simp;exact hK
  refine RegG.fin (by rfl) (fun u4 hb=>?_);simp only[FinG,List.nil_append,List.cons_append,Qaa,Act.put,List.setIfInBounds_toArray,List.set_cons_zero,List.set_cons_succ,Nat.reduceAdd,Nat.reduceBEq,cond_true,cond_false];clear HYE HV2 HB9;by_cases hc:0<C
  ·
   have e1:decide (0<C)=true:=decide_eq_true hc;have HQ1:Hid ((⟨x1,x2,x3,nd.q / bb.q,nd.k+bb.k⟩:FE).q=cutL a.q (nd.q / bb.q)):=Hi (by
    have:=(Qbb (nd.q / bb.q) a.q).1 (by rw[HCE.out];exact hc)
    simp[cutL,if_pos this])
   have HK1:Hid ((⟨x1,x2,x3,nd.q / bb.q,nd.k+bb.k⟩:FE).k≤K+K):=Hi (by show nd.k+bb.k≤_;omega);clear hc;simp only[e1];have hx:=HSK.out.below hb;obtain⟨d0,d1,d2⟩:=cells3 (H9.out.below hb H9.out.lt);obtain⟨g0,g1,g2,g3,g4,g5,g6⟩:=hx.cells;obtain⟨o1,o2,o3⟩:=F9.out.1.one;have s1:=Qab Tryz.prog o1;have s2:=Qab Tryz.prog o2;have s3:=Qab Tryz.prog o3;clear o1 o2 o3;have f0:=hx.blk.free 0;have f1:=hx.blk.free 1;have f2:=hx.blk.free 2;obtain⟨h1,h2⟩:=hx.setL (e:=⟨x1,x2,x3,nd.q / bb.q,nd.k+bb.k⟩) (F9.out.below hb);obtain⟨X,hX⟩:∃X,((u4.setCell ⟨g,0,none⟩ x1).setCell ⟨g,1,none⟩ x2).setCell ⟨g,2,none⟩ x3=X:=⟨_,rfl⟩;rw[hX] at h1 h2;have FR:=Hi (hx.keep h2 (FRY.out.below hb));have FB:=Hi (hx.keep h2 (FBY.out.below hb));have HOW:=Hi ((HOY.out.trans (Only.of_below hb)).trans h2);obtain⟨p0,p1,p2⟩:=cells3 ((HRY.out.below hb HRY.out.lt).only h2 (by omega))
   obtain⟨q0,q1,q2⟩:=cells3 ((HBY.out.below hb HBY.out.lt).only h2 (by omega));have HSX:=Hi h1;have HXE:=Hi hX;rw[←hX] at p0 p1 p2 q0 q1 q2;obtain⟨a1,ha1⟩:∃a1:FE,(⟨x1,x2,x3,nd.q / bb.q,nd.k+bb.k⟩:FE)=a1:=⟨_,rfl⟩;rw[ha1] at HSX HQ1 HK1;clear h1 h2 hx hb hX ha1 HSK HOY HRY HBY FRY FBY F9 H9;go_wp2_with fail;rw[HXE.out];clear d0 d1 d2 g0 g1 g2 g3 g4 g5 g6 f0 f1 f2 HXE p0 p1 p2 q0 q1 q2 e1 s1 s2 s3;refine Makes.use (FF.over FR.out FB.out (by omega)) ?_;intro v10 w6 hb6 h10;obtain⟨y1,y2,y3,rfl⟩:=h10.parts;obtain⟨b9,hb9⟩:∃b9,w6.heap.size=b9:=⟨_,rfl⟩;obtain⟨V6,hV6⟩:∃V6,w6.alloc (.cells #[y1,y2,y3] 63)=V6:=⟨_,rfl⟩;have hBV:Below w6.heap.size w6 V6:=by rw[←hV6];exact(Below.refl _ _).alloc (Nat.le_refl _) _
   have HS9:Hid (SB V6 b9 63 #[y1,y2,y3]):=Hi (by rw[←hV6,←hb9];exact SB.new w6 _ _);have hbx:=hb6.trans (hBV.mono hb6.size);obtain⟨Y,hY⟩:∃Y,V6.drew=Y:=⟨_,rfl⟩;have hby:Below V6.heap.size V6 Y:=by rw[←hY];exact(Below.refl _ _).drew
   have hbz:=hbx.trans (hby.mono hbx.size);have H9:=Hi (HS9.out.below hby HS9.out.lt);have FM:=Hi ((h10.below hBV).below hby);have HSK:=Hi (HSX.out.below hbz);have HOX:=Hi (HOW.out.trans (Only.of_below hbz));obtain⟨o1,o2,o3⟩:=h10.1.one;have s1:=Qab Tryz.prog o1;have s2:=Qab Tryz.prog o2;have s3:=Qab Tryz.prog o3;clear o1 o2 o3;have HV6:=Hi hV6;have HB9:=Hi hb9;have HYE:=Hi hY;clear hb6 hV6 hb9 hBV hbx hY hby hbz h10 HS9;go_wp2_with fail;clear s1 s2 s3;rw[HV6.out];simp only[HB9.out];cases o with
   |true=>
    have HCM:Hid (mostOf ⟨y1,y2,y3,rm.q / bb.q,rm.k+bb.k⟩ false=cutM (mostOf m true) (rm.q / bb.q)):=Hi rfl;refine RegG.begin 13 (fun j=>some (38+j)) (by kernel_rfl) (by kernel_rfl) (by kernel_rfl) rfl ?_;rw[HYE.out];refine RegG.is (c:=?_) [] (by simp only[List.nil_append,List.cons_append,List.length_append,List.length_cons,List.length_nil,Nat.reduceAdd];exact rfl) (by simp only[List.getElem?_toArray,List.getElem?_cons_zero,List.getElem?_cons_succ];exact rfl) (by kernel_rfl) (fun w hb=>?_) ?_;rotate_left
    ·
     simp only[Given,List.nil_append,List.cons_append,List.getD_cons_zero,List.getD_cons_succ,Qaa,Act.put,List.setIfInBounds_toArray,List.set_cons_zero,List.set_cons_succ,Nat.reduceAdd,Nat.reduceBEq,cond_true,cond_false];intro K hK;skip;go_simp;exact hK
    refine RegG.is (c:=?_) [0] (by simp only[List.nil_append,List.cons_append,List.length_append,List.length_cons,List.length_nil,Nat.reduceAdd];exact rfl) (by simp only[List.getElem?_toArray,List.getElem?_cons_zero,List.getElem?_cons_succ];exact rfl) (by kernel_rfl) (fun w hb=>?_) ?_;rotate_left
    ·
     simp only[Given,List.nil_append,List.cons_append,List.getD_cons_zero,List.getD_cons_succ,Qaa,Act.put,List.setIfInBounds_toArray,List.set_cons_zero,List.set_cons_succ,Nat.reduceAdd,Nat.reduceBEq,cond_true,cond_false];intro K hK;skip;go_simp;exact hK
    refine RegG.is (c:=?_) [1] (by simp only[List.nil_append,List.cons_append,List.length_append,List.length_cons,List.length_nil,Nat.reduceAdd];exact rfl) (by simp only[List.getElem?_toArray,List.getElem?_cons_zero,List.getElem?_cons_succ];exact rfl) (by kernel_rfl) (fun w hb=>?_) ?_;rotate_left
    ·
     simp only[Given,List.nil_append,List.cons_append,List.getD_cons_zero,List.getD_cons_succ,Qaa,Act.put,List.setIfInBounds_toArray,List.set_cons_zero,List.set_cons_succ,Nat.reduceAdd,Nat.reduceBEq,cond_true,cond_false];intro K hK;skip;go_simp;exact hK
    refine RegG.is (c:=?_) [2] (by simp only[List.nil_append,List.cons_append,List.length_append,List.length_cons,List.length_nil,Nat.reduceAdd];exact rfl) (by simp only[List.getElem?_toArray,List.getElem?_cons_zero,List.getElem?_cons_succ];exact rfl) (by kernel_rfl) (fun w hb=>?_) ?_;rotate_left
    ·
     simp only[Given,List.nil_append,List.cons_append,List.getD_cons_zero,List.getD_cons_succ,Qaa,Act.put,List.setIfInBounds_toArray,List.set_cons_zero,List.set_cons_succ,Nat.reduceAdd,Nat.reduceBEq,cond_true,cond_false];intro K hK;obtain⟨g0,g1,g2,g3,g4,g5,g6⟩:=(HSK.out.below hb).cells;go_simp;exact hK
    refine RegG.is (c:=?_) [3] (by simp only[List.nil_append,List.cons_append,List.length_append,List.length_cons,List.length_nil,Nat.reduceAdd];exact rfl) (by simp only[List.getElem?_toArray,List.getElem?_cons_zero,List.getElem?_cons_succ];exact rfl) (by kernel_rfl) (fun w hb=>?_) ?_;rotate_left
    ·
     simp only[Given,List.nil_append,List.cons_append,List.getD_cons_zero,List.getD_cons_succ,Qaa,Act.put,List.setIfInBounds_toArray,List.set_cons_zero,List.set_cons_succ,Nat.reduceAdd,Nat.reduceBEq,cond_true,cond_false];intro K hK;skip;go_simp;exact hK
    refine RegG.is (c:=?_) [4] (by simp only[List.nil_append,List.cons_append,List.length_append,List.length_cons,List.length_nil,Nat.reduceAdd];exact rfl) (by simp only[List.getElem?_toArray,List.getElem?_cons_zero,List.getElem?_cons_succ];exact rfl) (by kernel_rfl) (fun w hb=>?_) ?_;rotate_left
    ·
     simp only[Given,List.nil_append,List.cons_append,List.getD_cons_zero,List.getD_cons_succ,Qaa,Act.put,List.setIfInBounds_toArray,List.set_cons_zero,List.set_cons_succ,Nat.reduceAdd,Nat.reduceBEq,cond_true,cond_false];intro K hK;skip;go_simp;exact hK
    refine RegG.is (c:=?_) [4] (by simp only[List.nil_append,List.cons_append,List.length_append,List.length_cons,List.length_nil,Nat.reduceAdd];exact rfl) (by simp only[List.getElem?_toArray,List.getElem?_cons_zero,List.getElem?_cons_succ];exact rfl) (by kernel_rfl) (fun w hb=>?_) ?_;rotate_left
    ·
     simp only[Given,List.nil_append,List.cons_append,List.getD_cons_zero,List.getD_cons_succ,Qaa,Act.put,List.setIfInBounds_toArray,List.set_cons_zero,List.set_cons_succ,Nat.reduceAdd,Nat.reduceBEq,cond_true,cond_false];intro K hK;skip;go_simp;exact hK
    refine RegG.is (c:=?_) [4,6] (by simp only[List.nil_append,List.cons_append,List.length_append,List.length_cons,List.length_nil,Nat.reduceAdd];exact rfl) (by simp only[List.getElem?_toArray,List.getElem?_cons_zero,List.getElem?_cons_succ];exact rfl) (by kernel_rfl) (fun w hb=>?_) ?_;rotate_left
    ·
     simp only[Given,List.nil_append,List.cons_append,List.getD_cons_zero,List.getD_cons_succ,Qaa,Act.put,List.setIfInBounds_toArray,List.set_cons_zero,List.set_cons_succ,Nat.reduceAdd,Nat.reduceBEq,cond_true,cond_false];intro K hK;skip;go_simp;exact hK
    refine RegG.is (c:=?_) [4,7] (by simp only[List.nil_append,List.cons_append,List.length_append,List.length_cons,List.length_nil,Nat.reduceAdd];exact rfl) (by simp only[List.getElem?_toArray,List.getElem?_cons_zero,List.getElem?_cons_succ];exact rfl) (by kernel_rfl) (fun w hb=>?_) ?_;rotate_left
    ·
     simp only[Given,List.nil_append,List.cons_append,List.getD_cons_zero,List.getD_cons_succ,Qaa,Act.put,List.setIfInBounds_toArray,List.set_cons_zero,List.set_cons_succ,Nat.reduceAdd,Nat.reduceBEq,cond_true,cond_false];intro K hK;skip;go_simp;exact hK
    refine RegG.is (c:=?_) [4,8] (by simp only[List.nil_append,List.cons_append,List.length_append,List.length_cons,List.length_nil,Nat.reduceAdd];exact rfl) (by simp only[List.getElem?_toArray,List.getElem?_cons_zero,List.getElem?_cons_succ];exact rfl) (by kernel_rfl) (fun w hb=>?_) ?_;rotate_left
    ·
     simp only[Given,List.nil_append,List.cons_append,List.getD_cons_zero,List.getD_cons_succ,Qaa,Act.put,List.setIfInBounds_toArray,List.set_cons_zero,List.set_cons_succ,Nat.reduceAdd,Nat.reduceBEq,cond_true,cond_false];intro K hK;skip;go_simp;exact hK
    refine RegG.is (c:=?_) [4,5,9] (by simp only[List.nil_append,List.cons_append,List.length_append,List.length_cons,List.length_nil,Nat.reduceAdd];exact rfl) (by simp only[List.getElem?_toArray,List.getElem?_cons_zero,List.getElem?_cons_succ];exact rfl) (by kernel_rfl) (fun w hb=>?_) ?_;rotate_left
    ·
     simp only[Given,List.nil_append,List.cons_append,List.getD_cons_zero,List.getD_cons_succ,Qaa,Act.put,List.setIfInBounds_toArray,List.set_cons_zero,List.set_cons_succ,Nat.reduceAdd,Nat.reduceBEq,cond_true,cond_false];intro K hK;skip;go_simp;exact hK
    refine RegG.is (c:=?_) [4,10] (by simp only[List.nil_append,List.cons_append,List.length_append,List.length_cons,List.length_nil,Nat.reduceAdd];exact rfl) (by simp only[List.getElem?_toArray,List.getElem?_cons_zero,List.getElem?_cons_succ];exact rfl) (by kernel_rfl) (fun w hb=>?_) ?_;rotate_left
    ·
     simp only[Given,List.nil_append,List.cons_append,List.getD_cons_zero,List.getD_cons_succ,Qaa,Act.put,List.setIfInBounds_toArray,List.set_cons_zero,List.set_cons_succ,Nat.reduceAdd,Nat.reduceBEq,cond_true,cond_false];intro K hK;skip;go_simp;exact hK
    refine RegG.is (c:=?_) [4,11] (by simp only[List.nil_append,List.cons_append,List.length_append,List.length_cons,List.length_nil,Nat.reduceAdd];exact rfl) (by simp only[List.getElem?_toArray,List.getElem?_cons_zero,List.getElem?_cons_succ];exact rfl) (by kernel_rfl) (fun w hb=>?_) ?_;rotate_left
    ·
     simp only[Given,List.nil_append,List.cons_append,List.getD_cons_zero,List.getD_cons_succ,Qaa,Act.put,List.setIfInBounds_toArray,List.set_cons_zero,List.set_cons_succ,Nat.reduceAdd,Nat.reduceBEq,cond_true,cond_false];intro K hK;skip;go_simp;exact hK
    refine RegG.fin (by rfl) (fun u7 hb=>?_);simp only[FinG,List.nil_append,List.cons_append,Qaa,Act.put,List.setIfInBounds_toArray,List.set_cons_zero,List.set_cons_succ,Nat.reduceAdd,Nat.reduceBEq,cond_true,cond_false];have hx:=HSK.out.below hb;obtain⟨d0,d1,d2⟩:=cells3 (H9.out.below hb H9.out.lt);obtain⟨g0,g1,g2,g3,g4,g5,g6⟩:=hx.cells;obtain⟨o1,o2,o3⟩:=FM.out.1.one;have s1:=Qab Tryz.prog o1;have s2:=Qab Tryz.prog o2;have s3:=Qab Tryz.prog o3;clear o1 o2 o3;have f3:=hx.blk.free 3;have f4:=hx.blk.free 4;have f5:=hx.blk.free 5;have f6:=hx.blk.free 6;obtain⟨h1,h2⟩:=hx.setM (e:=⟨y1,y2,y3,rm.q / bb.q,rm.k+bb.k⟩) (FM.out.below hb);have HS1:=Hi h1;have HO1:=Hi ((HOX.out.trans (Only.of_below hb)).trans h2);clear h1 h2 hx hb;go_wp2;go_ret;exact⟨HO1.out,a1,⟨y1,y2,y3,rm.q / bb.q,rm.k+bb.k⟩,false,HS1.out,HK1.out,by show rm.k+bb.k≤_;omega,Or.inr ⟨HBZ.out,rfl,HQ1.out,HCM.out⟩⟩
   |false=>
    obtain⟨C,hC⟩:∃C,cmpQ (rm.q / bb.q) m.q=C:=⟨_,rfl⟩;have HCE:=Hi hC;clear hC;refine RegG.begin 13 (fun j=>some (38+j)) (by kernel_rfl) (by kernel_rfl) (by kernel_rfl) rfl ?_;rw[HYE.out];refine RegG.is (c:=?_) [] (by simp only[List.nil_append,List.cons_append,List.length_append,List.length_cons,List.length_nil,Nat.reduceAdd];exact rfl) (by simp only[List.getElem?_toArray,List.getElem?_cons_zero,List.getElem?_cons_succ];exact rfl) (by kernel_rfl) (fun w hb=>?_) ?_;rotate_left
    ·
     simp only[Given,List.nil_append,List.cons_append,List.getD_cons_zero,List.getD_cons_succ,Qaa,Act.put,List.setIfInBounds_toArray,List.set_cons_zero,List.set_cons_succ,Nat.reduceAdd,Nat.reduceBEq,cond_true,cond_false];intro K hK;skip;go_simp;exact hK
    refine RegG.is (c:=?_) [0] (by simp only[List.nil_append,List.cons_append,List.length_append,List.length_cons,List.length_nil,Nat.reduceAdd];exact rfl) (by simp only[List.getElem?_toArray,List.getElem?_cons_zero,List.getElem?_cons_succ];exact rfl) (by kernel_rfl) (fun w hb=>?_) ?_;rotate_left
    ·
     simp only[Given,List.nil_append,List.cons_append,List.getD_cons_zero,List.getD_cons_succ,Qaa,Act.put,List.setIfInBounds_toArray,List.set_cons_zero,List.set_cons_succ,Nat.reduceAdd,Nat.reduceBEq,cond_true,cond_false];intro K hK;skip;go_simp;exact hK
    refine RegG.is (c:=?_) [1] (by simp only[List.nil_append,List.cons_append,List.length_append,List.length_cons,List.length_nil,Nat.reduceAdd];exact rfl) (by simp only[List.getElem?_toArray,List.getElem?_cons_zero,List.getElem?_cons_succ];exact rfl) (by kernel_rfl) (fun w hb=>?_) ?_;rotate_left
    ·
     simp only[Given,List.nil_append,List.cons_append,List.getD_cons_zero,List.getD_cons_succ,Qaa,Act.put,List.setIfInBounds_toArray,List.set_cons_zero,List.set_cons_succ,Nat.reduceAdd,Nat.reduceBEq,cond_true,cond_false];intro K hK;skip;go_simp;exact hK
    refine RegG.is (c:=?_) [2] (by simp only[List.nil_append,List.cons_append,List.length_append,List.length_cons,List.length_nil,Nat.reduceAdd];exact rfl) (by simp only[List.getElem?_toArray,List.getElem?_cons_zero,List.getElem?_cons_succ];exact rfl) (by kernel_rfl) (fun w hb=>?_) ?_;rotate_left
    ·
     simp only[Given,List.nil_append,List.cons_append,List.getD_cons_zero,List.getD_cons_succ,Qaa,Act.put,List.setIfInBounds_toArray,List.set_cons_zero,List.set_cons_succ,Nat.reduceAdd,Nat.reduceBEq,cond_true,cond_false];intro K hK;obtain⟨g0,g1,g2,g3,g4,g5,g6⟩:=(HSK.out.below hb).cells;go_simp;exact hK
    refine RegG.is (c:=?_) [3] (by simp only[List.nil_append,List.cons_append,List.length_append,List.length_cons,List.length_nil,Nat.reduceAdd];exact rfl) (by simp only[List.getElem?_toArray,List.getElem?_cons_zero,List.getElem?_cons_succ];exact rfl) (by kernel_rfl) (fun w hb=>?_) ?_;rotate_left
    ·
     simp only[Given,List.nil_append,List.cons_append,List.getD_cons_zero,List.getD_cons_succ,Qaa,Act.put,List.setIfInBounds_toArray,List.set_cons_zero,List.set_cons_succ,Nat.reduceAdd,Nat.reduceBEq,cond_true,cond_false];intro K hK;skip;go_simp;exact hK
    refine RegG.is (c:=?_) [4] (by simp only[List.nil_append,List.cons_append,List.length_append,List.length_cons,List.length_nil,Nat.reduceAdd];exact rfl) (by simp only[List.getElem?_toArray,List.getElem?_cons_zero,List.getElem?_cons_succ];exact rfl) (by kernel_rfl) (fun w hb=>?_) ?_;rotate_left
    ·
     simp only[Given,List.nil_append,List.cons_append,List.getD_cons_zero,List.getD_cons_succ,Qaa,Act.put,List.setIfInBounds_toArray,List.set_cons_zero,List.set_cons_succ,Nat.reduceAdd,Nat.reduceBEq,cond_true,cond_false];intro K hK;obtain⟨p0,p1,p2⟩:=cells3 (H9.out.below hb H9.out.lt);go_simp;exact hK
    refine RegG.is (c:=?_) [4] (by simp only[List.nil_append,List.cons_append,List.length_append,List.length_cons,List.length_nil,Nat.reduceAdd];exact rfl) (by simp only[List.getElem?_toArray,List.getElem?_cons_zero,List.getElem?_cons_succ];exact rfl) (by kernel_rfl) (fun w hb=>?_) ?_;rotate_left
    ·
     simp only[Given,List.nil_append,List.cons_append,List.getD_cons_zero,List.getD_cons_succ,Qaa,Act.put,List.setIfInBounds_toArray,List.set_cons_zero,List.set_cons_succ,Nat.reduceAdd,Nat.reduceBEq,cond_true,cond_false];intro K hK;skip;go_simp;exact hK
    refine RegG.is (c:=?_) [4,6] (by simp only[List.nil_append,List.cons_append,List.length_append,List.length_cons,List.length_nil,Nat.reduceAdd];exact rfl) (by simp only[List.getElem?_toArray,List.getElem?_cons_zero,List.getElem?_cons_succ];exact rfl) (by kernel_rfl) (fun w hb=>?_) ?_;rotate_left
    ·
     simp only[Given,List.nil_append,List.cons_append,List.getD_cons_zero,List.getD_cons_succ,Qaa,Act.put,List.setIfInBounds_toArray,List.set_cons_zero,List.set_cons_succ,Nat.reduceAdd,Nat.reduceBEq,cond_true,cond_false];intro K hK;skip;go_simp;exact hK
    refine RegG.is (c:=?_) [4,7] (by simp only[List.nil_append,List.cons_append,List.length_append,List.length_cons,List.length_nil,Nat.reduceAdd];exact rfl) (by simp only[List.getElem?_toArray,List.getElem?_cons_zero,List.getElem?_cons_succ];exact rfl) (by kernel_rfl) (fun w hb=>?_) ?_;rotate_left
    ·
     simp only[Given,List.nil_append,List.cons_append,List.getD_cons_zero,List.getD_cons_succ,Qaa,Act.put,List.setIfInBounds_toArray,List.set_cons_zero,List.set_cons_succ,Nat.reduceAdd,Nat.reduceBEq,cond_true,cond_false];intro K hK;skip;go_simp;exact hK
    refine RegG.is (c:=?_) [4,8] (by simp only[List.nil_append,List.cons_append,List.length_append,List.length_cons,List.length_nil,Nat.reduceAdd];exact rfl) (by simp only[List.getElem?_toArray,List.getElem?_cons_zero,List.getElem?_cons_succ];exact rfl) (by kernel_rfl) (fun w hb=>?_) ?_;rotate_left
    ·
     simp only[Given,List.nil_append,List.cons_append,List.getD_cons_zero,List.getD_cons_succ,Qaa,Act.put,List.setIfInBounds_toArray,List.set_cons_zero,List.set_cons_succ,Nat.reduceAdd,Nat.reduceBEq,cond_true,cond_false];intro K hK;obtain⟨g0,g1,g2,g3,g4,g5,g6⟩:=(HSK.out.below hb).cells;go_simp;exact hK
    refine RegG.step (φ:=Is (.int .i64 C)) [4,5,9] (by simp only[List.nil_append,List.cons_append,List.length_append,List.length_cons,List.length_nil,Nat.reduceAdd];exact rfl) (by simp only[List.getElem?_toArray,List.getElem?_cons_zero,List.getElem?_cons_succ];exact rfl) (by kernel_rfl) (Is.stays _) (fun w hb=>?_) ?_
    ·
     simp only[Given,List.nil_append,List.cons_append,List.getD_cons_zero,List.getD_cons_succ,Qaa,Act.put,List.setIfInBounds_toArray,List.set_cons_zero,List.set_cons_succ,Nat.reduceAdd,Nat.reduceBEq,cond_true,cond_false];skip;intro K hK;go_simp;exact Makes.use (HCE.out ▸ FF.compare (FM.out.below hb) ((HSK.out.below hb).most) (by omega)) hK
    refine RegG.is (c:=?_) [4,10] (by simp only[List.nil_append,List.cons_append,List.length_append,List.length_cons,List.length_nil,Nat.reduceAdd];exact rfl) (by simp only[List.getElem?_toArray,List.getElem?_cons_zero,List.getElem?_cons_succ];exact rfl) (by kernel_rfl) (fun w hb=>?_) ?_;rotate_left
    ·
     simp only[Given,List.nil_append,List.cons_append,List.getD_cons_zero,List.getD_cons_succ,Qaa,Act.put,List.setIfInBounds_toArray,List.set_cons_zero,List.set_cons_succ,Nat.reduceAdd,Nat.reduceBEq,cond_true,cond_false];intro K hK;skip;go_simp;exact hK
    refine RegG.is (c:=?_) [4,11] (by simp only[List.nil_append,List.cons_append,List.length_append,List.length_cons,List.length_nil,Nat.reduceAdd];exact rfl) (by simp only[List.getElem?_toArray,List.getElem?_cons_zero,List.getElem?_cons_succ];exact rfl) (by kernel_rfl) (fun w hb=>?_) ?_;rotate_left
    ·
     simp only[Given,List.nil_append,List.cons_append,List.getD_cons_zero,List.getD_cons_succ,Qaa,Act.put,List.setIfInBounds_toArray,List.set_cons_zero,List.set_cons_succ,Nat.reduceAdd,Nat.reduceBEq,cond_true,cond_false];intro K hK;skip;go_simp;exact hK
    refine RegG.fin (by rfl) (fun u7 hb=>?_);simp only[FinG,List.nil_append,List.cons_append,Qaa,Act.put,List.setIfInBounds_toArray,List.set_cons_zero,List.set_cons_succ,Nat.reduceAdd,Nat.reduceBEq,cond_true,cond_false];by_cases hc:C<0
    ·
     have e1:decide (C<0)=true:=decide_eq_true hc;have HCM:Hid (mostOf ⟨y1,y2,y3,rm.q / bb.q,rm.k+bb.k⟩ false=cutM (mostOf m false) (rm.q / bb.q)):=Hi (by
      have:=(Qbv (rm.q / bb.q) m.q).1 (by rw[HCE.out];exact hc)
      simp[mostOf,cutM,if_pos this])
     clear hc;simp only[e1];have hx:=HSK.out.below hb;obtain⟨d0,d1,d2⟩:=cells3 (H9.out.below hb H9.out.lt);obtain⟨g0,g1,g2,g3,g4,g5,g6⟩:=hx.cells;obtain⟨o1,o2,o3⟩:=FM.out.1.one;have s1:=Qab Tryz.prog o1;have s2:=Qab Tryz.prog o2;have s3:=Qab Tryz.prog o3;clear o1 o2 o3;have f3:=hx.blk.free 3;have f4:=hx.blk.free 4;have f5:=hx.blk.free 5;have f6:=hx.blk.free 6;obtain⟨h1,h2⟩:=hx.setM (e:=⟨y1,y2,y3,rm.q / bb.q,rm.k+bb.k⟩) (FM.out.below hb);have HS1:=Hi h1;have HO1:=Hi ((HOX.out.trans (Only.of_below hb)).trans h2);clear h1 h2 hx hb;go_wp2;go_ret;exact⟨HO1.out,a1,⟨y1,y2,y3,rm.q / bb.q,rm.k+bb.k⟩,false,HS1.out,HK1.out,by show rm.k+bb.k≤_;omega,Or.inr ⟨HBZ.out,rfl,HQ1.out,HCM.out⟩⟩
    ·
     have e1:decide (C<0)=false:=decide_eq_false hc;have HCM:Hid (mostOf m false=cutM (mostOf m false) (rm.q / bb.q)):=Hi (by
      have:¬(rm.q / bb.q)<m.q:=fun h=>hc (by rw[←HCE.out];exact(Qbv _ _).2 h)
      simp[mostOf,cutM,if_neg this])
     have HS1:=Hi (HSK.out.below hb);have HO1:=Hi (HOX.out.trans (Only.of_below hb));clear hc hb;simp only[e1];go_wp2;go_ret;exact⟨HO1.out,a1,m,false,HS1.out,HK1.out,by omega,Or.inr ⟨HBZ.out,rfl,HQ1.out,HCM.out⟩⟩
  ·
   have e1:decide (0<C)=false:=decide_eq_false hc;obtain⟨a1,ha1⟩:∃a1:FE,a=a1:=⟨_,rfl⟩;have HQ1:Hid (a1.q=cutL a.q (nd.q / bb.q)):=Hi (by
    have:¬a.q<(nd.q / bb.q):=fun h=>hc (by rw[←HCE.out];exact(Qbb _ _).2 h)
    rw[←ha1]
    simp[cutL,if_neg this])
   have HK1:Hid (a1.k≤K+K):=Hi (by rw[←ha1];exact ka);have HSX:=Hi (HSK.out.below hb);rw[ha1] at HSX;have FR:=Hi (FRY.out.below hb);have FB:=Hi (FBY.out.below hb);have HOW:=Hi (HOY.out.trans (Only.of_below hb));obtain⟨p0,p1,p2⟩:=cells3 (HRY.out.below hb HRY.out.lt);obtain⟨q0,q1,q2⟩:=cells3 (HBY.out.below hb HBY.out.lt);clear hc ha1 hb HSK HOY HRY HBY FRY FBY F9 H9;simp only[e1];go_wp2_with fail;clear p0 p1 p2 q0 q1 q2 e1;refine Makes.use (FF.over FR.out FB.out (by omega)) ?_;intro v10 w6 hb6 h10;obtain⟨y1,y2,y3,rfl⟩:=h10.parts;obtain⟨b9,hb9⟩:∃b9,w6.heap.size=b9:=⟨_,rfl⟩;obtain⟨V6,hV6⟩:∃V6,w6.alloc (.cells #[y1,y2,y3] 63)=V6:=⟨_,rfl⟩;have hBV:Below w6.heap.size w6 V6:=by rw[←hV6];exact(Below.refl _ _).alloc (Nat.le_refl _) _
   have HS9:Hid (SB V6 b9 63 #[y1,y2,y3]):=Hi (by rw[←hV6,←hb9];exact SB.new w6 _ _);have hbx:=hb6.trans (hBV.mono hb6.size);obtain⟨Y,hY⟩:∃Y,V6.drew=Y:=⟨_,rfl⟩;have hby:Below V6.heap.size V6 Y:=by rw[←hY];exact(Below.refl _ _).drew
   have hbz:=hbx.trans (hby.mono hbx.size);have H9:=Hi (HS9.out.below hby HS9.out.lt);have FM:=Hi ((h10.below hBV).below hby);have HSK:=Hi (HSX.out.below hbz);have HOX:=Hi (HOW.out.trans (Only.of_below hbz));obtain⟨o1,o2,o3⟩:=h10.1.one;have s1:=Qab Tryz.prog o1;have s2:=Qab Tryz.prog o2;have s3:=Qab Tryz.prog o3;clear o1 o2 o3;have HV6:=Hi hV6;have HB9:=Hi hb9;have HYE:=Hi hY;clear hb6 hV6 hb9 hBV hbx hY hby hbz h10 HS9;go_wp2_with fail;clear s1 s2 s3;rw[HV6.out];simp only[HB9.out];cases o with
   |true=>
    have HCM:Hid (mostOf ⟨y1,y2,y3,rm.q / bb.q,rm.k+bb.k⟩ false=cutM (mostOf m true) (rm.q / bb.q)):=Hi rfl;refine RegG.begin 13 (fun j=>some (38+j)) (by kernel_rfl) (by kernel_rfl) (by kernel_rfl) rfl ?_;rw[HYE.out];refine RegG.is (c:=?_) [] (by simp only[List.nil_append,List.cons_append,List.length_append,List.length_cons,List.length_nil,Nat.reduceAdd];exact rfl) (by simp only[List.getElem?_toArray,List.getElem?_cons_zero,List.getElem?_cons_succ];exact rfl) (by kernel_rfl) (fun w hb=>?_) ?_;rotate_left
    ·
     simp only[Given,List.nil_append,List.cons_append,List.getD_cons_zero,List.getD_cons_succ,Qaa,Act.put,List.setIfInBounds_toArray,List.set_cons_zero,List.set_cons_succ,Nat.reduceAdd,Nat.reduceBEq,cond_true,cond_false];intro K hK;skip;go_simp;exact hK
    refine RegG.is (c:=?_) [0] (by simp only[List.nil_append,List.cons_append,List.length_append,List.length_cons,List.length_nil,Nat.reduceAdd];exact rfl) (by simp only[List.getElem?_toArray,List.getElem?_cons_zero,List.getElem?_cons_succ];exact rfl) (by kernel_rfl) (fun w hb=>?_) ?_;rotate_left
    ·
     simp only[Given,List.nil_append,List.cons_append,List.getD_cons_zero,List.getD_cons_succ,Qaa,Act.put,List.setIfInBounds_toArray,List.set_cons_zero,List.set_cons_succ,Nat.reduceAdd,Nat.reduceBEq,cond_true,cond_false];intro K hK;skip;go_simp;exact hK
    refine RegG.is (c:=?_) [1] (by simp only[List.nil_append,List.cons_append,List.length_append,List.length_cons,List.length_nil,Nat.reduceAdd];exact rfl) (by simp only[List.getElem?_toArray,List.getElem?_cons_zero,List.getElem?_cons_succ];exact rfl) (by kernel_rfl) (fun w hb=>?_) ?_;rotate_left
    ·
     simp only[Given,List.nil_append,List.cons_append,List.getD_cons_zero,List.getD_cons_succ,Qaa,Act.put,List.setIfInBounds_toArray,List.set_cons_zero,List.set_cons_succ,Nat.reduceAdd,Nat.reduceBEq,cond_true,cond_false];intro K hK;skip;go_simp;exact hK
    refine RegG.is (c:=?_) [2] (by simp only[List.nil_append,List.cons_append,List.length_append,List.length_cons,List.length_nil,Nat.reduceAdd];exact rfl) (by simp only[List.getElem?_toArray,List.getElem?_cons_zero,List.getElem?_cons_succ];exact rfl) (by kernel_rfl) (fun w hb=>?_) ?_;rotate_left
    ·
     simp only[Given,List.nil_append,List.cons_append,List.getD_cons_zero,List.getD_cons_succ,Qaa,Act.put,List.setIfInBounds_toArray,List.set_cons_zero,List.set_cons_succ,Nat.reduceAdd,Nat.reduceBEq,cond_true,cond_false];intro K hK;obtain⟨g0,g1,g2,g3,g4,g5,g6⟩:=(HSK.out.below hb).cells;go_simp;exact hK
    refine RegG.is (c:=?_) [3] (by simp only[List.nil_append,List.cons_append,List.length_append,List.length_cons,List.length_nil,Nat.reduceAdd];exact rfl) (by simp only[List.getElem?_toArray,List.getElem?_cons_zero,List.getElem?_cons_succ];exact rfl) (by kernel_rfl) (fun w hb=>?_) ?_;rotate_left
    ·
     simp only[Given,List.nil_append,List.cons_append,List.getD_cons_zero,List.getD_cons_succ,Qaa,Act.put,List.setIfInBounds_toArray,List.set_cons_zero,List.set_cons_succ,Nat.reduceAdd,Nat.reduceBEq,cond_true,cond_false];intro K hK;skip;go_simp;exact hK
    refine RegG.is (c:=?_) [4] (by simp only[List.nil_append,List.cons_append,List.length_append,List.length_cons,List.length_nil,Nat.reduceAdd];exact rfl) (by simp only[List.getElem?_toArray,List.getElem?_cons_zero,List.getElem?_cons_succ];exact rfl) (by kernel_rfl) (fun w hb=>?_) ?_;rotate_left
    ·
     simp only[Given,List.nil_append,List.cons_append,List.getD_cons_zero,List.getD_cons_succ,Qaa,Act.put,List.setIfInBounds_toArray,List.set_cons_zero,List.set_cons_succ,Nat.reduceAdd,Nat.reduceBEq,cond_true,cond_false];intro K hK;skip;go_simp;exact hK
    refine RegG.is (c:=?_) [4] (by simp only[List.nil_append,List.cons_append,List.length_append,List.length_cons,List.length_nil,Nat.reduceAdd];exact rfl) (by simp only[List.getElem?_toArray,List.getElem?_cons_zero,List.getElem?_cons_succ];exact rfl) (by kernel_rfl) (fun w hb=>?_) ?_;rotate_left
    ·
     simp only[Given,List.nil_append,List.cons_append,List.getD_cons_zero,List.getD_cons_succ,Qaa,Act.put,List.setIfInBounds_toArray,List.set_cons_zero,List.set_cons_succ,Nat.reduceAdd,Nat.reduceBEq,cond_true,cond_false];intro K hK;skip;go_simp;exact hK
    refine RegG.is (c:=?_) [4,6] (by simp only[List.nil_append,List.cons_append,List.length_append,List.length_cons,List.length_nil,Nat.reduceAdd];exact rfl) (by simp only[List.getElem?_toArray,List.getElem?_cons_zero,List.getElem?_cons_succ];exact rfl) (by kernel_rfl) (fun w hb=>?_) ?_;rotate_left
    ·
     simp only[Given,List.nil_append,List.cons_append,List.getD_cons_zero,List.getD_cons_succ,Qaa,Act.put,List.setIfInBounds_toArray,List.set_cons_zero,List.set_cons_succ,Nat.reduceAdd,Nat.reduceBEq,cond_true,cond_false];intro K hK;skip;go_simp;exact hK
    refine RegG.is (c:=?_) [4,7] (by simp only[List.nil_append,List.cons_append,List.length_append,List.length_cons,List.length_nil,Nat.reduceAdd];exact rfl) (by simp only[List.getElem?_toArray,List.getElem?_cons_zero,List.getElem?_cons_succ];exact rfl) (by kernel_rfl) (fun w hb=>?_) ?_;rotate_left
    ·
     simp only[Given,List.nil_append,List.cons_append,List.getD_cons_zero,List.getD_cons_succ,Qaa,Act.put,List.setIfInBounds_toArray,List.set_cons_zero,List.set_cons_succ,Nat.reduceAdd,Nat.reduceBEq,cond_true,cond_false];intro K hK;skip;go_simp;exact hK
    refine RegG.is (c:=?_) [4,8] (by simp only[List.nil_append,List.cons_append,List.length_append,List.length_cons,List.length_nil,Nat.reduceAdd];exact rfl) (by simp only[List.getElem?_toArray,List.getElem?_cons_zero,List.getElem?_cons_succ];exact rfl) (by kernel_rfl) (fun w hb=>?_) ?_;rotate_left
    ·
     simp only[Given,List.nil_append,List.cons_append,List.getD_cons_zero,List.getD_cons_succ,Qaa,Act.put,List.setIfInBounds_toArray,List.set_cons_zero,List.set_cons_succ,Nat.reduceAdd,Nat.reduceBEq,cond_true,cond_false];intro K hK;skip;go_simp;exact hK
    refine RegG.is (c:=?_) [4,5,9] (by simp only[List.nil_append,List.cons_append,List.length_append,List.length_cons,List.length_nil,Nat.reduceAdd];exact rfl) (by simp only[List.getElem?_toArray,List.getElem?_cons_zero,List.getElem?_cons_succ];exact rfl) (by kernel_rfl) (fun w hb=>?_) ?_;rotate_left
    ·
     simp only[Given,List.nil_append,List.cons_append,List.getD_cons_zero,List.getD_cons_succ,Qaa,Act.put,List.setIfInBounds_toArray,List.set_cons_zero,List.set_cons_succ,Nat.reduceAdd,Nat.reduceBEq,cond_true,cond_false];intro K hK;skip;go_simp;exact hK
    refine RegG.is (c:=?_) [4,10] (by simp only[List.nil_append,List.cons_append,List.length_append,List.length_cons,List.length_nil,Nat.reduceAdd];exact rfl) (by simp only[List.getElem?_toArray,List.getElem?_cons_zero,List.getElem?_cons_succ];exact rfl) (by kernel_rfl) (fun w hb=>?_) ?_;rotate_left
    ·
     simp only[Given,List.nil_append,List.cons_append,List.getD_cons_zero,List.getD_cons_succ,Qaa,Act.put,List.setIfInBounds_toArray,List.set_cons_zero,List.set_cons_succ,Nat.reduceAdd,Nat.reduceBEq,cond_true,cond_false];intro K hK;skip;go_simp;exact hK
    refine RegG.is (c:=?_) [4,11] (by simp only[List.nil_append,List.cons_append,List.length_append,List.length_cons,List.length_nil,Nat.reduceAdd];exact rfl) (by simp only[List.getElem?_toArray,List.getElem?_cons_zero,List.getElem?_cons_succ];exact rfl) (by kernel_rfl) (fun w hb=>?_) ?_;rotate_left
    ·
     simp only[Given,List.nil_append,List.cons_append,List.getD_cons_zero,List.getD_cons_succ,Qaa,Act.put,List.setIfInBounds_toArray,List.set_cons_zero,List.set_cons_succ,Nat.reduceAdd,Nat.reduceBEq,cond_true,cond_false];intro K hK;skip;go_simp;exact hK
    refine RegG.fin (by rfl) (fun u7 hb=>?_);simp only[FinG,List.nil_append,List.cons_append,Qaa,Act.put,List.setIfInBounds_toArray,List.set_cons_zero,List.set_cons_succ,Nat.reduceAdd,Nat.reduceBEq,cond_true,cond_false];have hx:=HSK.out.below hb;obtain⟨d0,d1,d2⟩:=cells3 (H9.out.below hb H9.out.lt);obtain⟨g0,g1,g2,g3,g4,g5,g6⟩:=hx.cells;obtain⟨o1,o2,o3⟩:=FM.out.1.one;have s1:=Qab Tryz.prog o1;have s2:=Qab Tryz.prog o2;have s3:=Qab Tryz.prog o3;clear o1 o2 o3;have f3:=hx.blk.free 3;have f4:=hx.blk.free 4;have f5:=hx.blk.free 5;have f6:=hx.blk.free 6;obtain⟨h1,h2⟩:=hx.setM (e:=⟨y1,y2,y3,rm.q / bb.q,rm.k+bb.k⟩) (FM.out.below hb);have HS1:=Hi h1;have HO1:=Hi ((HOX.out.trans (Only.of_below hb)).trans h2);clear h1 h2 hx hb;go_wp2;go_ret;exact⟨HO1.out,a1,⟨y1,y2,y3,rm.q / bb.q,rm.k+bb.k⟩,false,HS1.out,HK1.out,by show rm.k+bb.k≤_;omega,Or.inr ⟨HBZ.out,rfl,HQ1.out,HCM.out⟩⟩
   |false=>
    obtain⟨C,hC⟩:∃C,cmpQ (rm.q / bb.q) m.q=C:=⟨_,rfl⟩;have HCE:=Hi hC;clear hC;refine RegG.begin 13 (fun j=>some (38+j)) (by kernel_rfl) (by kernel_rfl) (by kernel_rfl) rfl ?_;rw[HYE.out];refine RegG.is (c:=?_) [] (by simp only[List.nil_append,List.cons_append,List.length_append,List.length_cons,List.length_nil,Nat.reduceAdd];exact rfl) (by simp only[List.getElem?_toArray,List.getElem?_cons_zero,List.getElem?_cons_succ];exact rfl) (by kernel_rfl) (fun w hb=>?_) ?_;rotate_left
    ·
     simp only[Given,List.nil_append,List.cons_append,List.getD_cons_zero,List.getD_cons_succ,Qaa,Act.put,List.setIfInBounds_toArray,List.set_cons_zero,List.set_cons_succ,Nat.reduceAdd,Nat.reduceBEq,cond_true,cond_false];intro K hK;skip;go_simp;exact hK
    refine RegG.is (c:=?_) [0] (by simp only[List.nil_append,List.cons_append,List.length_append,List.length_cons,List.length_nil,Nat.reduceAdd];exact rfl) (by simp only[List.getElem?_toArray,List.getElem?_cons_zero,List.getElem?_cons_succ];exact rfl) (by kernel_rfl) (fun w hb=>?_) ?_;rotate_left
    ·
     simp only[Given,List.nil_append,List.cons_append,List.getD_cons_zero,List.getD_cons_succ,Qaa,Act.put,List.setIfInBounds_toArray,List.set_cons_zero,List.set_cons_succ,Nat.reduceAdd,Nat.reduceBEq,cond_true,cond_false];intro K hK;skip;go_simp;exact hK
    refine RegG.is (c:=?_) [1] (by simp only[List.nil_append,List.cons_append,List.length_append,List.length_cons,List.length_nil,Nat.reduceAdd];exact rfl) (by simp only[List.getElem?_toArray,List.getElem?_cons_zero,List.getElem?_cons_succ];exact rfl) (by kernel_rfl) (fun w hb=>?_) ?_;rotate_left
    ·
     simp only[Given,List.nil_append,List.cons_append,List.getD_cons_zero,List.getD_cons_succ,Qaa,Act.put,List.setIfInBounds_toArray,List.set_cons_zero,List.set_cons_succ,Nat.reduceAdd,Nat.reduceBEq,cond_true,cond_false];intro K hK;skip;go_simp;exact hK
    refine RegG.is (c:=?_) [2] (by simp only[List.nil_append,List.cons_append,List.length_append,List.length_cons,List.length_nil,Nat.reduceAdd];exact rfl) (by simp only[List.getElem?_toArray,List.getElem?_cons_zero,List.getElem?_cons_succ];exact rfl) (by kernel_rfl) (fun w hb=>?_) ?_;rotate_left
    ·
     simp only[Given,List.nil_append,List.cons_append,List.getD_cons_zero,List.getD_cons_succ,Qaa,Act.put,List.setIfInBounds_toArray,List.set_cons_zero,List.set_cons_succ,Nat.reduceAdd,Nat.reduceBEq,cond_true,cond_false];intro K hK;obtain⟨g0,g1,g2,g3,g4,g5,g6⟩:=(HSK.out.below hb).cells;go_simp;exact hK
    refine RegG.is (c:=?_) [3] (by simp only[List.nil_append,List.cons_append,List.length_append,List.length_cons,List.length_nil,Nat.reduceAdd];exact rfl) (by simp only[List.getElem?_toArray,List.getElem?_cons_zero,List.getElem?_cons_succ];exact rfl) (by kernel_rfl) (fun w hb=>?_) ?_;rotate_left
    ·
     simp only[Given,List.nil_append,List.cons_append,List.getD_cons_zero,List.getD_cons_succ,Qaa,Act.put,List.setIfInBounds_toArray,List.set_cons_zero,List.set_cons_succ,Nat.reduceAdd,Nat.reduceBEq,cond_true,cond_false];intro K hK;skip;go_simp;exact hK
    refine RegG.is (c:=?_) [4] (by simp only[List.nil_append,List.cons_append,List.length_append,List.length_cons,List.length_nil,Nat.reduceAdd];exact rfl) (by simp only[List.getElem?_toArray,List.getElem?_cons_zero,List.getElem?_cons_succ];exact rfl) (by kernel_rfl) (fun w hb=>?_) ?_;rotate_left
    ·
     simp only[Given,List.nil_append,List.cons_append,List.getD_cons_zero,List.getD_cons_succ,Qaa,Act.put,List.setIfInBounds_toArray,List.set_cons_zero,List.set_cons_succ,Nat.reduceAdd,Nat.reduceBEq,cond_true,cond_false];intro K hK;obtain⟨p0,p1,p2⟩:=cells3 (H9.out.below hb H9.out.lt);go_simp;exact hK
    refine RegG.is (c:=?_) [4] (by simp only[List.nil_append,List.cons_append,List.length_append,List.length_cons,List.length_nil,Nat.reduceAdd];exact rfl) (by simp only[List.getElem?_toArray,List.getElem?_cons_zero,List.getElem?_cons_succ];exact rfl) (by kernel_rfl) (fun w hb=>?_) ?_;rotate_left
    ·
     simp only[Given,List.nil_append,List.cons_append,List.getD_cons_zero,List.getD_cons_succ,Qaa,Act.put,List.setIfInBounds_toArray,List.set_cons_zero,List.set_cons_succ,Nat.reduceAdd,Nat.reduceBEq,cond_true,cond_false];intro K hK;skip;go_simp;exact hK
    refine RegG.is (c:=?_) [4,6] (by simp only[List.nil_append,List.cons_append,List.length_append,List.length_cons,List.length_nil,Nat.reduceAdd];exact rfl) (by simp only[List.getElem?_toArray,List.getElem?_cons_zero,List.getElem?_cons_succ];exact rfl) (by kernel_rfl) (fun w hb=>?_) ?_;rotate_left
    ·
     simp only[Given,List.nil_append,List.cons_append,List.getD_cons_zero,List.getD_cons_succ,Qaa,Act.put,List.setIfInBounds_toArray,List.set_cons_zero,List.set_cons_succ,Nat.reduceAdd,Nat.reduceBEq,cond_true,cond_false];intro K hK;skip;go_simp;exact hK
    refine RegG.is (c:=?_) [4,7] (by simp only[List.nil_append,List.cons_append,List.length_append,List.length_cons,List.length_nil,Nat.reduceAdd];exact rfl) (by simp only[List.getElem?_toArray,List.getElem?_cons_zero,List.getElem?_cons_succ];exact rfl) (by kernel_rfl) (fun w hb=>?_) ?_;rotate_left
    ·
     simp only[Given,List.nil_append,List.cons_append,List.getD_cons_zero,List.getD_cons_succ,Qaa,Act.put,List.setIfInBounds_toArray,List.set_cons_zero,List.set_cons_succ,Nat.reduceAdd,Nat.reduceBEq,cond_true,cond_false];intro K hK;skip;go_simp;exact hK
    refine RegG.is (c:=?_) [4,8] (by simp only[List.nil_append,List.cons_append,List.length_append,List.length_cons,List.length_nil,Nat.reduceAdd];exact rfl) (by simp only[List.getElem?_toArray,List.getElem?_cons_zero,List.getElem?_cons_succ];exact rfl) (by kernel_rfl) (fun w hb=>?_) ?_;rotate_left
    ·
     simp only[Given,List.nil_append,List.cons_append,List.getD_cons_zero,List.getD_cons_succ,Qaa,Act.put,List.setIfInBounds_toArray,List.set_cons_zero,List.set_cons_succ,Nat.reduceAdd,Nat.reduceBEq,cond_true,cond_false];intro K hK;obtain⟨g0,g1,g2,g3,g4,g5,g6⟩:=(HSK.out.below hb).cells;go_simp;exact hK
    refine RegG.step (φ:=Is (.int .i64 C)) [4,5,9] (by simp only[List.nil_append,List.cons_append,List.length_append,List.length_cons,List.length_nil,Nat.reduceAdd];exact rfl) (by simp only[List.getElem?_toArray,List.getElem?_cons_zero,List.getElem?_cons_succ];exact rfl) (by kernel_rfl) (Is.stays _) (fun w hb=>?_) ?_
    ·
     simp only[Given,List.nil_append,List.cons_append,List.getD_cons_zero,List.getD_cons_succ,Qaa,Act.put,List.setIfInBounds_toArray,List.set_cons_zero,List.set_cons_succ,Nat.reduceAdd,Nat.reduceBEq,cond_true,cond_false];skip;intro K hK;go_simp;exact Makes.use (HCE.out ▸ FF.compare (FM.out.below hb) ((HSK.out.below hb).most) (by omega)) hK
    refine RegG.is (c:=?_) [4,10] (by simp only[List.nil_append,List.cons_append,List.length_append,List.length_cons,List.length_nil,Nat.reduceAdd];exact rfl) (by simp only[List.getElem?_toArray,List.getElem?_cons_zero,List.getElem?_cons_succ];exact rfl) (by kernel_rfl) (fun w hb=>?_) ?_;rotate_left
    ·
     simp only[Given,List.nil_append,List.cons_append,List.getD_cons_zero,List.getD_cons_succ,Qaa,Act.put,List.setIfInBounds_toArray,List.set_cons_zero,List.set_cons_succ,Nat.reduceAdd,Nat.reduceBEq,cond_true,cond_false];intro K hK;skip;go_simp;exact hK
    refine RegG.is (c:=?_) [4,11] (by simp only[List.nil_append,List.cons_append,List.length_append,List.length_cons,List.length_nil,Nat.reduceAdd];exact rfl) (by simp only[List.getElem?_toArray,List.getElem?_cons_zero,List.getElem?_cons_succ];exact rfl) (by kernel_rfl) (fun w hb=>?_) ?_;rotate_left
    ·
     simp only[Given,List.nil_append,List.cons_append,List.getD_cons_zero,List.getD_cons_succ,Qaa,Act.put,List.setIfInBounds_toArray,List.set_cons_zero,List.set_cons_succ,Nat.reduceAdd,Nat.reduceBEq,cond_true,cond_false];intro K hK;skip;go_simp;exact hK
    refine RegG.fin (by rfl) (fun u7 hb=>?_);simp only[FinG,List.nil_append,List.cons_append,Qaa,Act.put,List.setIfInBounds_toArray,List.set_cons_zero,List.set_cons_succ,Nat.reduceAdd,Nat.reduceBEq,cond_true,cond_false];by_cases hc:C<0
    ·
     have e1:decide (C<0)=true:=decide_eq_true hc;have HCM:Hid (mostOf ⟨y1,y2,y3,rm.q / bb.q,rm.k+bb.k⟩ false=cutM (mostOf m false) (rm.q / bb.q)):=Hi (by
      have:=(Qbv (rm.q / bb.q) m.q).1 (by rw[HCE.out];exact hc)
      simp[mostOf,cutM,if_pos this])
     clear hc;simp only[e1];have hx:=HSK.out.below hb;obtain⟨d0,d1,d2⟩:=cells3 (H9.out.below hb H9.out.lt);obtain⟨g0,g1,g2,g3,g4,g5,g6⟩:=hx.cells;obtain⟨o1,o2,o3⟩:=FM.out.1.one;have s1:=Qab Tryz.prog o1;have s2:=Qab Tryz.prog o2;have s3:=Qab Tryz.prog o3;clear o1 o2 o3;have f3:=hx.blk.free 3;have f4:=hx.blk.free 4;have f5:=hx.blk.free 5;have f6:=hx.blk.free 6;obtain⟨h1,h2⟩:=hx.setM (e:=⟨y1,y2,y3,rm.q / bb.q,rm.k+bb.k⟩) (FM.out.below hb);have HS1:=Hi h1;have HO1:=Hi ((HOX.out.trans (Only.of_below hb)).trans h2);clear h1 h2 hx hb;go_wp2;go_ret;exact⟨HO1.out,a1,⟨y1,y2,y3,rm.q / bb.q,rm.k+bb.k⟩,false,HS1.out,HK1.out,by show rm.k+bb.k≤_;omega,Or.inr ⟨HBZ.out,rfl,HQ1.out,HCM.out⟩⟩
    ·
     have e1:decide (C<0)=false:=decide_eq_false hc;have HCM:Hid (mostOf m false=cutM (mostOf m false) (rm.q / bb.q)):=Hi (by
      have:¬(rm.q / bb.q)<m.q:=fun h=>hc (by rw[←HCE.out];exact(Qbv _ _).2 h)
      simp[mostOf,cutM,if_neg this])
     have HS1:=Hi (HSK.out.below hb);have HO1:=Hi (HOX.out.trans (Only.of_below hb));clear hc hb;simp only[e1];go_wp2;go_ret;exact⟨HO1.out,a1,m,false,HS1.out,HK1.out,by omega,Or.inr ⟨HBZ.out,rfl,HQ1.out,HCM.out⟩⟩
end Go.Proofs.YtldjeecnapgakaaGreatDoor
