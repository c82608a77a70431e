/- A range over a function whose rounds write into one block that was there before: the loop's law. -/
import Derived.Test.YtldjeecnapgakaaGreatDoorV36RngO
import Derived.Test.YtldjeecnapgakaaGreatDoorV27RegU
namespace Go.Proofs.YtldjeecnapgakaaGreatDoor
open Go.RowKit
open Go.Proofs.Tryz
set_option linter.unusedSimpArgs false
set_option linter.unusedVariables false
set_option maxHeartbeats 8000000
set_option maxRecDepth 1000000
theorem Qkt{v:Value}{w:World}{qa ql qh qs:Rat}{A E:Nat}(h:SV4 qa ql qh qs A E v w):Calls prog 64 #[v] w (Makes w (FF ql A)):=by
 obtain⟨a,l,u,s,rfl,ha,hl,hu,hs,rfl,rfl,rfl,rfl,ka,kl,ku,ks⟩:=h;obtain⟨o1,o2,o3⟩:=ha.1.one;obtain⟨o4,o5,o6⟩:=hl.1.one;obtain⟨o7,o8,o9⟩:=hu.1.one;obtain⟨o10,o11,o12⟩:=hs.1.one;have s1:=Qaa prog o1;have s2:=Qaa prog o2;have s3:=Qaa prog o3;have s4:=Qaa prog o4;have s5:=Qaa prog o5;have s6:=Qaa prog o6;have s7:=Qaa prog o7;have s8:=Qaa prog o8;have s9:=Qaa prog o9;have s10:=Qaa prog o10;have s11:=Qaa prog o11;have s12:=Qaa prog o12;clear o1 o2 o3 o4 o5 o6 o7 o8 o9 o10 o11 o12;obtain⟨HK,HP⟩:=Ia (And.intro ka (And.intro kl (And.intro ku ks))) hl;clear ha hl hu hs ka kl ku ks;go_enter func64,ntmps64;go_wp2;refine bodyPost_ret (v:=.agg #[l.x,l.y,l.z]) (results_cell_row rfl _ _ (w.heap.size+1) 63 #[l.x,l.y,l.z] (0,0) _ rfl (SB.new2 w _ _ _ _) underlying63 rfl Tryz.fracInfo) rfl ?_
 exact⟨_,rfl,Below.new2 w _ _,FF.mono (FF.below HP.o (Below.new2 w _ _)) (by first|exact HK.o.1|exact HK.o.2.1|exact HK.o.2.2.1|exact HK.o.2.2.2)⟩
theorem Qku{v:Value}{w:World}{qa ql qh qs:Rat}{A E:Nat}(h:SV4 qa ql qh qs A E v w):Calls prog 65 #[v] w (Makes w (FF qh A)):=by
 obtain⟨a,l,u,s,rfl,ha,hl,hu,hs,rfl,rfl,rfl,rfl,ka,kl,ku,ks⟩:=h;obtain⟨o1,o2,o3⟩:=ha.1.one;obtain⟨o4,o5,o6⟩:=hl.1.one;obtain⟨o7,o8,o9⟩:=hu.1.one;obtain⟨o10,o11,o12⟩:=hs.1.one;have s1:=Qaa prog o1;have s2:=Qaa prog o2;have s3:=Qaa prog o3;have s4:=Qaa prog o4;have s5:=Qaa prog o5;have s6:=Qaa prog o6;have s7:=Qaa prog o7;have s8:=Qaa prog o8;have s9:=Qaa prog o9;have s10:=Qaa prog o10;have s11:=Qaa prog o11;have s12:=Qaa prog o12;clear o1 o2 o3 o4 o5 o6 o7 o8 o9 o10 o11 o12;obtain⟨HK,HP⟩:=Ia (And.intro ka (And.intro kl (And.intro ku ks))) hu;clear ha hl hu hs ka kl ku ks;go_enter func65,ntmps65;go_wp2;refine bodyPost_ret (v:=.agg #[u.x,u.y,u.z]) (results_cell_row rfl _ _ (w.heap.size+1) 63 #[u.x,u.y,u.z] (0,0) _ rfl (SB.new2 w _ _ _ _) underlying63 rfl Tryz.fracInfo) rfl ?_
 exact⟨_,rfl,Below.new2 w _ _,FF.mono (FF.below HP.o (Below.new2 w _ _)) (by first|exact HK.o.1|exact HK.o.2.1|exact HK.o.2.2.1|exact HK.o.2.2.2)⟩
theorem Qkv{v:Value}{w:World}{qa ql qh qs:Rat}{A E:Nat}(h:SV4 qa ql qh qs A E v w):Calls prog 66 #[v] w (Makes w (FF qs E)):=by
 obtain⟨a,l,u,s,rfl,ha,hl,hu,hs,rfl,rfl,rfl,rfl,ka,kl,ku,ks⟩:=h;obtain⟨o1,o2,o3⟩:=ha.1.one;obtain⟨o4,o5,o6⟩:=hl.1.one;obtain⟨o7,o8,o9⟩:=hu.1.one;obtain⟨o10,o11,o12⟩:=hs.1.one;have s1:=Qaa prog o1;have s2:=Qaa prog o2;have s3:=Qaa prog o3;have s4:=Qaa prog o4;have s5:=Qaa prog o5;have s6:=Qaa prog o6;have s7:=Qaa prog o7;have s8:=Qaa prog o8;have s9:=Qaa prog o9;have s10:=Qaa prog o10;have s11:=Qaa prog o11;have s12:=Qaa prog o12;clear o1 o2 o3 o4 o5 o6 o7 o8 o9 o10 o11 o12;obtain⟨HK,HP⟩:=Ia (And.intro ka (And.intro kl (And.intro ku ks))) hs;clear ha hl hu hs ka kl ku ks;go_enter func66,ntmps66;go_wp2;refine bodyPost_ret (v:=.agg #[s.x,s.y,s.z]) (results_cell_row rfl _ _ (w.heap.size+1) 63 #[s.x,s.y,s.z] (0,0) _ rfl (SB.new2 w _ _ _ _) underlying63 rfl Tryz.fracInfo) rfl ?_
 exact⟨_,rfl,Below.new2 w _ _,FF.mono (FF.below HP.o (Below.new2 w _ _)) (by first|exact HK.o.1|exact HK.o.2.1|exact HK.o.2.2.1|exact HK.o.2.2.2)⟩
structure S4 where
 a:FE
 l:FE
 u:FE
 s:FE
def S4.ok(w:World)(A E:Nat)(t:S4):Prop:=FE.ok w t.a/\FE.ok w t.l/\FE.ok w t.u/\FE.ok w t.s/\t.a.k<=A/\t.l.k<=A/\t.u.k<=A/\t.s.k<=E
theorem S4.ok.below{w w':World}{A E:Nat}{t:S4}(h:S4.ok w A E t)(hb:Below w.heap.size w w'):S4.ok w' A E t:=⟨h.1.below hb,h.2.1.below hb,h.2.2.1.below hb,h.2.2.2.1.below hb,h.2.2.2.2⟩
theorem S4.ok.sv{w:World}{A E:Nat}{t:S4}(h:S4.ok w A E t):SV4 t.a.q t.l.q t.u.q t.s.q A E (.agg #[t.a.x,t.a.y,t.a.z,t.l.x,t.l.y,t.l.z,t.u.x,t.u.y,t.u.z,t.s.x,t.s.y,t.s.z]) w:=
 ⟨t.a,t.l,t.u,t.s,rfl,h.1,h.2.1,h.2.2.1,h.2.2.2.1,rfl,rfl,rfl,rfl,h.2.2.2.2⟩
theorem S4.ok.keep{T:TypeId}{w w':World}{c:Nat}{us:List FE}{A E:Nat}{t:S4}(hc:TBlk T w c us)(ho:Only c w w')(h:S4.ok w A E t):S4.ok w' A E t:=⟨hc.keep ho h.1,hc.keep ho h.2.1,hc.keep ho h.2.2.1,hc.keep ho h.2.2.2.1,h.2.2.2.2⟩
def S4.cells3(r s t:S4):Array Value:=#[r.a.x,r.a.y,r.a.z,r.l.x,r.l.y,r.l.z,r.u.x,r.u.y,r.u.z,r.s.x,r.s.y,r.s.z,s.a.x,s.a.y,s.a.z,s.l.x,s.l.y,s.l.z,s.u.x,s.u.y,s.u.z,s.s.x,s.s.y,s.s.z,t.a.x,t.a.y,t.a.z,t.l.x,t.l.y,t.l.z,t.u.x,t.u.y,t.u.z,t.s.x,t.s.y,t.s.z]
def AccV(f:Nat)(p:S4->Rat)(A E K:Nat):Prop:=(∀args w,(callFunc f args).run prog w=.ok (.enter f args) w)/\∀(t:S4) (w:World),S4.ok w A E t->Calls prog f #[.agg #[t.a.x,t.a.y,t.a.z,t.l.x,t.l.y,t.l.z,t.u.x,t.u.y,t.u.z,t.s.x,t.s.y,t.s.z]] w (Makes w (FF (p t) K))
theorem AccV.low(A E:Nat):AccV 64 (fun t=>t.l.q) A E A:=⟨enters_of func64 (by kernel_rfl) rfl,fun t w h=>Qkt h.sv⟩
theorem AccV.high(A E:Nat):AccV 65 (fun t=>t.u.q) A E A:=⟨enters_of func65 (by kernel_rfl) rfl,fun t w h=>Qku h.sv⟩
theorem AccV.shape(A E:Nat):AccV 66 (fun t=>t.s.q) A E E:=⟨enters_of func66 (by kernel_rfl) rfl,fun t w h=>Qkv h.sv⟩
theorem S4.ok.ones{w:World}{A E:Nat}{t:S4}(h:S4.ok w A E t):(t.a.x.oneCell'=true)/\(t.a.y.oneCell'=true)/\(t.a.z.oneCell'=true)/\(t.l.x.oneCell'=true)/\(t.l.y.oneCell'=true)/\(t.l.z.oneCell'=true)/\(t.u.x.oneCell'=true)/\(t.u.y.oneCell'=true)/\(t.u.z.oneCell'=true)/\(t.s.x.oneCell'=true)/\(t.s.y.oneCell'=true)/\(t.s.z.oneCell'=true):=by
 obtain⟨a1,a2,a3⟩:=h.1.1.one;obtain⟨a4,a5,a6⟩:=h.2.1.1.one;obtain⟨a7,a8,a9⟩:=h.2.2.1.1.one;obtain⟨a10,a11,a12⟩:=h.2.2.2.1.1.one;exact⟨a1,a2,a3,a4,a5,a6,a7,a8,a9,a10,a11,a12⟩
theorem S4.atR{w:World}{g:Nat}{T:TypeId}{r s t:S4}(h:SB w g T (S4.cells3 r s t)):w.cell? ⟨g,0,none⟩=some r.a.x/\w.cell? ⟨g,1,none⟩=some r.a.y/\w.cell? ⟨g,2,none⟩=some r.a.z/\w.cell? ⟨g,3,none⟩=some r.l.x/\w.cell? ⟨g,4,none⟩=some r.l.y/\w.cell? ⟨g,5,none⟩=some r.l.z/\w.cell? ⟨g,6,none⟩=some r.u.x/\w.cell? ⟨g,7,none⟩=some r.u.y/\w.cell? ⟨g,8,none⟩=some r.u.z/\w.cell? ⟨g,9,none⟩=some r.s.x/\w.cell? ⟨g,10,none⟩=some r.s.y/\w.cell? ⟨g,11,none⟩=some r.s.z:=
 ⟨(h.cell 0).trans rfl,(h.cell 1).trans rfl,(h.cell 2).trans rfl,(h.cell 3).trans rfl,(h.cell 4).trans rfl,(h.cell 5).trans rfl,(h.cell 6).trans rfl,(h.cell 7).trans rfl,(h.cell 8).trans rfl,(h.cell 9).trans rfl,(h.cell 10).trans rfl,(h.cell 11).trans rfl⟩
theorem S4.atS{w:World}{g:Nat}{T:TypeId}{r s t:S4}(h:SB w g T (S4.cells3 r s t)):w.cell? ⟨g,12,none⟩=some s.a.x/\w.cell? ⟨g,13,none⟩=some s.a.y/\w.cell? ⟨g,14,none⟩=some s.a.z/\w.cell? ⟨g,15,none⟩=some s.l.x/\w.cell? ⟨g,16,none⟩=some s.l.y/\w.cell? ⟨g,17,none⟩=some s.l.z/\w.cell? ⟨g,18,none⟩=some s.u.x/\w.cell? ⟨g,19,none⟩=some s.u.y/\w.cell? ⟨g,20,none⟩=some s.u.z/\w.cell? ⟨g,21,none⟩=some s.s.x/\w.cell? ⟨g,22,none⟩=some s.s.y/\w.cell? ⟨g,23,none⟩=some s.s.z:=
 ⟨(h.cell 12).trans rfl,(h.cell 13).trans rfl,(h.cell 14).trans rfl,(h.cell 15).trans rfl,(h.cell 16).trans rfl,(h.cell 17).trans rfl,(h.cell 18).trans rfl,(h.cell 19).trans rfl,(h.cell 20).trans rfl,(h.cell 21).trans rfl,(h.cell 22).trans rfl,(h.cell 23).trans rfl⟩
theorem S4.atT{w:World}{g:Nat}{T:TypeId}{r s t:S4}(h:SB w g T (S4.cells3 r s t)):w.cell? ⟨g,24,none⟩=some t.a.x/\w.cell? ⟨g,25,none⟩=some t.a.y/\w.cell? ⟨g,26,none⟩=some t.a.z/\w.cell? ⟨g,27,none⟩=some t.l.x/\w.cell? ⟨g,28,none⟩=some t.l.y/\w.cell? ⟨g,29,none⟩=some t.l.z/\w.cell? ⟨g,30,none⟩=some t.u.x/\w.cell? ⟨g,31,none⟩=some t.u.y/\w.cell? ⟨g,32,none⟩=some t.u.z/\w.cell? ⟨g,33,none⟩=some t.s.x/\w.cell? ⟨g,34,none⟩=some t.s.y/\w.cell? ⟨g,35,none⟩=some t.s.z:=
 ⟨(h.cell 24).trans rfl,(h.cell 25).trans rfl,(h.cell 26).trans rfl,(h.cell 27).trans rfl,(h.cell 28).trans rfl,(h.cell 29).trans rfl,(h.cell 30).trans rfl,(h.cell 31).trans rfl,(h.cell 32).trans rfl,(h.cell 33).trans rfl,(h.cell 34).trans rfl,(h.cell 35).trans rfl⟩
theorem Qd5{fm fo A E kk:Nat}{pm po:S4->Rat}{r s t:S4}{w:World}(hm:AccV fm pm A E kk)(ho:AccV fo po A E kk)(hr:S4.ok w A E r)(hs:S4.ok w A E s)(ht:S4.ok w A E t)(hk:3*kk+8*A<60000000000):
 Calls prog 68 #[.agg (S4.cells3 r s t),.func (.func fm) #[] #[],.func (.func fo) #[] #[]] w (Makes w (FF (pm s*(s.a.q - r.a.q+(t.a.q - s.a.q)) - po r*(t.a.q - s.a.q) - po t*(s.a.q - r.a.q)) (3*kk+8*A+7))):=by
 obtain⟨V,hV⟩:=nm ((w.alloc (.cells (S4.cells3 r s t) 113)).alloc (.cells #[.bool false,.slice none 0 0,.slice none 0 0] 63));have HBV:=Ub hV;have HCV:=Ud hV;have HRV:=Ue hV;obtain⟨HM,HOO⟩:=Ia hm ho;obtain⟨o1,o2,o3,o4,o5,o6,o7,o8,o9,o10,o11,o12⟩:=hr.ones;have r1:=Qaa prog o1;have r2:=Qaa prog o2;have r3:=Qaa prog o3;have r4:=Qaa prog o4;have r5:=Qaa prog o5;have r6:=Qaa prog o6;have r7:=Qaa prog o7;have r8:=Qaa prog o8;have r9:=Qaa prog o9;have r10:=Qaa prog o10;have r11:=Qaa prog o11;have r12:=Qaa prog o12;clear o1 o2 o3 o4 o5 o6 o7 o8 o9 o10 o11 o12
 obtain⟨o1,o2,o3,o4,o5,o6,o7,o8,o9,o10,o11,o12⟩:=hs.ones;have s1:=Qaa prog o1;have s2:=Qaa prog o2;have s3:=Qaa prog o3;have s4:=Qaa prog o4;have s5:=Qaa prog o5;have s6:=Qaa prog o6;have s7:=Qaa prog o7;have s8:=Qaa prog o8;have s9:=Qaa prog o9;have s10:=Qaa prog o10;have s11:=Qaa prog o11;have s12:=Qaa prog o12;clear o1 o2 o3 o4 o5 o6 o7 o8 o9 o10 o11 o12;obtain⟨o1,o2,o3,o4,o5,o6,o7,o8,o9,o10,o11,o12⟩:=ht.ones;have t1:=Qaa prog o1;have t2:=Qaa prog o2;have t3:=Qaa prog o3;have t4:=Qaa prog o4;have t5:=Qaa prog o5;have t6:=Qaa prog o6;have t7:=Qaa prog o7;have t8:=Qaa prog o8;have t9:=Qaa prog o9;have t10:=Qaa prog o10;have t11:=Qaa prog o11;have t12:=Qaa prog o12;clear o1 o2 o3 o4 o5 o6 o7 o8 o9 o10 o11 o12;obtain⟨HR,HS⟩:=Ia (hr.below HBV.o) (hs.below HBV.o)
 obtain⟨HT,HVE⟩:=Ia (ht.below HBV.o) hV;clear hV hr hs ht hm ho;unfold S4.cells3 at HVE ⊢;go_enter func68,ntmps68;go_wp2_with fail;rw[HVE.o];obtain⟨q0,hq0⟩:∃q,Value.agg #[r.a.x,r.a.y,r.a.z,r.l.x,r.l.y,r.l.z,r.u.x,r.u.y,r.u.z,r.s.x,r.s.y,r.s.z,s.a.x,s.a.y,s.a.z,s.l.x,s.l.y,s.l.z,s.u.x,s.u.y,s.u.z,s.s.x,s.s.y,s.s.z,t.a.x,t.a.y,t.a.z,t.l.x,t.l.y,t.l.z,t.u.x,t.u.y,t.u.z,t.s.x,t.s.y,t.s.z]=q:=⟨_,rfl⟩;rw[hq0];clear hq0 HVE;clear r1 r2 r3 r4 r5 r6 r7 r8 r9 r10 r11 r12 s1 s2 s3 s4 s5 s6 s7 s8 s9 s10 s11 s12 t1 t2 t3 t4 t5 t6 t7 t8 t9 t10 t11 t12;obtain⟨Y,hY⟩:=nm V.drew;obtain⟨B,hB⟩:=nm w.heap.size;rw[hB] at HCV HRV ⊢;obtain⟨HYE,HBE⟩:=Ia hY hB;have HBY:O (Below w.heap.size w Y):=Hi (by rw[<-hY];exact HBV.o.drew);have HYV:O (Below V.heap.size V Y):=Hi (by rw[<-hY];exact(Below.refl _ _).drew);have HC:=Hi (HCV.o.below HYV.o HCV.o.lt)
 obtain⟨HRY,HR1,HS1,HT1⟩:=Ic (HRV.o.below HYV.o HRV.o.lt) (HR.o.below HYV.o) (HS.o.below HYV.o) (HT.o.below HYV.o);obtain⟨FR,FS,FT⟩:=Ib (FF.mono HR1.o.1 HR1.o.2.2.2.2.1) (FF.mono HS1.o.1 HS1.o.2.2.2.2.1) (FF.mono HT1.o.1 HT1.o.2.2.2.2.1);clear hY HCV HRV HR HS HT hB;refine RegG.bg 16 (fun j=>some (bif j == 14 then 7 else bif j == 15 then 8 else 9+j)) ?_;rw[HYE.o];refine RegG.pu (c:=?_) [] (fun w hb=>?_) ?_;rotate_left
 .
  intro K hK;go_simp;exact hK
 refine RegG.pu (c:=?_) [0] (fun w hb=>?_) ?_;rotate_left
 .
  intro K hK;go_simp;exact hK
 refine RegG.pu (c:=?_) [1] (fun w hb=>?_) ?_;rotate_left
 .
  intro K hK;obtain⟨p0,p1,p2,_⟩:=S4.atS (HC.o.below hb HC.o.lt);go_simp;exact hK
 refine RegG.pu (c:=?_) [] (fun w hb=>?_) ?_;rotate_left
 .
  intro K hK;go_simp;exact hK
 refine RegG.pu (c:=?_) [3] (fun w hb=>?_) ?_;rotate_left
 .
  intro K hK;go_simp;exact hK
 refine RegG.pu (c:=?_) [4] (fun w hb=>?_) ?_;rotate_left
 .
  intro K hK;obtain⟨p0,p1,p2,_⟩:=S4.atR (HC.o.below hb HC.o.lt);go_simp;exact hK
 refine RegG.ca (φ:=FF (s.a.q - r.a.q) (A+A+1)) [2,5] (FF.stays _ _) (fun w hb=>?_) ?_
 .
  intro K hK;go_simp;exact Makes.use (FF.minus (FS.o.below hb) (FR.o.below hb) (by omega)) hK
 refine RegG.pu (c:=?_) [] (fun w hb=>?_) ?_;rotate_left
 .
  intro K hK;go_simp;exact hK
 refine RegG.pu (c:=?_) [7] (fun w hb=>?_) ?_;rotate_left
 .
  intro K hK;go_simp;exact hK
 refine RegG.pu (c:=?_) [8] (fun w hb=>?_) ?_;rotate_left
 .
  intro K hK;obtain⟨p0,p1,p2,_⟩:=S4.atT (HC.o.below hb HC.o.lt);go_simp;exact hK
 refine RegG.pu (c:=?_) [] (fun w hb=>?_) ?_;rotate_left
 .
  intro K hK;go_simp;exact hK
 refine RegG.pu (c:=?_) [10] (fun w hb=>?_) ?_;rotate_left
 .
  intro K hK;go_simp;exact hK
 refine RegG.pu (c:=?_) [11] (fun w hb=>?_) ?_;rotate_left
 .
  intro K hK;obtain⟨p0,p1,p2,_⟩:=S4.atS (HC.o.below hb HC.o.lt);go_simp;exact hK
 refine RegG.ca (φ:=FF (t.a.q - s.a.q) (A+A+1)) [9,12] (FF.stays _ _) (fun w hb=>?_) ?_
 .
  intro K hK;go_simp;exact Makes.use (FF.minus (FT.o.below hb) (FS.o.below hb) (by omega)) hK
 refine RegG.ca (φ:=BoxF Y.heap.size) [] (BoxF.stays _) (fun w hb=>?_) ?_
 .
  intro K hK;go_simp;exact hK _ _ (bR.alloc lZ _) ⟨w.heap.size,rfl,hb.size,SB.new w _ _⟩
 refine RegG.ca (φ:=BoxF Y.heap.size) [] (BoxF.stays _) (fun w hb=>?_) ?_
 .
  intro K hK;go_simp;exact hK _ _ (bR.alloc lZ _) ⟨w.heap.size,rfl,hb.size,SB.new w _ _⟩
 refine RegG.two (by rfl) (by rfl) (by rfl) (by rfl) (by kernel_rfl) (fun u9 hb=>?_);simp only[FinG,List.nil_append,List.cons_append,Qak,Act.put,List.setIfInBounds_toArray,List.set_cons_zero,List.set_cons_succ,Nat.reduceAdd,Nat.reduceBEq,cond_true,cond_false];intro v6 h6 v13 h13 v14 h14 v15 h15 hap;have hnx:=hap 14 15 7 8 (by decide) (by decide) (by kernel_rfl) (by kernel_rfl) (by decide) (by kernel_rfl) (by kernel_rfl);clear hap;obtain⟨b7,rfl,hb7,h7⟩:=h14;obtain⟨b8,rfl,hb8,h8⟩:=h15;have hne:b7≠b8:=fun e=>hnx (by subst e;rfl)
 clear hnx;obtain⟨x1,x2,x3,rfl⟩:=h6.parts;obtain⟨y1,y2,y3,rfl⟩:=h13.parts;obtain⟨o1,o2,o3⟩:=h6.1.one;have s1:=Qaa prog o1;have s2:=Qaa prog o2;have s3:=Qaa prog o3;clear o1 o2 o3;obtain⟨o1,o2,o3⟩:=h13.1.one;have z1:=Qaa prog o1;have z2:=Qaa prog o2;have z3:=Qaa prog o3;clear o1 o2 o3;have t7:=TBlk.box h7 (FF.zero _);have c0:=h7.cell 0;have c1:=h7.cell 1;have c2:=h7.cell 2;have d0:=h8.cell 0;have d1:=h8.cell 1;have d2:=h8.cell 2;simp only[List.getElem?_toArray,List.getElem?_cons_zero,List.getElem?_cons_succ] at c0 c1 c2 d0 d1 d2;have f0:=h7.free 0;have f1:=h7.free 1;have f2:=h7.free 2;have g0:=h8.free 0;have g1:=h8.free 1;have g2:=h8.free 2;obtain⟨hn,ho⟩:=t7.set (k:=0) (e:=⟨x1,x2,x3,_,_⟩) (by simp) h6;simp only[Nat.zero_mul,Nat.zero_add,List.set_cons_zero] at hn ho;obtain⟨HH13,HH8⟩:=Ia (t7.keep ho (t:=⟨y1,y2,y3,_,_⟩) h13) (h8.only ho hne.symm)
 obtain⟨HN,HO,HB9,HX7⟩:=Ic hn ho hb (TBlk.box h7 (FF.zero _));clear hn ho t7 h6 h13 h7 h8 hb;intro K1 hK1;go_simp;refine hK1 _ _ ?_;intro K2 hK2;clear hK1;obtain⟨U1,hU1⟩:∃U,((u9.setCell ⟨b7,0,none⟩ x1).setCell ⟨b7,1,none⟩ x2).setCell ⟨b7,2,none⟩ x3=U:=⟨_,rfl⟩;rw[hU1] at HN HO HH13 HH8 ⊢;have HU1:=Hi hU1;clear hU1 c0 c1 c2 d0 d1 d2 f0 f1 f2 g0 g1 g2 s1 s2 s3;have t8:=TBlk.box HH8.o (FF.zero _);have d0:=HH8.o.cell 0;have d1:=HH8.o.cell 1;have d2:=HH8.o.cell 2;simp only[List.getElem?_toArray,List.getElem?_cons_zero,List.getElem?_cons_succ] at d0 d1 d2;have g0:=HH8.o.free 0;have g1:=HH8.o.free 1;have g2:=HH8.o.free 2;obtain⟨hn,ho⟩:=t8.set (k:=0) (e:=⟨y1,y2,y3,_,_⟩) (by simp) HH13.o;simp only[Nat.zero_mul,Nat.zero_add,List.set_cons_zero] at hn ho;obtain⟨HN8,HO8,HT8⟩:=Ib hn ho t8;clear hn ho t8;go_simp;refine hK2 _ _ ?_
 clear hK2 d0 d1 d2 g0 g1 g2 z1 z2 z3;obtain⟨U,hU⟩:=nm (((U1.setCell ⟨b8,0,none⟩ y1).setCell ⟨b8,1,none⟩ y2).setCell ⟨b8,2,none⟩ y3);rw[hU] at HN8 HO8 ⊢;clear hU;have ltB:=HC.o.lt;have ltR:=HRY.o.lt;have kp:∀t,S4.ok Y A E t->S4.ok U A E t:=fun t h=>S4.ok.keep HT8.o HO8.o (S4.ok.keep HX7.o HO.o (h.below HB9.o))
 obtain⟨HRU,HSU,HTU,HCU,HRB,H7U⟩:=Ie (kp r HR1.o) (kp s HS1.o) (kp t HT1.o) (((HC.o.below HB9.o HC.o.lt).only HO.o (by omega)).only HO8.o (by omega)) (((HRY.o.below HB9.o HRY.o.lt).only HO.o (by omega)).only HO8.o (by omega)) (HN.o.apart HT8.o HO8.o hne);have HBU:O (Below w.heap.size w U):=Hi (by
  have h0:w.heap.size<=Y.heap.size:=HBY.o.size
  exact Only.fresh (Only.fresh (HBY.o.trans (HB9.o.mono h0)) HO.o (by omega)) HO8.o (by omega))
 obtain⟨Z,hZ⟩:=nm U.drew;have HZU:O (Below U.heap.size U Z):=Hi (by rw[<-hZ];exact(Below.refl _ _).drew);have HZE:=Hi hZ;clear hZ kp HC FR FS FT HR1 HS1 HT1 HRY HH13 HH8 HX7 HT8 HYE;obtain⟨HC,HRR,HR1,HS1,HT1,H7,H8⟩:=If (HCU.o.below HZU.o HCU.o.lt) (HRB.o.below HZU.o HRB.o.lt) (HRU.o.below HZU.o) (HSU.o.below HZU.o) (HTU.o.below HZU.o) (H7U.o.below HZU.o) (HN8.o.below HZU.o);have F7:O (FF (s.a.q - r.a.q) (A+A+1) (.agg #[x1,x2,x3]) Z):=Hi (H7.o.ok _ (List.mem_singleton.2 rfl));have F8:O (FF (t.a.q - s.a.q) (A+A+1) (.agg #[y1,y2,y3]) Z):=Hi (H8.o.ok _ (List.mem_singleton.2 rfl));clear HCU HRB HRU HSU HTU H7U HN8 HN HO HO8;go_wp2_with fail;refine RegG.bg 22 (fun j=>some (23+j)) ?_;rw[HZE.o];refine RegG.pu (c:=?_) [] (fun w hb=>?_) ?_;rotate_left
 .
  intro K hK;go_simp;exact hK
 refine RegG.pu (c:=?_) [] (fun w hb=>?_) ?_;rotate_left
 .
  intro K hK;go_simp;exact hK
 refine RegG.pu (c:=?_) [1] (fun w hb=>?_) ?_;rotate_left
 .
  intro K hK;obtain⟨p0,p1,p2,p3,p4,p5,p6,p7,p8,p9,p10,p11⟩:=S4.atS (HC.o.below hb HC.o.lt);go_simp;exact hK
 refine RegG.ca (φ:=FF (pm s) kk) [0,2] (FF.stays _ _) (fun w hb=>?_) ?_
 .
  have em:=HM.o.1;intro K hK;go_simp;exact Makes.use (HM.o.2 s _ (HS1.o.below hb)) hK
 refine RegG.pu (c:=?_) [] (fun w hb=>?_) ?_;rotate_left
 .
  intro K hK;obtain⟨e0,e1,e2⟩:=(H7.o.below hb).at (i:=0) rfl;simp only[Nat.zero_mul,Nat.zero_add] at e0 e1 e2;go_simp;exact hK
 refine RegG.pu (c:=?_) [] (fun w hb=>?_) ?_;rotate_left
 .
  intro K hK;obtain⟨e0,e1,e2⟩:=(H8.o.below hb).at (i:=0) rfl;simp only[Nat.zero_mul,Nat.zero_add] at e0 e1 e2;go_simp;exact hK
 refine RegG.ca (φ:=FF (s.a.q - r.a.q+(t.a.q - s.a.q)) (A+A+1+(A+A+1)+1)) [4,5] (FF.stays _ _) (fun w hb=>?_) ?_
 .
  intro K hK;go_simp;exact Makes.use (FF.plus (F7.o.below hb) (F8.o.below hb) (by omega)) hK
 refine RegG.ca (φ:=FF (pm s*(s.a.q - r.a.q+(t.a.q - s.a.q))) (kk+(A+A+1+(A+A+1)+1))) [3,6] (FF.stays _ _) (fun w hb=>?_) ?_
 .
  intro v3 h3 v6 h6;intro K hK;go_simp;exact Makes.use (FF.times h3 h6 (by omega)) hK
 refine RegG.pu (c:=?_) [] (fun w hb=>?_) ?_;rotate_left
 .
  intro K hK;go_simp;exact hK
 refine RegG.pu (c:=?_) [] (fun w hb=>?_) ?_;rotate_left
 .
  intro K hK;go_simp;exact hK
 refine RegG.pu (c:=?_) [9] (fun w hb=>?_) ?_;rotate_left
 .
  intro K hK;obtain⟨p0,p1,p2,p3,p4,p5,p6,p7,p8,p9,p10,p11⟩:=S4.atR (HC.o.below hb HC.o.lt);go_simp;exact hK
 refine RegG.ca (φ:=FF (po r) kk) [8,10] (FF.stays _ _) (fun w hb=>?_) ?_
 .
  have em:=HOO.o.1;intro K hK;go_simp;exact Makes.use (HOO.o.2 r _ (HR1.o.below hb)) hK
 refine RegG.pu (c:=?_) [] (fun w hb=>?_) ?_;rotate_left
 .
  intro K hK;obtain⟨e0,e1,e2⟩:=(H8.o.below hb).at (i:=0) rfl;simp only[Nat.zero_mul,Nat.zero_add] at e0 e1 e2;go_simp;exact hK
 refine RegG.ca (φ:=FF (po r*(t.a.q - s.a.q)) (kk+(A+A+1))) [11,12] (FF.stays _ _) (fun w hb=>?_) ?_
 .
  intro v3 h3;intro K hK;go_simp;exact Makes.use (FF.times h3 (F8.o.below hb) (by omega)) hK
 refine RegG.ca (φ:=FF (pm s*(s.a.q - r.a.q+(t.a.q - s.a.q)) - po r*(t.a.q - s.a.q)) (kk+(A+A+1+(A+A+1)+1)+(kk+(A+A+1))+1)) [7,13] (FF.stays _ _) (fun w hb=>?_) ?_
 .
  intro v3 h3 v6 h6;intro K hK;go_simp;exact Makes.use (FF.minus h3 h6 (by omega)) hK
 refine RegG.pu (c:=?_) [] (fun w hb=>?_) ?_;rotate_left
 .
  intro K hK;go_simp;exact hK
 refine RegG.pu (c:=?_) [] (fun w hb=>?_) ?_;rotate_left
 .
  intro K hK;go_simp;exact hK
 refine RegG.pu (c:=?_) [16] (fun w hb=>?_) ?_;rotate_left
 .
  intro K hK;obtain⟨p0,p1,p2,p3,p4,p5,p6,p7,p8,p9,p10,p11⟩:=S4.atT (HC.o.below hb HC.o.lt);go_simp;exact hK
 refine RegG.ca (φ:=FF (po t) kk) [15,17] (FF.stays _ _) (fun w hb=>?_) ?_
 .
  have em:=HOO.o.1;intro K hK;go_simp;exact Makes.use (HOO.o.2 t _ (HT1.o.below hb)) hK
 refine RegG.pu (c:=?_) [] (fun w hb=>?_) ?_;rotate_left
 .
  intro K hK;obtain⟨e0,e1,e2⟩:=(H7.o.below hb).at (i:=0) rfl;simp only[Nat.zero_mul,Nat.zero_add] at e0 e1 e2;go_simp;exact hK
 refine RegG.ca (φ:=FF (po t*(s.a.q - r.a.q)) (kk+(A+A+1))) [18,19] (FF.stays _ _) (fun w hb=>?_) ?_
 .
  intro v3 h3;intro K hK;go_simp;exact Makes.use (FF.times h3 (F7.o.below hb) (by omega)) hK
 refine RegG.ca (φ:=FF (pm s*(s.a.q - r.a.q+(t.a.q - s.a.q)) - po r*(t.a.q - s.a.q) - po t*(s.a.q - r.a.q)) (kk+(A+A+1+(A+A+1)+1)+(kk+(A+A+1))+1+(kk+(A+A+1))+1)) [14,20] (FF.stays _ _) (fun w hb=>?_) ?_
 .
  intro v3 h3 v6 h6;intro K hK;go_simp;exact Makes.use (FF.minus h3 h6 (by omega)) hK
 refine RegG.last (by simp only[List.nil_append,List.cons_append,List.length_append,List.length_cons,List.length_nil,Nat.reduceAdd]) (by rfl) (by rfl) (by kernel_rfl) (fun u8 hb=>?_);simp only[FinG,List.nil_append,List.cons_append,Qak,Act.put,List.setIfInBounds_toArray,List.set_cons_zero,List.set_cons_succ,Nat.reduceAdd,Nat.reduceBEq,cond_true,cond_false];intro v3 _ v6 _ v7 _ v11 _ v13 _ v14 _ v18 _ v20 _ v21 h21 K9 hK;obtain⟨m1,m2,m3,rfl⟩:=h21.parts;obtain⟨o1,o2,o3⟩:=h21.1.one;have s1:=Qaa prog o1;have s2:=Qaa prog o2;have s3:=Qaa prog o3;clear o1 o2 o3;have hr:=TBlk.box (HRR.o.below hb HRR.o.lt) (FF.zero _);have c0:=hr.blk.cell 0;have c1:=hr.blk.cell 1;have c2:=hr.blk.cell 2;simp only[FE.cs,List.flatMap_cons,List.flatMap_nil,List.append_nil,List.cons_append,List.nil_append,List.getElem?_toArray,List.getElem?_cons_zero,List.getElem?_cons_succ] at c0 c1 c2
 have f0:=hr.blk.free 0;have f1:=hr.blk.free 1;have f2:=hr.blk.free 2;obtain⟨hn,ho⟩:=hr.set (k:=0) (e:=⟨m1,m2,m3,_,_⟩) (by simp) h21;simp only[Nat.zero_mul,Nat.zero_add,List.set_cons_zero] at hn ho;obtain⟨HN,HO,HB8⟩:=Ib hn ho (HBU.o.trans ((HZU.o.trans (hb.mono HZU.o.size)).mono HBU.o.size));have hB:=HBE.o;clear hn ho hr h21 hb;go_simp;refine hK _ _ ?_;go_wp2;refine bodyPost_ret (v:=.agg #[m1,m2,m3]) (results_cell_row rfl _ _ (B+1) 63 #[m1,m2,m3] (0,0) _ rfl HN.o.blk underlying63 rfl Tryz.fracInfo) rfl ?_;exact⟨_,rfl,Only.fresh HB8.o HO.o (by omega),FF.mono (HN.o.ok _ (List.mem_singleton.2 rfl)) (by dsimp only;omega)⟩
end Go.Proofs.YtldjeecnapgakaaGreatDoor
namespace Go.Proofs.YtldjeecnapgakaaGreatDoor
open Go Go.RowKit
open Go.Proofs.Tryz
set_option linter.unusedSimpArgs false
set_option linter.unusedVariables false
set_option maxHeartbeats 8000000
set_option maxRecDepth 1000000
structure Only2 (b c:Nat) (w w':World):Prop where
 size:w.heap.size<=w'.heap.size
 block:∀k,k<w.heap.size->k≠b->k≠c->w'.heap[k]?=w.heap[k]?
theorem Only2.of1{b c:Nat}{w w':World}(h:Only b w w'):Only2 b c w w':=⟨h.size,fun k hk h1 _=>h.block k hk h1⟩
theorem Only2.of2{b c:Nat}{w w':World}(h:Only c w w'):Only2 b c w w':=⟨h.size,fun k hk _ h2=>h.block k hk h2⟩
theorem Only2.trans{b c:Nat}{u v w:World}(h:Only2 b c u v)(k:Only2 b c v w):Only2 b c u w:=
 ⟨Nat.le_trans h.size k.size,fun j hj h1 h2=>(k.block j (Nat.lt_of_lt_of_le hj h.size) h1 h2).trans (h.block j hj h1 h2)⟩
theorem SB.only2{w w':World}{b c g:Nat}{t:TypeId}{C:Array Value}(h:SB w g t C)(k:Only2 b c w w')(h1:g≠b)(h2:g≠c):SB w' g t C:=(k.block g h.lt h1 h2).trans h
def OverR{α:Type}(R:Nat)(Env:World->Prop)(F:Fence)(n:Nat)(P:Program)(g:Nat)(lb:Array Value)(enc:α->Value)(Ok:α->World->Prop)(S Sp:List α->Prop)(B:Nat):Prop:=
 ∀(l:Nat) (J Jx:List α->World->Prop) (W:World),B<=l->(∀pre U V,J pre U->Below U.heap.size U V->J pre V)->(∀pre U,J pre U->NoC U l/\l<U.heap.size/\B<=U.heap.size/\Env U)->
  (∀pre x U,J pre U->Ok x U->YieldAt F (n - 1) P l #[enc x] U fun e V=>(e=.returned (.bool true)/\J (pre++ [x]) V/\Only2 l R U V)∨(e=.returned (.bool false)/\Jx (pre++ [x]) V))->
  J [] W->CallsIn F n P g (#[.func (.yield l) #[] #[]]++lb) W fun e V=>(∃v,e=.returned v)/\((∃xs,S xs/\J xs V)∨(∃pre,Sp pre/\Jx pre V))
def roundLeftR{α:Type}(R:Nat)(I Ix:List α->World->Prop)(xs:List α)(W:World):Exit->Act->World->Prop
 | .normal,_,V=>Only R W V/\I xs V
 | .ret,_,V=>KeepsOthers W V/\Ix xs V
 |_,_,_=>False
section
variable {F:Fence} {n:Nat} {P:Program}
theorem Qsd{α:Type}{g:Operand}{ps:Array Tmp}{assign body:Code}{Q:Exit->Act->World->Prop}{a:Act}{w:World}{R:Nat}{Env:World->Prop}
 (hro:F.round=none) (h1:1<=n) {gf:Nat} {lb:Array Value} (hg:a.eval g=.func (.func gf) #[] lb) (hF:F.fn gf) (eg:∀args w,(callFunc gf args).run P w=.ok (.enter gf args) w)
 {enc:α->Value} {Ok:α->World->Prop} {S Sp:List α->Prop} (hR:R<w.heap.size) (hseq:OverR R Env F (n - 1) P gf lb enc Ok S Sp w.heap.size) (hps:ps.size=1)
 (I Ix:List α->World->Prop) (hIw:∀pre U V,I pre U->Below U.heap.size U V->I pre V) (hIl:∀pre U l o,w.heap.size<=l->NoC U l->I pre U->I pre (U.putObj l o)) (hXl:∀pre U l o,w.heap.size<=l->NoC U l->Ix pre U->Ix pre (U.putObj l o)) (hOw:∀x U V,Ok x U->Below U.heap.size U V->Ok x V) (hOl:∀x U l o,w.heap.size<=l->NoC U l->Ok x U->Ok x (U.putObj l o))
 (hIb:∀pre U,I pre U->w.heap.size<=U.heap.size/\Env U) (h0:I [] w) (Asg:α->Act->World->Prop) (hAl:∀x a' U l o,w.heap.size<=l->NoC U l->Asg x a' U->Asg x a' (U.putObj l o))
 (hassign:∀(l:Nat) (x:α) (W:World) (K:Act->World->Prop),w.heap.size<=W.heap.size->Ok x W->(∀a' W',Below W.heap.size W W'->Asg x a' W'->K a' W')->assign.wpIn (F.inRound l) (n - 1 - 1) P (Exit.then K (fun _ _ _=>False)) { tmps:=(ps.zip #[enc x]).foldl (fun t (p,v)=>t.setIfInBounds p v) a.tmps,defers:=[] } W)
 (hbody:∀(l:Nat) (pre:List α) (x:α) (a':Act) (W:World),w.heap.size<=l->I pre W->Ok x W->Asg x a' W->body.wpIn (F.inRound l) (n - 1 - 1) P (roundLeftR R I Ix (pre++ [x]) W) a' W)
 (hdone:∀(D:Nat) (xs:List α) (W:World),w.heap.size<=D->S xs->I xs W->W.heap[D]?=some (.deferred (some []))->Q .normal { a with defers:={ target:=.collected D,args:=#[] } :: a.defers } W)
 (hstop:∀(D:Nat) (pre:List α) (W:World),w.heap.size<=D->Sp pre->Ix pre W->W.heap[D]?=some (.deferred (some []))->Code.ret.wpIn F n P Q { a with defers:={ target:=.collected D,args:=#[] } :: a.defers } W):
 (Code.rangeFunc g ps assign body).wpIn F n P Q a w:=by
 refine wpIn_rangeFunc (fun fn hfn=>?_);rw[hro];obtain⟨D,hD⟩:=nm w.heap.size;obtain⟨rc,hrc⟩:∃rc:LoopState->Option Code->Obj,rc=fun st pe=>.loop { state:=st,pending:=pe,fn,tmps:=a.tmps,params:=ps,assign,body,defers:=D }:=⟨_,rfl⟩
 obtain⟨W1,hW1⟩:=nm ((w.alloc (.deferred (some []))).alloc (rc .ready none));have bW1:Below w.heap.size w W1:=by rw[<-hW1];exact((Below.refl _ w).alloc lZ _).alloc (by simp) _
 have sz1:W1.heap.size=D+2:=by rw[<-hW1];simp[hD]
 have at1:W1.heap[D+1]?=some (rc .ready none)/\W1.heap[D]?=some (.deferred (some [])):=by
  rw[<-hW1];constructor
  .
   have:=World.alloc_heap_new (w.alloc (.deferred (some []))) (rc .ready none);rw[World.size_alloc,hD] at this;exact this
  .
   have h2:=World.alloc_heap_new w (.deferred (some []));rw[hD] at h2;exact(Below.heap_alloc _ _ _ (by simp[hD])).trans h2
 have noC:∀(U:World) st pe,U.heap[D+1]?=some (rc st pe)->NoC U (D+1):=by
  intro U st pe hU o ho;rw[hU] at ho;cases ho;rw[hrc];rfl
 let J:List α->World->Prop:=fun pre U=>I pre U/\U.heap[D+1]?=some (rc .ready none)/\U.heap[D]?=some (.deferred (some []))
 let Jx:List α->World->Prop:=fun pre U=>Ix pre U/\U.heap[D+1]?=some (rc .done (some .ret))/\U.heap[D]?=some (.deferred (some []))
 refine⟨D+1,[{ target:=.collected D,args:=#[] }],W1,{ target:=.fn (.func gf) lb,args:=#[.func (.yield (D+1)) #[] #[]] },W1,gf,#[.func (.yield (D+1)) #[] #[]]++lb,W1,?_,?_,?_,?_,fun _=>h1,?_⟩
 .
  have:=run_enterLoop_outer (P:=P) (w:=w) fn a.tmps ps assign body;rw[<-hW1,hrc,<-hD];exact this
 . simp only[resolve,hg]
   simp[go_sem]
 .
  intro f' hf';simp[Target.leads] at hf';subst hf';exact hF
 . simp[invoke,go_sem,eg]
 .
  have hcall:=hseq (D+1) J Jx W1 (by omega) (fun pre U V hJ hb=>⟨hIw pre U V hJ.1 hb,(hb.block _ (Array.getElem?_eq_some_iff.1 hJ.2.1).1).trans hJ.2.1,(hb.block _ (Array.getElem?_eq_some_iff.1 hJ.2.2).1).trans hJ.2.2⟩)
   (fun pre U hJ=>⟨noC U _ _ hJ.2.1,(Array.getElem?_eq_some_iff.1 hJ.2.1).1,hIb pre U hJ.1⟩) ?_ ⟨hIw [] w W1 h0 bW1,at1⟩
  .
   refine hcall.mono ?_;rintro e V ⟨⟨v,rfl⟩,hV⟩;rcases hV with ⟨xs,hS,hI,hl,hd⟩|⟨pre,hSp,hX,hl,hd⟩
   .
    have hl':=hl;rw[hrc] at hl';refine⟨none,_,run_endLoop (P:=P) hl' (by simp),?_⟩;exact hdone D xs _ (Nat.le_of_eq hD) hS (hIl xs V _ _ (by omega) (noC V _ _ hl) hI) ((World.putObj_heap_other (by omega)).trans hd)
   .
    have hl':=hl;rw[hrc] at hl';refine⟨some .ret,_,run_endLoop (P:=P) hl' (by simp),?_⟩;exact hstop D pre _ (Nat.le_of_eq hD) hSp (hXl pre V _ _ (by omega) (noC V _ _ hl) hX) ((World.putObj_heap_other (by omega)).trans hd)
  .
   rintro pre x U ⟨hI,hl,hd⟩ hok;have hl':=hl;rw[hrc] at hl';have hy:=run_yield (P:=P) (args:=#[enc x]) hl' (by simp[hps]);refine⟨fn,_,assign,body,hy,roundIn_of_wpIn hfn (hassign (D+1) x U _ (hIb pre U hI).1 hok (fun a' Ua hba hasg=>?_))⟩;have hla:Ua.heap[D+1]?=some (rc .ready none):=(hba.block _ (Array.getElem?_eq_some_iff.1 hl).1).trans hl;have hda:Ua.heap[D]?=some (.deferred (some [])):=(hba.block _ (Array.getElem?_eq_some_iff.1 hd).1).trans hd;have hlt:D+1<Ua.heap.size:=(Array.getElem?_eq_some_iff.1 hla).1;have hla':=hla;rw[hrc] at hla';obtain⟨U1,hU1⟩:=nm (Ua.putObj (D+1) (rc .busy none));have hbg:=run_beginRound (P:=P) hla' rfl;have eb:Ua.putObj (D+1) (.loop { state:=.busy,pending:=none,fn:=fn,tmps:=a.tmps,params:=ps,assign:=assign,body:=body,defers:=D })=U1:=by rw[<-hU1,hrc]
   rw[eb] at hbg;have hl1:U1.heap[D+1]?=some (rc .busy none):=by rw[<-hU1];exact World.putObj_heap_same hlt
   have hd1:U1.heap[D]?=some (.deferred (some [])):=by rw[<-hU1];exact(World.putObj_heap_other (by omega)).trans hda
   have o1:Only (D+1) U U1:=by rw[<-hU1];exact(Only.of_below hba).trans (Only.put _ _ _)
   have hI1:I pre U1:=by rw[<-hU1];exact hIl pre Ua _ _ (by omega) (noC Ua _ _ hla) (hIw pre U Ua hI hba)
   have hok1:Ok x U1:=by rw[<-hU1];exact hOl x Ua _ _ (by omega) (noC Ua _ _ hla) (hOw x U Ua hok hba)
   have has1:Asg x a' U1:=by rw[<-hU1];exact hAl x a' Ua _ _ (by omega) (noC Ua _ _ hla) hasg
   refine⟨U1,hbg,?_⟩;refine wpIn_mono (hbody (D+1) pre x a' U1 (by omega) hI1 hok1 has1) ?_;rintro e a3 V hp;cases e with
   |normal=>
    obtain⟨hb,hI3⟩:=hp;have hl3:V.heap[D+1]?=some (rc .busy none):=(hb.block _ (Array.getElem?_eq_some_iff.1 hl1).1 (by omega)).trans hl1;have hd3:V.heap[D]?=some (.deferred (some [])):=(hb.block _ (Array.getElem?_eq_some_iff.1 hd1).1 (by omega)).trans hd1;have hl3':=hl3;rw[hrc] at hl3';refine⟨_,_,run_endRound (P:=P) none hl3',.inl ⟨rfl,⟨hIl _ V _ _ (by omega) (noC V _ _ hl3) hI3,?_,(World.putObj_heap_other (by omega)).trans hd3⟩,((Only2.of1 o1).trans (Only2.of2 hb)).trans (Only2.of1 (Only.put _ _ _))⟩⟩;rw[World.putObj_heap_same (Array.getElem?_eq_some_iff.1 hl3).1,hrc];rfl
   |ret=>
    obtain⟨hk,hX3⟩:=hp;have hl3:V.heap[D+1]?=some (rc .busy none):=hk.same _ _ hl1 (by rw[hrc];rfl);have hd3:V.heap[D]?=some (.deferred (some [])):=hk.same _ _ hd1 rfl;have hl3':=hl3;rw[hrc] at hl3';refine⟨_,_,run_endRound (P:=P) (some .ret) hl3',.inr ⟨rfl,hXl _ V _ _ (by omega) (noC V _ _ hl3) hX3,?_,(World.putObj_heap_other (by omega)).trans hd3⟩⟩;rw[World.putObj_heap_same (Array.getElem?_eq_some_iff.1 hl3).1,hrc];rfl
   |exit _=>exact hp.elim
   |goto _=>exact hp.elim
   |panic _=>exact hp.elim
   |outgrown=>exact hp.elim
end
end Go.Proofs.YtldjeecnapgakaaGreatDoor
