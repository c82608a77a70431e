/- rafterlaw's RigChecks, where the closed fact 'rigged' holds. -/
import Derived.Test.YtbbkamnfjejceaaGreatDoorR32RefD
namespace Go.Proofs.YtbbkamnfjejceaaGreatDoor
open Go.RowKit
set_option linter.unusedVariables false
set_option linter.unusedSimpArgs false
theorem Qo8(a1 a2 a3:Option Addr)(c1 c2 c3:Nat)(js:List S2)(bs:List B6)(hs:List H3)(w:World)(hg:Glob w)(hf:FrRow w a1 a2 a3 c1 c2 c3 js bs hs)(hz:FrSized js bs hs):
 Calls Tryz.prog 23 #[.agg #[.slice a1 js.length c1,.slice a2 bs.length c2,.slice a3 hs.length c3]] w fun e w'=>∃c at_,e=.returned (.agg #[.int .i64 c,.int .i64 at_])∧FrameFault js bs hs c at_∧Below w.heap.size w w':=by
 by_cases hm:Many js.length bs.length hs.length
 · exact Qo4 a1 a2 a3 c1 c2 c3 js bs hs w hg hf hz hm
 · exact Qo7 a1 a2 a3 c1 c2 c3 js bs hs w hg hf hz hm
theorem Glob.stay:Stay Glob:=⟨fun _ _ hb h=>h.below hb⟩
theorem Lent.stay(g1 g2 g3:Nat)(js:List S2)(bs:List B6)(hs:List H3):Stay (fun w=>Lent w g1 g2 g3 js bs hs):=⟨fun _ _ hb h=>h.below hb⟩
theorem FrRow.stay(a1 a2 a3:Option Addr)(c1 c2 c3:Nat)(js:List S2)(bs:List B6)(hs:List H3):Stay (fun w=>FrRow w a1 a2 a3 c1 c2 c3 js bs hs):=⟨fun _ _ hb h=>h.below hb⟩
set_option maxRecDepth 100000 in
set_option maxHeartbeats 8000000 in
theorem Qmk(hrig:∀v:World,Glob v→Calls Tryz.prog 21 #[] v fun e v'=>e=.returned (.bool true)∧Below v.heap.size v v')
 (a1 a2 a3:Option Addr) (c1 c2 c3:Nat) (js:List S2) (bs:List B6) (hs:List H3) (w:World) (hg:Glob w) (hm:Marks3 w) (hf:FrRow w a1 a2 a3 c1 c2 c3 js bs hs) (hz:FrSized js bs hs)
 (n1:js.length≤1048576) (n2:bs.length≤1048576) (n3:hs.length≤1048576):
 Calls Tryz.prog 5 #[.agg #[.slice a1 js.length c1,.slice a2 bs.length c2,.slice a3 hs.length c3]] w fun e w'=>e=.returned (.bool true)∧Below w.heap.size w w':=by
 have HRG:=Hi hrig;have HZ:=Hi hz;have HP0:=Hi ((((PBag.start w).put (P:=Glob) hg Glob.stay).put (P:=Marks3) hm Marks3.stay).put (P:=fun v=>FrRow v a1 a2 a3 c1 c2 c3 js bs hs) hf (FrRow.stay _ _ _ _ _ _ _ _ _));clear hrig hg hm hf hz;go_enter Tryz.func5,Tryz.ntmps5;go_wp2_with fail;obtain⟨W,hW⟩:∃W,w.alloc (.cells #[.slice a1 js.length c1,.slice a2 bs.length c2,.slice a3 hs.length c3] 54)=W:=⟨_,rfl⟩;have HP:Hid (PBag w W [fun v=>SB v w.heap.size 54 #[.slice a1 js.length c1,.slice a2 bs.length c2,.slice a3 hs.length c3],fun v=>FrRow v a1 a2 a3 c1 c2 c3 js bs hs,Marks3,Glob]):=
  Hi (by rw[←hW];exact(HP0.out.below ((Below.refl _ _).alloc (Nat.le_refl _) _)).put (P:=fun v=>SB v w.heap.size 54 #[.slice a1 js.length c1,.slice a2 bs.length c2,.slice a3 hs.length c3]) (SB.new w _ _) (SB.stay _ _ _))
 rw[hW];clear hW HP0;have hgl:=HP.out.get Glob (by
  (focus(repeat(first|exact List.Mem.head _|apply List.Mem.tail)))
  skip)
 go_fit (HRG.out W hgl);rintro e w1 ⟨rfl,hb⟩;clear hgl;have HQ:=Hi (HP.out.below hb);clear HP;have HP:=HQ;clear HQ;clear hb;have hbx:=HP.out.get (fun v=>SB v w.heap.size 54 #[.slice a1 js.length c1,.slice a2 bs.length c2,.slice a3 hs.length c3]) (by
  (focus(repeat(first|exact List.Mem.head _|apply List.Mem.tail)))
  skip)
 have x0:w1.cell? ⟨w.heap.size,0,none⟩=some (.slice a1 js.length c1):=hbx.cell 0;have x1:w1.cell? ⟨w.heap.size,1,none⟩=some (.slice a2 bs.length c2):=hbx.cell 1;have x2:w1.cell? ⟨w.heap.size,2,none⟩=some (.slice a3 hs.length c3):=hbx.cell 2;clear hbx;go_wp2_with fail;clear x0 x1 x2;have hmk:=HP.out.get Marks3 (by
  (focus(repeat(first|exact List.Mem.head _|apply List.Mem.tail)))
  skip)
 have hfr:=HP.out.get (fun v=>FrRow v a1 a2 a3 c1 c2 c3 js bs hs) (by
  (focus(repeat(first|exact List.Mem.head _|apply List.Mem.tail)))
  skip)
 go_fit (Qon a1 a2 a3 c1 c2 c3 js bs hs w1 hmk hfr.j hfr.b hfr.h n1 n2 n3);rintro e w2 ⟨g1,g2,g3,rfl,r1,r2,r3,hb⟩;clear hmk hfr;have HQ:=Hi (HP.out.below hb);clear HP;have HP:=HQ;clear HQ;clear hb;obtain⟨bo,hbo⟩:∃bo,w2.heap.size=bo:=⟨_,rfl⟩;obtain⟨w3,hw3⟩:∃w3,w2.alloc (.cells #[.slice (some ⟨g1,0,none⟩) js.length (js.length+3),.slice (some ⟨g2,0,none⟩) bs.length (bs.length+3),.slice (some ⟨g3,0,none⟩) hs.length (hs.length+3)] 54)=w3:=⟨_,rfl⟩;have HQ:=Hi (((HP.out.put (P:=fun v=>Lent v g1 g2 g3 js bs hs) ⟨r1,r2,r3⟩ (Lent.stay _ _ _ _ _ _)).below (w':=w3) (by rw[←hw3];exact(Below.refl _ _).alloc (Nat.le_refl _) _)).put (P:=fun v=>SB v bo 54 #[.slice (some ⟨g1,0,none⟩) js.length (js.length+3),.slice (some ⟨g2,0,none⟩) bs.length (bs.length+3),.slice (some ⟨g3,0,none⟩) hs.length (hs.length+3)]) (by rw[←hw3,←hbo];exact SB.new w2 _ _) (SB.stay _ _ _));clear HP r1 r2 r3;have HP:=HQ;clear HQ
 have hbx:=HP.out.get (fun v=>SB v w.heap.size 54 #[.slice a1 js.length c1,.slice a2 bs.length c2,.slice a3 hs.length c3]) (by
  (focus(repeat(first|exact List.Mem.head _|apply List.Mem.tail)))
  skip)
 have x0:w3.cell? ⟨w.heap.size,0,none⟩=some (.slice a1 js.length c1):=hbx.cell 0;have x1:w3.cell? ⟨w.heap.size,1,none⟩=some (.slice a2 bs.length c2):=hbx.cell 1;have x2:w3.cell? ⟨w.heap.size,2,none⟩=some (.slice a3 hs.length c3):=hbx.cell 2;clear hbx;rw[←hw3] at x0 x1 x2;have HW3:=Hi hw3;have HBO:=Hi hbo;clear hw3 hbo;go_wp2_with fail;rw[HW3.out,HBO.out];clear x0 x1 x2;have hgl:=HP.out.get Glob (by
  (focus(repeat(first|exact List.Mem.head _|apply List.Mem.tail)))
  skip)
 have hfr:=HP.out.get (fun v=>FrRow v a1 a2 a3 c1 c2 c3 js bs hs) (by
  (focus(repeat(first|exact List.Mem.head _|apply List.Mem.tail)))
  skip)
 go_fit (Qo8 a1 a2 a3 c1 c2 c3 js bs hs w3 hgl hfr HZ.out);rintro e w4 ⟨c,at_,rfl,hff,hb⟩;clear hgl hfr;have HFF:=Hi hff;have HQ:=Hi (HP.out.below hb);clear HP;have HP:=HQ;clear HQ;clear hb hff;obtain⟨bg,hbg⟩:∃bg,w4.heap.size=bg:=⟨_,rfl⟩;obtain⟨w5,hw5⟩:∃w5,w4.alloc (.cells #[.int .i64 c,.int .i64 at_] 57)=w5:=⟨_,rfl⟩;have HQ:=Hi ((HP.out.below (w':=w5) (by rw[←hw5];exact(Below.refl _ _).alloc (Nat.le_refl _) _)).put (P:=fun v=>SB v bg 57 #[.int .i64 c,.int .i64 at_]) (by rw[←hw5,←hbg];exact SB.new w4 _ _) (SB.stay _ _ _));clear HP;have HP:=HQ;clear HQ;have hbo:=HP.out.get (fun v=>SB v bo 54 #[.slice (some ⟨g1,0,none⟩) js.length (js.length+3),.slice (some ⟨g2,0,none⟩) bs.length (bs.length+3),.slice (some ⟨g3,0,none⟩) hs.length (hs.length+3)]) (by
  (focus(repeat(first|exact List.Mem.head _|apply List.Mem.tail)))
  skip)
 have y0:w5.cell? ⟨bo,0,none⟩=some (.slice (some ⟨g1,0,none⟩) js.length (js.length+3)):=hbo.cell 0;have y1:w5.cell? ⟨bo,1,none⟩=some (.slice (some ⟨g2,0,none⟩) bs.length (bs.length+3)):=hbo.cell 1;have y2:w5.cell? ⟨bo,2,none⟩=some (.slice (some ⟨g3,0,none⟩) hs.length (hs.length+3)):=hbo.cell 2;clear hbo;rw[←hw5] at y0 y1 y2;have HW5:=Hi hw5;have HBG:=Hi hbg;clear hw5 hbg;go_wp2_with fail;rw[HW5.out,HBG.out];clear y0 y1 y2;have hgl:=HP.out.get Glob (by
  (focus(repeat(first|exact List.Mem.head _|apply List.Mem.tail)))
  skip)
 have hle:=HP.out.get (fun v=>Lent v g1 g2 g3 js bs hs) (by
  (focus(repeat(first|exact List.Mem.head _|apply List.Mem.tail)))
  skip)
 go_fit (Qiv _ _ _ _ _ _ js bs hs w5 hgl hle.row HZ.out);rintro e w6 ⟨c',at',k,rfl,hff,hk0,hk1,hb⟩;clear hgl hle;obtain⟨e1,e2⟩:=HFF.out.inj hff;obtain rfl:=e1;obtain rfl:=e2;have HK0:=Hi hk0;have HK1:=Hi hk1;have HQ:=Hi (HP.out.below hb);clear HP;have HP:=HQ;clear HQ;clear hb hff hk0 hk1;obtain⟨bh,hbh⟩:∃bh,w6.heap.size=bh:=⟨_,rfl⟩;obtain⟨w7,hw7⟩:∃w7,w6.alloc (.cells #[.int .i64 c,.int .i64 at_] 57)=w7:=⟨_,rfl⟩;have HQ:=Hi ((HP.out.below (w':=w7) (by rw[←hw7];exact(Below.refl _ _).alloc (Nat.le_refl _) _)).put (P:=fun v=>SB v bh 57 #[.int .i64 c,.int .i64 at_]) (by rw[←hw7,←hbh];exact SB.new w6 _ _) (SB.stay _ _ _));clear HP;have HP:=HQ;clear HQ;have hbx:=HP.out.get (fun v=>SB v w.heap.size 54 #[.slice a1 js.length c1,.slice a2 bs.length c2,.slice a3 hs.length c3]) (by
  (focus(repeat(first|exact List.Mem.head _|apply List.Mem.tail)))
  skip)
 have x0:w7.cell? ⟨w.heap.size,0,none⟩=some (.slice a1 js.length c1):=hbx.cell 0;have x1:w7.cell? ⟨w.heap.size,1,none⟩=some (.slice a2 bs.length c2):=hbx.cell 1;have x2:w7.cell? ⟨w.heap.size,2,none⟩=some (.slice a3 hs.length c3):=hbx.cell 2;clear hbx;have hbo:=HP.out.get (fun v=>SB v bo 54 #[.slice (some ⟨g1,0,none⟩) js.length (js.length+3),.slice (some ⟨g2,0,none⟩) bs.length (bs.length+3),.slice (some ⟨g3,0,none⟩) hs.length (hs.length+3)]) (by
  (focus(repeat(first|exact List.Mem.head _|apply List.Mem.tail)))
  skip)
 have y0:w7.cell? ⟨bo,0,none⟩=some (.slice (some ⟨g1,0,none⟩) js.length (js.length+3)):=hbo.cell 0;have y1:w7.cell? ⟨bo,1,none⟩=some (.slice (some ⟨g2,0,none⟩) bs.length (bs.length+3)):=hbo.cell 1;have y2:w7.cell? ⟨bo,2,none⟩=some (.slice (some ⟨g3,0,none⟩) hs.length (hs.length+3)):=hbo.cell 2;clear hbo;have hbg:=HP.out.get (fun v=>SB v bg 57 #[.int .i64 c,.int .i64 at_]) (by
  (focus(repeat(first|exact List.Mem.head _|apply List.Mem.tail)))
  skip)
 have u0:w7.cell? ⟨bg,0,none⟩=some (.int .i64 c):=hbg.cell 0;have u1:w7.cell? ⟨bg,1,none⟩=some (.int .i64 at_):=hbg.cell 1;clear hbg;have hbh:=HP.out.get (fun v=>SB v bh 57 #[.int .i64 c,.int .i64 at_]) (by
  (focus(repeat(first|exact List.Mem.head _|apply List.Mem.tail)))
  skip)
 have v0:w7.cell? ⟨bh,0,none⟩=some (.int .i64 c):=hbh.cell 0;have v1:w7.cell? ⟨bh,1,none⟩=some (.int .i64 at_):=hbh.cell 1;clear hbh;rw[←hw7] at x0 x1 x2 y0 y1 y2 u0 u1 v0 v1;have HW7:=Hi hw7;have HBH:=Hi hbh;clear hw7 hbh;by_cases hc:c=0
 ·
  have e0:(c == 0)=true:=by rw[beq_iff_eq];exact hc
  have hnm:¬Many js.length bs.length hs.length:=by
   rcases HFF.out with ⟨_,h,_⟩|⟨h,_⟩|⟨h,_⟩
   · rw[h] at hc
     exact absurd hc (by decide)
   · exact h
   · exact h
  have b1:js.length≤10:=Nat.le_of_not_lt fun h=>hnm (.inr (.inl h))
  have b2:bs.length≤24:=Nat.le_of_not_lt fun h=>hnm (.inr (.inr (.inl h)))
  have b3:hs.length≤20:=Nat.le_of_not_lt fun h=>hnm (.inr (.inr (.inr h)))
  have hk:=HK1.out hc;subst hk;have hw1:IntKind.i64.wrap (2*(js.length:Int))=2*(js.length:Int):=by rw[IntKind.wrap_i64];omega
  have hw2:IntKind.i64.wrap ((bs.length:Int)+(hs.length:Int) - 2*(js.length:Int))=(bs.length:Int)+(hs.length:Int) - 2*(js.length:Int):=by rw[IntKind.wrap_i64];omega
  clear hnm hc;go_wp2_with fail;rw[HW7.out,HBH.out];rw[HW7.out] at x0 x1 x2 y0 y1 y2 u0 u1 v0 v1;go_region_held3 (fun v=>v.cell? ⟨w.heap.size,0,none⟩=some (.slice a1 js.length c1)∧v.cell? ⟨w.heap.size,1,none⟩=some (.slice a2 bs.length c2)∧v.cell? ⟨w.heap.size,2,none⟩=some (.slice a3 hs.length c3)) ((first|(simp [*];done)|go_keep)) (first
   |(
    go_at_call 25;apply Calls.mono;apply Qpq a1 a2 a3 c1 c2 c3 js.length bs.length hs.length;exact b2;exact b3;rintro e wn ⟨rfl,hbn⟩;have HQ:=Hi ((by first|exact HP.out|exact HP.out.drew:PBag w _ _).below hbn);clear HP hbn;have HP:=HQ;clear HQ;have hbx:=HP.out.get (fun v=>SB v w.heap.size 54 #[.slice a1 js.length c1,.slice a2 bs.length c2,.slice a3 hs.length c3]) (by
     (focus(repeat(first|exact List.Mem.head _|apply List.Mem.tail)))
     skip)
    have x0:wn.cell? ⟨w.heap.size,0,none⟩=some (.slice a1 js.length c1):=hbx.cell 0;have x1:wn.cell? ⟨w.heap.size,1,none⟩=some (.slice a2 bs.length c2):=hbx.cell 1;have x2:wn.cell? ⟨w.heap.size,2,none⟩=some (.slice a3 hs.length c3):=hbx.cell 2;clear hbx;have hbo:=HP.out.get (fun v=>SB v bo 54 #[.slice (some ⟨g1,0,none⟩) js.length (js.length+3),.slice (some ⟨g2,0,none⟩) bs.length (bs.length+3),.slice (some ⟨g3,0,none⟩) hs.length (hs.length+3)]) (by
     (focus(repeat(first|exact List.Mem.head _|apply List.Mem.tail)))
     skip)
    have y0:wn.cell? ⟨bo,0,none⟩=some (.slice (some ⟨g1,0,none⟩) js.length (js.length+3)):=hbo.cell 0;have y1:wn.cell? ⟨bo,1,none⟩=some (.slice (some ⟨g2,0,none⟩) bs.length (bs.length+3)):=hbo.cell 1;have y2:wn.cell? ⟨bo,2,none⟩=some (.slice (some ⟨g3,0,none⟩) hs.length (hs.length+3)):=hbo.cell 2;clear hbo;have hbg:=HP.out.get (fun v=>SB v bg 57 #[.int .i64 c,.int .i64 at_]) (by
     (focus(repeat(first|exact List.Mem.head _|apply List.Mem.tail)))
     skip)
    have u0:wn.cell? ⟨bg,0,none⟩=some (.int .i64 c):=hbg.cell 0;have u1:wn.cell? ⟨bg,1,none⟩=some (.int .i64 at_):=hbg.cell 1;clear hbg;have hbh:=HP.out.get (fun v=>SB v bh 57 #[.int .i64 c,.int .i64 at_]) (by
     (focus(repeat(first|exact List.Mem.head _|apply List.Mem.tail)))
     skip)
    have v0:wn.cell? ⟨bh,0,none⟩=some (.int .i64 c):=hbh.cell 0;have v1:wn.cell? ⟨bh,1,none⟩=some (.int .i64 at_):=hbh.cell 1;clear hbh
    skip)
   )
  go_wp2_with fail;go_region_held3 (fun v=>v.cell? ⟨w.heap.size,0,none⟩=some (.slice a1 js.length c1)∧v.cell? ⟨w.heap.size,1,none⟩=some (.slice a2 bs.length c2)∧v.cell? ⟨w.heap.size,2,none⟩=some (.slice a3 hs.length c3)∧v.cell? ⟨bo,0,none⟩=some (.slice (some ⟨g1,0,none⟩) js.length (js.length+3))∧v.cell? ⟨bo,1,none⟩=some (.slice (some ⟨g2,0,none⟩) bs.length (bs.length+3))∧v.cell? ⟨bo,2,none⟩=some (.slice (some ⟨g3,0,none⟩) hs.length (hs.length+3))∧v.cell? ⟨bg,0,none⟩=some (.int .i64 c)∧v.cell? ⟨bg,1,none⟩=some (.int .i64 at_)∧v.cell? ⟨bh,0,none⟩=some (.int .i64 c)∧v.cell? ⟨bh,1,none⟩=some (.int .i64 at_)) ((first|(simp [*];done)|go_keep)) (first
   |(
    go_at_call 26;apply Calls.mono;apply Qdu (some ⟨g1,0,none⟩) (some ⟨g2,0,none⟩) (some ⟨g3,0,none⟩) (js.length+3) (bs.length+3) (hs.length+3) js bs hs
    (first|exact HP.out.get Glob (by
      (focus(repeat(first|exact List.Mem.head _|apply List.Mem.tail)))
      skip)|exact HP.out.drew.get Glob (by
      (focus(repeat(first|exact List.Mem.head _|apply List.Mem.tail)))
      skip))
    (first|exact(HP.out.get (fun v=>Lent v g1 g2 g3 js bs hs) (by
      (focus(repeat(first|exact List.Mem.head _|apply List.Mem.tail)))
      skip)).row|exact(HP.out.drew.get (fun v=>Lent v g1 g2 g3 js bs hs) (by
      (focus(repeat(first|exact List.Mem.head _|apply List.Mem.tail)))
      skip)).row)
    exact HZ.out;rintro e wn ⟨c',at',rfl,hff,hbn⟩;obtain⟨e1,e2⟩:=HFF.out.inj hff;obtain rfl:=e1;obtain rfl:=e2;have HQ:=Hi ((by first|exact HP.out|exact HP.out.drew:PBag w _ _).below hbn);clear HP hff hbn;have HP:=HQ;clear HQ;have hbx:=HP.out.get (fun v=>SB v w.heap.size 54 #[.slice a1 js.length c1,.slice a2 bs.length c2,.slice a3 hs.length c3]) (by
     (focus(repeat(first|exact List.Mem.head _|apply List.Mem.tail)))
     skip)
    have x0:wn.cell? ⟨w.heap.size,0,none⟩=some (.slice a1 js.length c1):=hbx.cell 0;have x1:wn.cell? ⟨w.heap.size,1,none⟩=some (.slice a2 bs.length c2):=hbx.cell 1;have x2:wn.cell? ⟨w.heap.size,2,none⟩=some (.slice a3 hs.length c3):=hbx.cell 2;clear hbx;have hbo:=HP.out.get (fun v=>SB v bo 54 #[.slice (some ⟨g1,0,none⟩) js.length (js.length+3),.slice (some ⟨g2,0,none⟩) bs.length (bs.length+3),.slice (some ⟨g3,0,none⟩) hs.length (hs.length+3)]) (by
     (focus(repeat(first|exact List.Mem.head _|apply List.Mem.tail)))
     skip)
    have y0:wn.cell? ⟨bo,0,none⟩=some (.slice (some ⟨g1,0,none⟩) js.length (js.length+3)):=hbo.cell 0;have y1:wn.cell? ⟨bo,1,none⟩=some (.slice (some ⟨g2,0,none⟩) bs.length (bs.length+3)):=hbo.cell 1;have y2:wn.cell? ⟨bo,2,none⟩=some (.slice (some ⟨g3,0,none⟩) hs.length (hs.length+3)):=hbo.cell 2;clear hbo;have hbg:=HP.out.get (fun v=>SB v bg 57 #[.int .i64 c,.int .i64 at_]) (by
     (focus(repeat(first|exact List.Mem.head _|apply List.Mem.tail)))
     skip)
    have u0:wn.cell? ⟨bg,0,none⟩=some (.int .i64 c):=hbg.cell 0;have u1:wn.cell? ⟨bg,1,none⟩=some (.int .i64 at_):=hbg.cell 1;clear hbg;have hbh:=HP.out.get (fun v=>SB v bh 57 #[.int .i64 c,.int .i64 at_]) (by
     (focus(repeat(first|exact List.Mem.head _|apply List.Mem.tail)))
     skip)
    have v0:wn.cell? ⟨bh,0,none⟩=some (.int .i64 c):=hbh.cell 0;have v1:wn.cell? ⟨bh,1,none⟩=some (.int .i64 at_):=hbh.cell 1;clear hbh
    skip)
   |(
    go_at_call 27;apply Calls.mono;apply Qg3 g1 g2 g3 a1 a2 a3 c1 c2 c3 js bs hs
    (first|exact HP.out.get Marks3 (by
      (focus(repeat(first|exact List.Mem.head _|apply List.Mem.tail)))
      skip))
    (first|exact HP.out.get (fun v=>Lent v g1 g2 g3 js bs hs) (by
      (focus(repeat(first|exact List.Mem.head _|apply List.Mem.tail)))
      skip))
    (first|exact HP.out.get (fun v=>FrRow v a1 a2 a3 c1 c2 c3 js bs hs) (by
      (focus(repeat(first|exact List.Mem.head _|apply List.Mem.tail)))
      skip))
    exact n1;exact n2;exact n3;rintro e wn ⟨rfl,hbn⟩;have HQ:=Hi (HP.out.below hbn);clear HP hbn;have HP:=HQ;clear HQ;have hbx:=HP.out.get (fun v=>SB v w.heap.size 54 #[.slice a1 js.length c1,.slice a2 bs.length c2,.slice a3 hs.length c3]) (by
     (focus(repeat(first|exact List.Mem.head _|apply List.Mem.tail)))
     skip)
    have x0:wn.cell? ⟨w.heap.size,0,none⟩=some (.slice a1 js.length c1):=hbx.cell 0;have x1:wn.cell? ⟨w.heap.size,1,none⟩=some (.slice a2 bs.length c2):=hbx.cell 1;have x2:wn.cell? ⟨w.heap.size,2,none⟩=some (.slice a3 hs.length c3):=hbx.cell 2;clear hbx;have hbo:=HP.out.get (fun v=>SB v bo 54 #[.slice (some ⟨g1,0,none⟩) js.length (js.length+3),.slice (some ⟨g2,0,none⟩) bs.length (bs.length+3),.slice (some ⟨g3,0,none⟩) hs.length (hs.length+3)]) (by
     (focus(repeat(first|exact List.Mem.head _|apply List.Mem.tail)))
     skip)
    have y0:wn.cell? ⟨bo,0,none⟩=some (.slice (some ⟨g1,0,none⟩) js.length (js.length+3)):=hbo.cell 0;have y1:wn.cell? ⟨bo,1,none⟩=some (.slice (some ⟨g2,0,none⟩) bs.length (bs.length+3)):=hbo.cell 1;have y2:wn.cell? ⟨bo,2,none⟩=some (.slice (some ⟨g3,0,none⟩) hs.length (hs.length+3)):=hbo.cell 2;clear hbo;have hbg:=HP.out.get (fun v=>SB v bg 57 #[.int .i64 c,.int .i64 at_]) (by
     (focus(repeat(first|exact List.Mem.head _|apply List.Mem.tail)))
     skip)
    have u0:wn.cell? ⟨bg,0,none⟩=some (.int .i64 c):=hbg.cell 0;have u1:wn.cell? ⟨bg,1,none⟩=some (.int .i64 at_):=hbg.cell 1;clear hbg;have hbh:=HP.out.get (fun v=>SB v bh 57 #[.int .i64 c,.int .i64 at_]) (by
     (focus(repeat(first|exact List.Mem.head _|apply List.Mem.tail)))
     skip)
    have v0:wn.cell? ⟨bh,0,none⟩=some (.int .i64 c):=hbh.cell 0;have v1:wn.cell? ⟨bh,1,none⟩=some (.int .i64 at_):=hbh.cell 1;clear hbh
    skip)
   )
  all_goals
   go_wp2;go_ret;exact⟨by simp,HP.out.base⟩
 ·
  have e0:(c == 0)=false:=by rw[beq_eq_false_iff_ne];exact hc
  have hk:k=0:=HK0.out hc;subst hk;go_wp2_with fail;rw[HW7.out,HBH.out];rw[HW7.out] at x0 x1 x2 y0 y1 y2 u0 u1 v0 v1;go_region_held3 (fun v=>v.cell? ⟨w.heap.size,0,none⟩=some (.slice a1 js.length c1)∧v.cell? ⟨w.heap.size,1,none⟩=some (.slice a2 bs.length c2)∧v.cell? ⟨w.heap.size,2,none⟩=some (.slice a3 hs.length c3)∧v.cell? ⟨bo,0,none⟩=some (.slice (some ⟨g1,0,none⟩) js.length (js.length+3))∧v.cell? ⟨bo,1,none⟩=some (.slice (some ⟨g2,0,none⟩) bs.length (bs.length+3))∧v.cell? ⟨bo,2,none⟩=some (.slice (some ⟨g3,0,none⟩) hs.length (hs.length+3))∧v.cell? ⟨bg,0,none⟩=some (.int .i64 c)∧v.cell? ⟨bg,1,none⟩=some (.int .i64 at_)∧v.cell? ⟨bh,0,none⟩=some (.int .i64 c)∧v.cell? ⟨bh,1,none⟩=some (.int .i64 at_)) ((first|(simp [*];done)|go_keep)) (first
   |(
    go_at_call 26;apply Calls.mono;apply Qdu (some ⟨g1,0,none⟩) (some ⟨g2,0,none⟩) (some ⟨g3,0,none⟩) (js.length+3) (bs.length+3) (hs.length+3) js bs hs
    (first|exact HP.out.get Glob (by
      (focus(repeat(first|exact List.Mem.head _|apply List.Mem.tail)))
      skip)|exact HP.out.drew.get Glob (by
      (focus(repeat(first|exact List.Mem.head _|apply List.Mem.tail)))
      skip))
    (first|exact(HP.out.get (fun v=>Lent v g1 g2 g3 js bs hs) (by
      (focus(repeat(first|exact List.Mem.head _|apply List.Mem.tail)))
      skip)).row|exact(HP.out.drew.get (fun v=>Lent v g1 g2 g3 js bs hs) (by
      (focus(repeat(first|exact List.Mem.head _|apply List.Mem.tail)))
      skip)).row)
    exact HZ.out;rintro e wn ⟨c',at',rfl,hff,hbn⟩;obtain⟨e1,e2⟩:=HFF.out.inj hff;obtain rfl:=e1;obtain rfl:=e2;have HQ:=Hi ((by first|exact HP.out|exact HP.out.drew:PBag w _ _).below hbn);clear HP hff hbn;have HP:=HQ;clear HQ;have hbx:=HP.out.get (fun v=>SB v w.heap.size 54 #[.slice a1 js.length c1,.slice a2 bs.length c2,.slice a3 hs.length c3]) (by
     (focus(repeat(first|exact List.Mem.head _|apply List.Mem.tail)))
     skip)
    have x0:wn.cell? ⟨w.heap.size,0,none⟩=some (.slice a1 js.length c1):=hbx.cell 0;have x1:wn.cell? ⟨w.heap.size,1,none⟩=some (.slice a2 bs.length c2):=hbx.cell 1;have x2:wn.cell? ⟨w.heap.size,2,none⟩=some (.slice a3 hs.length c3):=hbx.cell 2;clear hbx;have hbo:=HP.out.get (fun v=>SB v bo 54 #[.slice (some ⟨g1,0,none⟩) js.length (js.length+3),.slice (some ⟨g2,0,none⟩) bs.length (bs.length+3),.slice (some ⟨g3,0,none⟩) hs.length (hs.length+3)]) (by
     (focus(repeat(first|exact List.Mem.head _|apply List.Mem.tail)))
     skip)
    have y0:wn.cell? ⟨bo,0,none⟩=some (.slice (some ⟨g1,0,none⟩) js.length (js.length+3)):=hbo.cell 0;have y1:wn.cell? ⟨bo,1,none⟩=some (.slice (some ⟨g2,0,none⟩) bs.length (bs.length+3)):=hbo.cell 1;have y2:wn.cell? ⟨bo,2,none⟩=some (.slice (some ⟨g3,0,none⟩) hs.length (hs.length+3)):=hbo.cell 2;clear hbo;have hbg:=HP.out.get (fun v=>SB v bg 57 #[.int .i64 c,.int .i64 at_]) (by
     (focus(repeat(first|exact List.Mem.head _|apply List.Mem.tail)))
     skip)
    have u0:wn.cell? ⟨bg,0,none⟩=some (.int .i64 c):=hbg.cell 0;have u1:wn.cell? ⟨bg,1,none⟩=some (.int .i64 at_):=hbg.cell 1;clear hbg;have hbh:=HP.out.get (fun v=>SB v bh 57 #[.int .i64 c,.int .i64 at_]) (by
     (focus(repeat(first|exact List.Mem.head _|apply List.Mem.tail)))
     skip)
    have v0:wn.cell? ⟨bh,0,none⟩=some (.int .i64 c):=hbh.cell 0;have v1:wn.cell? ⟨bh,1,none⟩=some (.int .i64 at_):=hbh.cell 1;clear hbh
    skip)
   |(
    go_at_call 27;apply Calls.mono;apply Qg3 g1 g2 g3 a1 a2 a3 c1 c2 c3 js bs hs
    (first|exact HP.out.get Marks3 (by
      (focus(repeat(first|exact List.Mem.head _|apply List.Mem.tail)))
      skip))
    (first|exact HP.out.get (fun v=>Lent v g1 g2 g3 js bs hs) (by
      (focus(repeat(first|exact List.Mem.head _|apply List.Mem.tail)))
      skip))
    (first|exact HP.out.get (fun v=>FrRow v a1 a2 a3 c1 c2 c3 js bs hs) (by
      (focus(repeat(first|exact List.Mem.head _|apply List.Mem.tail)))
      skip))
    exact n1;exact n2;exact n3;rintro e wn ⟨rfl,hbn⟩;have HQ:=Hi (HP.out.below hbn);clear HP hbn;have HP:=HQ;clear HQ;have hbx:=HP.out.get (fun v=>SB v w.heap.size 54 #[.slice a1 js.length c1,.slice a2 bs.length c2,.slice a3 hs.length c3]) (by
     (focus(repeat(first|exact List.Mem.head _|apply List.Mem.tail)))
     skip)
    have x0:wn.cell? ⟨w.heap.size,0,none⟩=some (.slice a1 js.length c1):=hbx.cell 0;have x1:wn.cell? ⟨w.heap.size,1,none⟩=some (.slice a2 bs.length c2):=hbx.cell 1;have x2:wn.cell? ⟨w.heap.size,2,none⟩=some (.slice a3 hs.length c3):=hbx.cell 2;clear hbx;have hbo:=HP.out.get (fun v=>SB v bo 54 #[.slice (some ⟨g1,0,none⟩) js.length (js.length+3),.slice (some ⟨g2,0,none⟩) bs.length (bs.length+3),.slice (some ⟨g3,0,none⟩) hs.length (hs.length+3)]) (by
     (focus(repeat(first|exact List.Mem.head _|apply List.Mem.tail)))
     skip)
    have y0:wn.cell? ⟨bo,0,none⟩=some (.slice (some ⟨g1,0,none⟩) js.length (js.length+3)):=hbo.cell 0;have y1:wn.cell? ⟨bo,1,none⟩=some (.slice (some ⟨g2,0,none⟩) bs.length (bs.length+3)):=hbo.cell 1;have y2:wn.cell? ⟨bo,2,none⟩=some (.slice (some ⟨g3,0,none⟩) hs.length (hs.length+3)):=hbo.cell 2;clear hbo;have hbg:=HP.out.get (fun v=>SB v bg 57 #[.int .i64 c,.int .i64 at_]) (by
     (focus(repeat(first|exact List.Mem.head _|apply List.Mem.tail)))
     skip)
    have u0:wn.cell? ⟨bg,0,none⟩=some (.int .i64 c):=hbg.cell 0;have u1:wn.cell? ⟨bg,1,none⟩=some (.int .i64 at_):=hbg.cell 1;clear hbg;have hbh:=HP.out.get (fun v=>SB v bh 57 #[.int .i64 c,.int .i64 at_]) (by
     (focus(repeat(first|exact List.Mem.head _|apply List.Mem.tail)))
     skip)
    have v0:wn.cell? ⟨bh,0,none⟩=some (.int .i64 c):=hbh.cell 0;have v1:wn.cell? ⟨bh,1,none⟩=some (.int .i64 at_):=hbh.cell 1;clear hbh
    skip)
   )
  all_goals
   go_wp2;go_ret;exact⟨by simp,HP.out.base⟩
end Go.Proofs.YtbbkamnfjejceaaGreatDoor
