/- raftersame's Kept: a frame that was lent stands as it did. -/
import Derived.Test.YtbbkamnfjejceaaGreatDoorR26LendE
import Derived.Test.YtbbkamnfjejceaaGreatDoorR27StillE
namespace Go.Proofs.YtbbkamnfjejceaaGreatDoor
open Go.RowKit
set_option linter.unusedVariables false
set_option linter.unusedSimpArgs false
structure Stay (P:World→Prop):Prop where
 step:∀u v:World,Below u.heap.size u v→P u→P v
structure PBag (w0 w:World) (L:List (World→Prop)):Prop where
 base:Below w0.heap.size w0 w
 ps:∀P,P∈ L→P w∧Stay P
theorem PBag.start(w:World):PBag w w []:=⟨Below.refl _ _,fun P h=>by cases h⟩
theorem PBag.below{w0 w w':World}{L:List (World→Prop)}(h:PBag w0 w L)(hb:Below w.heap.size w w'):PBag w0 w' L:=
 ⟨h.base.trans (hb.mono h.base.size),fun P hP=>⟨(h.ps P hP).2.step w w' hb (h.ps P hP).1,(h.ps P hP).2⟩⟩
theorem PBag.put{w0 w:World}{L:List (World→Prop)}{P:World→Prop}(h:PBag w0 w L)(hP:P w)(hs:Stay P):PBag w0 w (P :: L):=
 ⟨h.base,fun Q hQ=>by
   rcases List.mem_cons.1 hQ with rfl|hQ
   · exact⟨hP,hs⟩
   · exact h.ps Q hQ⟩
theorem PBag.drew{w0 w:World}{L:List (World→Prop)}(h:PBag w0 w L):PBag w0 w.drew L:=h.below ((Below.refl _ _).drew)
theorem PBag.get{w0 w:World}{L:List (World→Prop)}(h:PBag w0 w L)(P:World→Prop)(hP:P∈ L):P w:=(h.ps P hP).1
theorem SB.stay(b:Nat)(t:TypeId)(C:Array Value):Stay (fun w=>SB w b t C):=⟨fun _ _ hb h=>h.below hb h.lt⟩
theorem ARow.far{α:Type}{c:α→List Value}{w:World}{g cap b i:Nat}{es:List α}{v:Value}(h:ARow c w (some ⟨g,0,none⟩) cap es)(hne:b≠g):ARow c (w.setCell ⟨b,i,none⟩ v) (some ⟨g,0,none⟩) cap es:=by
 refine⟨h.fit,⟨fun j u hj=>?_⟩⟩;obtain⟨b',off,ha,hb,hc⟩:=h.row.cell j u hj;cases ha;exact⟨g,0,rfl,by simpa using hb,by rw[World.cell?_of_block (w:=w) (Below.heap_setCell w ⟨b,i,none⟩ v g (fun e=>hne e.symm))];exact hc⟩
theorem ARow.stay{α:Type}(c:α→List Value)(a:Option Addr)(cap:Nat)(es:List α):Stay (fun w=>ARow c w a cap es):=⟨fun _ _ hb h=>h.below hb⟩
structure Marks3 (w:World):Prop where
 s0:w.cell? ⟨1,0,none⟩=some (.string ⟨#[109,97,114,107]⟩)
 s1:w.cell? ⟨1,1,none⟩=some (.string ⟨#[]⟩)
 b0:w.cell? ⟨2,0,none⟩=some (.int .i64 (-9))
 b1:w.cell? ⟨2,1,none⟩=some (.int .i64 0)
 b2:w.cell? ⟨2,2,none⟩=some (.string ⟨#[]⟩)
 b3:w.cell? ⟨2,3,none⟩=some (.string ⟨#[]⟩)
 b4:w.cell? ⟨2,4,none⟩=some (.string ⟨#[]⟩)
 b5:w.cell? ⟨2,5,none⟩=some (.string ⟨#[]⟩)
 h0:w.cell? ⟨3,0,none⟩=some (.int .i64 (-9))
 h1:w.cell? ⟨3,1,none⟩=some (.int .i64 0)
 h2:w.cell? ⟨3,2,none⟩=some (.string ⟨#[]⟩)
theorem Qau{w w':World}(hb:Below w.heap.size w w'){b i:Nat}{v:Value}(h:w.cell? ⟨b,i,none⟩=some v):w'.cell? ⟨b,i,none⟩=some v:=
 (hb.cell (p:=⟨b,i,none⟩) (World.block_lt_of_cell? _ _ h)).trans h
theorem Marks3.stay:Stay Marks3:=⟨fun _ _ hb h=>⟨Qau hb h.s0,Qau hb h.s1,Qau hb h.b0,Qau hb h.b1,Qau hb h.b2,Qau hb h.b3,Qau hb h.b4,Qau hb h.b5,Qau hb h.h0,Qau hb h.h1,Qau hb h.h2⟩⟩
abbrev spotMark:S2:=⟨⟨#[109,97,114,107]⟩,⟨#[]⟩⟩
abbrev barMark:B6:=⟨-9,0,⟨#[]⟩,⟨#[]⟩,⟨#[]⟩,⟨#[]⟩⟩
abbrev holdMark:H3:=⟨-9,0,⟨#[]⟩⟩
theorem Tryz.frameInfo:(Tryz.prog.info? 54).map (·.size)=some 3:=by kernel_rfl
set_option maxRecDepth 100000 in
set_option maxHeartbeats 4000000 in
theorem Qon(a1 a2 a3:Option Addr)(c1 c2 c3:Nat)(js:List S2)(bs:List B6)(hs:List H3)(w:World)(hm:Marks3 w)(hj:ARow S2.cells w a1 c1 js)(hb:ARow B6.cells w a2 c2 bs)(hh:ARow H3.cells w a3 c3 hs)
 (n1:js.length≤1048576) (n2:bs.length≤1048576) (n3:hs.length≤1048576):
 Calls Tryz.prog 22 #[.agg #[.slice a1 js.length c1,.slice a2 bs.length c2,.slice a3 hs.length c3]] w fun e w'=>∃g1 g2 g3,e=.returned (.agg #[.slice (some ⟨g1,0,none⟩) js.length (js.length+3),.slice (some ⟨g2,0,none⟩) bs.length (bs.length+3),.slice (some ⟨g3,0,none⟩) hs.length (hs.length+3)])∧
  ARow S2.cells w' (some ⟨g1,0,none⟩) (js.length+3) (js++ [spotMark,spotMark,spotMark])∧ARow B6.cells w' (some ⟨g2,0,none⟩) (bs.length+3) (bs++ [barMark,barMark,barMark])∧ARow H3.cells w' (some ⟨g3,0,none⟩) (hs.length+3) (hs++ [holdMark,holdMark,holdMark])∧Below w.heap.size w w':=by
 have HJ:=Hi hj;have HBR:=Hi hb;have HH:=Hi hh;have HM:=Hi hm;clear hj hb hh hm;go_enter Tryz.func22,Tryz.ntmps22;go_wp2_with fail;obtain⟨W,hW⟩:∃W,(w.alloc (.cells #[.slice a1 js.length c1,.slice a2 bs.length c2,.slice a3 hs.length c3] 54)).alloc (.cells #[.slice none 0 0,.slice none 0 0,.slice none 0 0] 54)=W:=⟨_,rfl⟩;have hb0:Below w.heap.size w W:=by rw[←hW];exact Below.new2 w _ _
 have hs0:SB W w.heap.size 54 #[.slice a1 js.length c1,.slice a2 bs.length c2,.slice a3 hs.length c3]:=by rw[←hW];exact(SB.new w _ _).alloc _
 have hs1:SB W (w.heap.size+1) 54 #[.slice none 0 0,.slice none 0 0,.slice none 0 0]:=by rw[←hW];exact SB.new2 w _ _ _ _
 rw[hW];have HP:Hid (PBag w W [fun v=>SB v w.heap.size 54 #[.slice a1 js.length c1,.slice a2 bs.length c2,.slice a3 hs.length c3],fun v=>SB v (w.heap.size+1) 54 #[.slice none 0 0,.slice none 0 0,.slice none 0 0],Marks3]):=
  Hi (((((PBag.start w).put (P:=Marks3) HM.out Marks3.stay).below hb0).put (P:=fun v=>SB v (w.heap.size+1) 54 #[.slice none 0 0,.slice none 0 0,.slice none 0 0]) hs1 (SB.stay _ _ _)).put (P:=fun v=>SB v w.heap.size 54 #[.slice a1 js.length c1,.slice a2 bs.length c2,.slice a3 hs.length c3]) hs0 (SB.stay _ _ _))
 have ne0:w.heap.size+1≠w.heap.size:=by omega
 have ne1:w.heap.size+1≠1:=by have:=World.block_lt_of_cell? _ _ HM.out.s0;simp only at this;omega
 have ne2:w.heap.size+1≠2:=by have:=World.block_lt_of_cell? _ _ HM.out.b0;simp only at this;omega
 have ne3:w.heap.size+1≠3:=by have:=World.block_lt_of_cell? _ _ HM.out.h0;simp only at this;omega
 have ne4:w.heap.size≠0:=by have:=World.block_lt_of_cell? _ _ HM.out.s0;simp only at this;omega
 clear hW hb0 hs0 hs1;have hbx:SB W w.heap.size 54 #[.slice a1 js.length c1,.slice a2 bs.length c2,.slice a3 hs.length c3]:=HP.out.get (fun v=>SB v w.heap.size 54 #[.slice a1 js.length c1,.slice a2 bs.length c2,.slice a3 hs.length c3]) (by
  (focus(repeat(first|exact List.Mem.head _|apply List.Mem.tail)))
  skip)
 have hmm:Marks3 W:=HP.out.get Marks3 (by
  (focus(repeat(first|exact List.Mem.head _|apply List.Mem.tail)))
  skip)
 have x0:W.cell? ⟨w.heap.size,0,none⟩=some (.slice a1 js.length c1):=hbx.cell 0;have x1:W.cell? ⟨w.heap.size,1,none⟩=some (.slice a2 bs.length c2):=hbx.cell 1;have x2:W.cell? ⟨w.heap.size,2,none⟩=some (.slice a3 hs.length c3):=hbx.cell 2;have y0:=hmm.s0;have y1:=hmm.s1;have y2:=hmm.b0;have y3:=hmm.b1;have y4:=hmm.b2;have y5:=hmm.b3;have y6:=hmm.b4;have y7:=hmm.b5;have y8:=hmm.h0;have y9:=hmm.h1;have y10:=hmm.h2;have hre:SB W (w.heap.size+1) 54 #[.slice none 0 0,.slice none 0 0,.slice none 0 0]:=HP.out.get (fun v=>SB v (w.heap.size+1) 54 #[.slice none 0 0,.slice none 0 0,.slice none 0 0]) (by
  (focus(repeat(first|exact List.Mem.head _|apply List.Mem.tail)))
  skip)
 have z0:W.cell? ⟨w.heap.size+1,0,none⟩=some (.slice none 0 0):=hre.cell 0;have z1:W.cell? ⟨w.heap.size+1,1,none⟩=some (.slice none 0 0):=hre.cell 1;have z2:W.cell? ⟨w.heap.size+1,2,none⟩=some (.slice none 0 0):=hre.cell 2;have f0:=hre.free 0;have f1:=hre.free 1;have f2:=hre.free 2;clear hbx hmm hre
 go_region_held3 (fun v=>v.cell? ⟨w.heap.size,0,none⟩=some (.slice a1 js.length c1)∧v.cell? ⟨w.heap.size,1,none⟩=some (.slice a2 bs.length c2)∧v.cell? ⟨w.heap.size,2,none⟩=some (.slice a3 hs.length c3)∧v.cell? ⟨1,0,none⟩=some (.string ⟨#[109,97,114,107]⟩)∧v.cell? ⟨1,1,none⟩=some (.string ⟨#[]⟩)∧v.cell? ⟨2,0,none⟩=some (.int .i64 (-9))∧v.cell? ⟨2,1,none⟩=some (.int .i64 0)∧v.cell? ⟨2,2,none⟩=some (.string ⟨#[]⟩)∧v.cell? ⟨2,3,none⟩=some (.string ⟨#[]⟩)∧v.cell? ⟨2,4,none⟩=some (.string ⟨#[]⟩)∧v.cell? ⟨2,5,none⟩=some (.string ⟨#[]⟩)∧v.cell? ⟨3,0,none⟩=some (.int .i64 (-9))∧v.cell? ⟨3,1,none⟩=some (.int .i64 0)∧v.cell? ⟨3,2,none⟩=some (.string ⟨#[]⟩)) ((first|(simp [*];done)|go_keep)) (first
  |
   (go_at_call_of 62 (Value.slice a1 js.length c1)
    apply Calls.mono;apply Qmn a1 c1 js;(first|exact HJ.out.below HP.out.base|exact HJ.out.below HP.out.base.drew);exact n1;rintro e wn ⟨g1,hgs,rfl,hrow,hbn⟩;have neg1:w.heap.size+1≠g1:=by
     have hf1:=(HP.out.get (fun v=>SB v (w.heap.size+1) 54 #[.slice none 0 0,.slice none 0 0,.slice none 0 0]) (by
      (focus(repeat(first|exact List.Mem.head _|apply List.Mem.tail)))
      skip)).lt
     try simp only[World.size_drew] at hgs
     omega;skip
    have HQ:=Hi (((by first|exact HP.out|exact HP.out.drew:PBag w _ _).below hbn).put (P:=fun v=>ARow S2.cells v (some ⟨g1,0,none⟩) (js.length+3) (js++ [spotMark,spotMark,spotMark])) hrow (ARow.stay _ _ _ _));clear HP hrow hbn hgs;have HP:=HQ;clear HQ;have hbx:SB wn w.heap.size 54 #[.slice a1 js.length c1,.slice a2 bs.length c2,.slice a3 hs.length c3]:=HP.out.get (fun v=>SB v w.heap.size 54 #[.slice a1 js.length c1,.slice a2 bs.length c2,.slice a3 hs.length c3]) (by
     (focus(repeat(first|exact List.Mem.head _|apply List.Mem.tail)))
     skip)
    have hmm:Marks3 wn:=HP.out.get Marks3 (by
     (focus(repeat(first|exact List.Mem.head _|apply List.Mem.tail)))
     skip)
    have x0:wn.cell? ⟨w.heap.size,0,none⟩=some (.slice a1 js.length c1):=hbx.cell 0;have x1:wn.cell? ⟨w.heap.size,1,none⟩=some (.slice a2 bs.length c2):=hbx.cell 1;have x2:wn.cell? ⟨w.heap.size,2,none⟩=some (.slice a3 hs.length c3):=hbx.cell 2;have y0:=hmm.s0;have y1:=hmm.s1;have y2:=hmm.b0;have y3:=hmm.b1;have y4:=hmm.b2;have y5:=hmm.b3;have y6:=hmm.b4;have y7:=hmm.b5;have y8:=hmm.h0;have y9:=hmm.h1;have y10:=hmm.h2;have hre:SB wn (w.heap.size+1) 54 #[.slice none 0 0,.slice none 0 0,.slice none 0 0]:=HP.out.get (fun v=>SB v (w.heap.size+1) 54 #[.slice none 0 0,.slice none 0 0,.slice none 0 0]) (by
     (focus(repeat(first|exact List.Mem.head _|apply List.Mem.tail)))
     skip)
    have z0:wn.cell? ⟨w.heap.size+1,0,none⟩=some (.slice none 0 0):=hre.cell 0;have z1:wn.cell? ⟨w.heap.size+1,1,none⟩=some (.slice none 0 0):=hre.cell 1;have z2:wn.cell? ⟨w.heap.size+1,2,none⟩=some (.slice none 0 0):=hre.cell 2;have f0:=hre.free 0;have f1:=hre.free 1;have f2:=hre.free 2;clear hbx hmm hre
    skip)
  |
   (go_at_call_of 63 (Value.slice a2 bs.length c2)
    apply Calls.mono;apply Qmp a2 c2 bs;(first|exact HBR.out.below HP.out.base|exact HBR.out.below HP.out.base.drew);exact n2;rintro e wn ⟨g2,hgs,rfl,hrow,hbn⟩;have neg2:w.heap.size+1≠g2:=by
     have hf1:=(HP.out.get (fun v=>SB v (w.heap.size+1) 54 #[.slice none 0 0,.slice none 0 0,.slice none 0 0]) (by
      (focus(repeat(first|exact List.Mem.head _|apply List.Mem.tail)))
      skip)).lt
     try simp only[World.size_drew] at hgs
     omega;skip
    have HQ:=Hi (((by first|exact HP.out|exact HP.out.drew:PBag w _ _).below hbn).put (P:=fun v=>ARow B6.cells v (some ⟨g2,0,none⟩) (bs.length+3) (bs++ [barMark,barMark,barMark])) hrow (ARow.stay _ _ _ _));clear HP hrow hbn hgs;have HP:=HQ;clear HQ;have hbx:SB wn w.heap.size 54 #[.slice a1 js.length c1,.slice a2 bs.length c2,.slice a3 hs.length c3]:=HP.out.get (fun v=>SB v w.heap.size 54 #[.slice a1 js.length c1,.slice a2 bs.length c2,.slice a3 hs.length c3]) (by
     (focus(repeat(first|exact List.Mem.head _|apply List.Mem.tail)))
     skip)
    have hmm:Marks3 wn:=HP.out.get Marks3 (by
     (focus(repeat(first|exact List.Mem.head _|apply List.Mem.tail)))
     skip)
    have x0:wn.cell? ⟨w.heap.size,0,none⟩=some (.slice a1 js.length c1):=hbx.cell 0;have x1:wn.cell? ⟨w.heap.size,1,none⟩=some (.slice a2 bs.length c2):=hbx.cell 1;have x2:wn.cell? ⟨w.heap.size,2,none⟩=some (.slice a3 hs.length c3):=hbx.cell 2;have y0:=hmm.s0;have y1:=hmm.s1;have y2:=hmm.b0;have y3:=hmm.b1;have y4:=hmm.b2;have y5:=hmm.b3;have y6:=hmm.b4;have y7:=hmm.b5;have y8:=hmm.h0;have y9:=hmm.h1;have y10:=hmm.h2;have hre:SB wn (w.heap.size+1) 54 #[.slice none 0 0,.slice none 0 0,.slice none 0 0]:=HP.out.get (fun v=>SB v (w.heap.size+1) 54 #[.slice none 0 0,.slice none 0 0,.slice none 0 0]) (by
     (focus(repeat(first|exact List.Mem.head _|apply List.Mem.tail)))
     skip)
    have z0:wn.cell? ⟨w.heap.size+1,0,none⟩=some (.slice none 0 0):=hre.cell 0;have z1:wn.cell? ⟨w.heap.size+1,1,none⟩=some (.slice none 0 0):=hre.cell 1;have z2:wn.cell? ⟨w.heap.size+1,2,none⟩=some (.slice none 0 0):=hre.cell 2;have f0:=hre.free 0;have f1:=hre.free 1;have f2:=hre.free 2;clear hbx hmm hre
    skip)
  |
   (go_at_call_of 64 (Value.slice a3 hs.length c3)
    apply Calls.mono;apply Qmr a3 c3 hs;(first|exact HH.out.below HP.out.base|exact HH.out.below HP.out.base.drew);exact n3;rintro e wn ⟨g3,hgs,rfl,hrow,hbn⟩;have neg3:w.heap.size+1≠g3:=by
     have hf1:=(HP.out.get (fun v=>SB v (w.heap.size+1) 54 #[.slice none 0 0,.slice none 0 0,.slice none 0 0]) (by
      (focus(repeat(first|exact List.Mem.head _|apply List.Mem.tail)))
      skip)).lt
     try simp only[World.size_drew] at hgs
     omega;skip
    have HQ:=Hi (((by first|exact HP.out|exact HP.out.drew:PBag w _ _).below hbn).put (P:=fun v=>ARow H3.cells v (some ⟨g3,0,none⟩) (hs.length+3) (hs++ [holdMark,holdMark,holdMark])) hrow (ARow.stay _ _ _ _));clear HP hrow hbn hgs;have HP:=HQ;clear HQ;have hbx:SB wn w.heap.size 54 #[.slice a1 js.length c1,.slice a2 bs.length c2,.slice a3 hs.length c3]:=HP.out.get (fun v=>SB v w.heap.size 54 #[.slice a1 js.length c1,.slice a2 bs.length c2,.slice a3 hs.length c3]) (by
     (focus(repeat(first|exact List.Mem.head _|apply List.Mem.tail)))
     skip)
    have hmm:Marks3 wn:=HP.out.get Marks3 (by
     (focus(repeat(first|exact List.Mem.head _|apply List.Mem.tail)))
     skip)
    have x0:wn.cell? ⟨w.heap.size,0,none⟩=some (.slice a1 js.length c1):=hbx.cell 0;have x1:wn.cell? ⟨w.heap.size,1,none⟩=some (.slice a2 bs.length c2):=hbx.cell 1;have x2:wn.cell? ⟨w.heap.size,2,none⟩=some (.slice a3 hs.length c3):=hbx.cell 2;have y0:=hmm.s0;have y1:=hmm.s1;have y2:=hmm.b0;have y3:=hmm.b1;have y4:=hmm.b2;have y5:=hmm.b3;have y6:=hmm.b4;have y7:=hmm.b5;have y8:=hmm.h0;have y9:=hmm.h1;have y10:=hmm.h2;have hre:SB wn (w.heap.size+1) 54 #[.slice none 0 0,.slice none 0 0,.slice none 0 0]:=HP.out.get (fun v=>SB v (w.heap.size+1) 54 #[.slice none 0 0,.slice none 0 0,.slice none 0 0]) (by
     (focus(repeat(first|exact List.Mem.head _|apply List.Mem.tail)))
     skip)
    have z0:wn.cell? ⟨w.heap.size+1,0,none⟩=some (.slice none 0 0):=hre.cell 0;have z1:wn.cell? ⟨w.heap.size+1,1,none⟩=some (.slice none 0 0):=hre.cell 1;have z2:wn.cell? ⟨w.heap.size+1,2,none⟩=some (.slice none 0 0):=hre.cell 2;have f0:=hre.free 0;have f1:=hre.free 1;have f2:=hre.free 2;clear hbx hmm hre
    skip)
  )
 go_wp2;have hre:SB wn (w.heap.size+1) 54 #[.slice none 0 0,.slice none 0 0,.slice none 0 0]:=HP.out.get (fun v=>SB v (w.heap.size+1) 54 #[.slice none 0 0,.slice none 0 0,.slice none 0 0]) (by
  (focus(repeat(first|exact List.Mem.head _|apply List.Mem.tail)))
  skip)
 have r1:=HP.out.get (fun v=>ARow S2.cells v (some ⟨g1,0,none⟩) (js.length+3) (js++ [spotMark,spotMark,spotMark])) (by
  (focus(repeat(first|exact List.Mem.head _|apply List.Mem.tail)))
  skip)
 have r2:=HP.out.get (fun v=>ARow B6.cells v (some ⟨g2,0,none⟩) (bs.length+3) (bs++ [barMark,barMark,barMark])) (by
  (focus(repeat(first|exact List.Mem.head _|apply List.Mem.tail)))
  skip)
 have r3:=HP.out.get (fun v=>ARow H3.cells v (some ⟨g3,0,none⟩) (hs.length+3) (hs++ [holdMark,holdMark,holdMark])) (by
  (focus(repeat(first|exact List.Mem.head _|apply List.Mem.tail)))
  skip)
 have hB:=HP.out.base;refine bodyPost_ret (v:=.agg #[.slice (some ⟨g1,0,none⟩) js.length (js.length+3),.slice (some ⟨g2,0,none⟩) bs.length (bs.length+3),.slice (some ⟨g3,0,none⟩) hs.length (hs.length+3)]) (results_cell_row rfl _ _ (w.heap.size+1) 54 #[.slice (some ⟨g1,0,none⟩) js.length (js.length+3),.slice (some ⟨g2,0,none⟩) bs.length (bs.length+3),.slice (some ⟨g3,0,none⟩) hs.length (hs.length+3)] (0,0) _ rfl (((hre.set 0 _).set 1 _).set 2 _) Tryz.underlying54 rfl Tryz.frameInfo) rfl ?_;exact⟨g1,g2,g3,rfl,((r1.far neg1).far neg1).far neg1,((r2.far neg2).far neg2).far neg2,((r3.far neg3).far neg3).far neg3,((hB.setCell (Nat.le_succ _) _).setCell (Nat.le_succ _) _).setCell (Nat.le_succ _) _⟩
structure Lent (w:World) (g1 g2 g3:Nat) (js:List S2) (bs:List B6) (hs:List H3):Prop where
 j:ARow S2.cells w (some ⟨g1,0,none⟩) (js.length+3) (js++ [spotMark,spotMark,spotMark])
 b:ARow B6.cells w (some ⟨g2,0,none⟩) (bs.length+3) (bs++ [barMark,barMark,barMark])
 h:ARow H3.cells w (some ⟨g3,0,none⟩) (hs.length+3) (hs++ [holdMark,holdMark,holdMark])
theorem Lent.below{w w':World}{g1 g2 g3:Nat}{js:List S2}{bs:List B6}{hs:List H3}(h:Lent w g1 g2 g3 js bs hs)(hb:Below w.heap.size w w'):Lent w' g1 g2 g3 js bs hs:=⟨h.j.below hb,h.b.below hb,h.h.below hb⟩
structure FrRow (w:World) (a1 a2 a3:Option Addr) (c1 c2 c3:Nat) (js:List S2) (bs:List B6) (hs:List H3):Prop where
 j:ARow S2.cells w a1 c1 js
 b:ARow B6.cells w a2 c2 bs
 h:ARow H3.cells w a3 c3 hs
theorem FrRow.below{w w':World}{a1 a2 a3:Option Addr}{c1 c2 c3:Nat}{js:List S2}{bs:List B6}{hs:List H3}(h:FrRow w a1 a2 a3 c1 c2 c3 js bs hs)(hb:Below w.heap.size w w'):FrRow w' a1 a2 a3 c1 c2 c3 js bs hs:=⟨h.j.below hb,h.b.below hb,h.h.below hb⟩
theorem Lent.row{w:World}{g1 g2 g3:Nat}{js:List S2}{bs:List B6}{hs:List H3}(h:Lent w g1 g2 g3 js bs hs):FrRow w (some ⟨g1,0,none⟩) (some ⟨g2,0,none⟩) (some ⟨g3,0,none⟩) (js.length+3) (bs.length+3) (hs.length+3) js bs hs:=⟨h.j.left,h.b.left,h.h.left⟩
set_option maxRecDepth 100000 in
set_option maxHeartbeats 4000000 in
theorem Qg3(g1 g2 g3:Nat)(a1 a2 a3:Option Addr)(c1 c2 c3:Nat)(js:List S2)(bs:List B6)(hs:List H3)(w:World)(hm:Marks3 w)(hl:Lent w g1 g2 g3 js bs hs)(hf:FrRow w a1 a2 a3 c1 c2 c3 js bs hs)
 (n1:js.length≤1048576) (n2:bs.length≤1048576) (n3:hs.length≤1048576):
 Calls Tryz.prog 27 #[.agg #[.slice (some ⟨g1,0,none⟩) js.length (js.length+3),.slice (some ⟨g2,0,none⟩) bs.length (bs.length+3),.slice (some ⟨g3,0,none⟩) hs.length (hs.length+3)],.agg #[.slice a1 js.length c1,.slice a2 bs.length c2,.slice a3 hs.length c3]] w fun e w'=>e=.returned (.bool true)∧Below w.heap.size w w':=by
 have HL:=Hi hl;have HF:=Hi hf;have HM:=Hi hm;clear hl hf hm;go_enter Tryz.func27,Tryz.ntmps27;obtain⟨W,hW⟩:∃W,(w.alloc (.cells #[.slice (some ⟨g1,0,none⟩) js.length (js.length+3),.slice (some ⟨g2,0,none⟩) bs.length (bs.length+3),.slice (some ⟨g3,0,none⟩) hs.length (hs.length+3)] 54)).alloc (.cells #[.slice a1 js.length c1,.slice a2 bs.length c2,.slice a3 hs.length c3] 54)=W:=⟨_,rfl⟩;have HB0:Hid (Below w.heap.size w W):=Hi (by rw[←hW];exact Below.new2 w _ _);have HS0:Hid (SB W w.heap.size 54 #[.slice (some ⟨g1,0,none⟩) js.length (js.length+3),.slice (some ⟨g2,0,none⟩) bs.length (bs.length+3),.slice (some ⟨g3,0,none⟩) hs.length (hs.length+3)]):=Hi (by rw[←hW];exact(SB.new w _ _).alloc _);have HS1:Hid (SB W (w.heap.size+1) 54 #[.slice a1 js.length c1,.slice a2 bs.length c2,.slice a3 hs.length c3]):=Hi (by rw[←hW];exact SB.new2 w _ _ _ _);have HMW:=Hi (Marks3.stay.step _ _ HB0.out HM.out)
 have HR:Hid (Below W.heap.size W W):=Hi (Below.refl _ _);have hx:=HS0.out.below HR.out HS0.out.lt;have hy:=HS1.out.below HR.out HS1.out.lt;have hmm:=Marks3.stay.step _ _ HR.out HMW.out;have x0:W.cell? ⟨w.heap.size,0,none⟩=some (.slice (some ⟨g1,0,none⟩) js.length (js.length+3)):=hx.cell 0;have x1:W.cell? ⟨w.heap.size,1,none⟩=some (.slice (some ⟨g2,0,none⟩) bs.length (bs.length+3)):=hx.cell 1;have x2:W.cell? ⟨w.heap.size,2,none⟩=some (.slice (some ⟨g3,0,none⟩) hs.length (hs.length+3)):=hx.cell 2;have y0:W.cell? ⟨w.heap.size+1,0,none⟩=some (.slice a1 js.length c1):=hy.cell 0;have y1:W.cell? ⟨w.heap.size+1,1,none⟩=some (.slice a2 bs.length c2):=hy.cell 1;have y2:W.cell? ⟨w.heap.size+1,2,none⟩=some (.slice a3 hs.length c3):=hy.cell 2;have m0:=hmm.s0;have m1:=hmm.s1;have m2:=hmm.b0;have m3:=hmm.b1;have m4:=hmm.b2;have m5:=hmm.b3;have m6:=hmm.b4;have m7:=hmm.b5;have m8:=hmm.h0;have m9:=hmm.h1
 have m10:=hmm.h2;clear hx hy hmm;rw[←hW] at x0 x1 x2 y0 y1 y2 m0 m1 m2 m3 m4 m5 m6 m7 m8 m9 m10;have HW:=Hi hW;clear hW;go_wp2_with fail;rw[HW.out];clear x0 x1 x2 y0 y1 y2 m0 m1 m2 m3 m4 m5 m6 m7 m8 m9 m10;go_fit (Qro g1 a1 c1 js _ _ W (HL.out.j.below HB0.out) (HF.out.j.below HB0.out) n1);rintro e w1 ⟨rfl,hb1⟩;have HR1:=Hi hb1;clear hb1;have hx:=HS0.out.below HR1.out HS0.out.lt;have hy:=HS1.out.below HR1.out HS1.out.lt;have hmm:=Marks3.stay.step _ _ HR1.out HMW.out;have x0:w1.cell? ⟨w.heap.size,0,none⟩=some (.slice (some ⟨g1,0,none⟩) js.length (js.length+3)):=hx.cell 0;have x1:w1.cell? ⟨w.heap.size,1,none⟩=some (.slice (some ⟨g2,0,none⟩) bs.length (bs.length+3)):=hx.cell 1;have x2:w1.cell? ⟨w.heap.size,2,none⟩=some (.slice (some ⟨g3,0,none⟩) hs.length (hs.length+3)):=hx.cell 2;have y0:w1.cell? ⟨w.heap.size+1,0,none⟩=some (.slice a1 js.length c1):=hy.cell 0
 have y1:w1.cell? ⟨w.heap.size+1,1,none⟩=some (.slice a2 bs.length c2):=hy.cell 1;have y2:w1.cell? ⟨w.heap.size+1,2,none⟩=some (.slice a3 hs.length c3):=hy.cell 2;have m0:=hmm.s0;have m1:=hmm.s1;have m2:=hmm.b0;have m3:=hmm.b1;have m4:=hmm.b2;have m5:=hmm.b3;have m6:=hmm.b4;have m7:=hmm.b5;have m8:=hmm.h0;have m9:=hmm.h1;have m10:=hmm.h2;clear hx hy hmm;go_wp2_with fail;clear x0 x1 x2 y0 y1 y2 m0 m1 m2 m3 m4 m5 m6 m7 m8 m9 m10;go_fit (Qrp g2 a2 c2 bs _ _ _ _ _ _ w1 ((HL.out.b.below HB0.out).below HR1.out) ((HF.out.b.below HB0.out).below HR1.out) n2);rintro e w2 ⟨rfl,hb2⟩;have HR2:=Hi (HR1.out.trans (hb2.mono HR1.out.size));clear hb2;have hx:=HS0.out.below HR2.out HS0.out.lt;have hy:=HS1.out.below HR2.out HS1.out.lt;have hmm:=Marks3.stay.step _ _ HR2.out HMW.out;have x0:w2.cell? ⟨w.heap.size,0,none⟩=some (.slice (some ⟨g1,0,none⟩) js.length (js.length+3)):=hx.cell 0
 have x1:w2.cell? ⟨w.heap.size,1,none⟩=some (.slice (some ⟨g2,0,none⟩) bs.length (bs.length+3)):=hx.cell 1;have x2:w2.cell? ⟨w.heap.size,2,none⟩=some (.slice (some ⟨g3,0,none⟩) hs.length (hs.length+3)):=hx.cell 2;have y0:w2.cell? ⟨w.heap.size+1,0,none⟩=some (.slice a1 js.length c1):=hy.cell 0;have y1:w2.cell? ⟨w.heap.size+1,1,none⟩=some (.slice a2 bs.length c2):=hy.cell 1;have y2:w2.cell? ⟨w.heap.size+1,2,none⟩=some (.slice a3 hs.length c3):=hy.cell 2;have m0:=hmm.s0;have m1:=hmm.s1;have m2:=hmm.b0;have m3:=hmm.b1;have m4:=hmm.b2;have m5:=hmm.b3;have m6:=hmm.b4;have m7:=hmm.b5;have m8:=hmm.h0;have m9:=hmm.h1;have m10:=hmm.h2;clear hx hy hmm;go_wp2_with fail;clear x0 x1 x2 y0 y1 y2 m0 m1 m2 m3 m4 m5 m6 m7 m8 m9 m10;go_fit (Qrq g3 a3 c3 hs _ _ _ w2 ((HL.out.h.below HB0.out).below HR2.out) ((HF.out.h.below HB0.out).below HR2.out) n3);rintro e w3 ⟨rfl,hb3⟩
 have HR3:=Hi (HR2.out.trans (hb3.mono HR2.out.size));clear hb3;go_wp2;go_ret;exact⟨rfl,HB0.out.trans (HR3.out.mono HB0.out.size)⟩
end Go.Proofs.YtbbkamnfjejceaaGreatDoor
