/- raftersame's Own: a frame that is lent. -/
import Derived.Test.YtodfmpjhcmapmaaGreatDoorN29LendE
import Derived.Test.YtodfmpjhcmapmaaGreatDoorN30StillE
namespace Go.Proofs.YtodfmpjhcmapmaaGreatDoor
open Go.RowKit
set_option linter.unusedVariables false
set_option linter.unusedSimpArgs false
theorem Qff:(Tryz.prog.info? 34).map (fun i=>(i.zero,i.size,i.bytes))=some (some (.string ⟨#[]⟩),1,16):=by kernel_rfl
theorem Qi8(n:Nat)(hn:n≤1048576):∃MC:Array Value,MC.size=n+3∧∀w,(Instr.makeSlice 27 (.int .i64 0) (.int .i64 ((n:Int)+3))).run Tryz.prog w=.ok (.slice (some ⟨w.heap.size,0,none⟩) 0 (n+3)) (w.alloc (.cells MC 34)):=by
 obtain⟨i,hi,h⟩:=Option.map_eq_some_iff.1 Qff;simp only[Prod.mk.injEq] at h;obtain⟨hz,hs,hb⟩:=h;refine⟨madeCells (Value.cells (.string ⟨#[]⟩)) ((n+3)*1),by rw[size_madeCells];omega,fun w=>?_⟩;have:=run_make w 27 34 i _ Tryz.underlying27 hi hz .i64 .i64 0 ((n:Int)+3) (by omega) (by omega) (by rw[hb];omega) (by omega);have e:((n:Int)+3).toNat=n+3:=by omega
 rw[e,hs] at this;exact this
set_option maxRecDepth 100000 in
set_option maxHeartbeats 4000000 in
theorem Qi9(a:Option Addr)(cap:Nat)(es:List ByteArray)(m:ByteArray)(w:World)(hf:ARow tc w a cap es)(hn:es.length≤1048576):
 Calls Tryz.prog 8 #[.slice a es.length cap,.string m] w fun e w'=>∃g,w.heap.size≤g∧e=.returned (.slice (some ⟨g,0,none⟩) es.length (es.length+3))∧ARow tc w' (some ⟨g,0,none⟩) (es.length+3) (es++ [m,m,m])∧Below w.heap.size w w':=by
 obtain⟨MC,hMC,hmk⟩:=Qi8 es.length hn;obtain⟨i,hi,h⟩:=Option.map_eq_some_iff.1 Qff;simp only[Prod.mk.injEq] at h;obtain⟨hz,hs,hb⟩:=h;have hxl:(es.flatMap tc).length=es.length*1:=Qcf (c:=tc) (sz:=1) (fun _=>rfl) es;have hx1:∀u∈ es.flatMap tc,u.oneCell'=true:=fun u hu=>by
  obtain⟨t,_,hu⟩:=List.mem_flatMap.1 hu;obtain rfl:=List.mem_singleton.1 hu;rfl
 obtain⟨W,hW⟩:∃W,w.alloc (.cells MC 34)=W:=⟨_,rfl⟩;have hbW:Below w.heap.size w W:=by rw[←hW];exact(Below.refl _ _).alloc (Nat.le_refl _) _
 have hown:W.ownsRow w.heap.size 34 1 (.slice (some ⟨w.heap.size,0,none⟩) 0 (es.length+3)) 0 []:=by rw[←hW];exact World.ownsRow_made w MC (es.length+3) (Nat.le_refl _) (by unfold maxLen;omega) (by rw[hMC];omega)
 obtain⟨w1,hr1,ho1,hg1⟩:=Qgr (P:=Tryz.prog) (cap:=cap) Tryz.underlying27 hi hs (by decide) hown (hf.row.below hbW) hxl hx1 (by omega) 27;have hb1:Below w.heap.size w w1:=Below.ofGrown hbW hg1 hbW.size (Nat.le_refl _);have hz1:w.heap.size<w1.heap.size:=by have:=hg1.size;rw[←hW] at this;simp at this;omega
 obtain⟨X,hX⟩:∃X,w1.alloc (.cells #[.string m,.string m,.string m] 34)=X:=⟨_,rfl⟩;have hbX:Below w.heap.size w X:=by rw[←hX];exact hb1.alloc hb1.size _
 have hsX:SB X w1.heap.size 34 #[.string m,.string m,.string m]:=by rw[←hX];exact SB.new w1 _ _
 obtain⟨w2,hr2,ho2,hg2⟩:=run_append_fits (P:=Tryz.prog) X w.heap.size 27 27 34 i 1 Tryz.underlying27 hi hs w.heap.size es.length (es.length+3) (es.flatMap tc) (by rw[←hX];exact ho1.alloc _) ⟨w1.heap.size,0,none⟩ 3 3 [.string m,.string m,.string m] rfl (fun j u hj=>by
  rw[Qch,Nat.zero_add,hsX.cell]
  simpa using hj) (fun u hu=>by simp at hu;subst hu;rfl) (Nat.le_refl _)
 have hb2:Below w.heap.size w w2:=Below.ofGrown hbX hg2 hbX.size (Nat.le_refl _);have happ1:appR Tryz.prog 27 27 (.slice (some ⟨w.heap.size,0,none⟩) 0 (es.length+3)) (.slice a es.length cap) (w.alloc (.cells MC 34))=.ok (.slice (some ⟨w.heap.size,0,none⟩) es.length (es.length+3)) w1:=by rw[hW];exact hr1
 have happ2:appR Tryz.prog 27 27 (.slice (some ⟨w.heap.size,0,none⟩) es.length (es.length+3)) (.slice (some ⟨w1.heap.size,0,none⟩) 3 3) (w1.alloc (.cells #[.string m,.string m,.string m] 34))=.ok (.slice (some ⟨w.heap.size,0,none⟩) (es.length+3) (es.length+3)) w2:=by rw[hX];exact hr2
 have HO2:=Hi ho2;have HB2:=Hi hb2;clear hMC hi hz hs hb hxl hx1 hW hbW hown hr1 ho1 hg1 hb1 hX hbX hsX hr2 ho2 hg2 hb2 hf hz1;go_enter Tryz.func8,Tryz.ntmps8;go_wp2;go_ret;refine⟨_,Nat.le_refl _,rfl,⟨by simp,?_⟩,HB2.out⟩;rw[List.flatMap_append];exact Qdi HO2.out
set_option maxRecDepth 100000 in
set_option maxHeartbeats 4000000 in
theorem Qja(g:Nat)(a:Option Addr)(cap:Nat)(es:List ByteArray)(m:ByteArray)(w:World)(hl:ARow tc w (some ⟨g,0,none⟩) (es.length+3) (es++ [m,m,m]))(hf:ARow tc w a cap es)(hn:es.length≤1048576):
 Calls Tryz.prog 12 #[.slice (some ⟨g,0,none⟩) es.length (es.length+3),.slice a es.length cap,.string m] w fun e w'=>e=.returned (.bool true)∧Below w.heap.size w w':=by
 have HL:=Hi hl;have HF:=Hi hf;clear hl hf;go_enter Tryz.func12,Tryz.ntmps12;go_wp2_with fail;go_loopw [17] (fun iv wr=>∃k:Nat,k≤es.length+3∧iv=.int .i64 k∧Below w.heap.size w wr) (fun iv _=>es.length+3 - (intOf iv).toNat)
 case atStart=>exact⟨0,by omega,rfl,Below.refl _ _⟩
 case round=>
  obtain⟨k,hk,rfl,hb⟩:=hrel;have HB:=Hi hb;clear hb;by_cases hlt3:k<es.length+3
  ·
   obtain⟨f,hfk⟩:∃f,(es++ [m,m,m])[k]?=some f:=⟨_,List.getElem?_eq_getElem (by simpa using hlt3)⟩;obtain⟨fb,off,hfa,hfb,c0⟩:=(HL.out.below HB.out).text hfk;simp only[Option.some.injEq,Addr.mk.injEq,and_true] at hfa;obtain⟨rfl,rfl⟩:=hfa;rw[Nat.zero_add] at c0;by_cases hkn:k<es.length
   ·
    have hfk':es[k]?=some f:=by rw[List.getElem?_append_left hkn] at hfk;exact hfk
    obtain⟨ab,aoff,rfl,hab,d0⟩:=(HF.out.below HB.out).text hfk';have q1:((k:Int)<(es.length:Int)):=by omega
    have q2:decide (es.length≤k)=false:=by simpa using hkn
    clear hfk hfk';go_wp2;go_roundw
    case rel=>exact⟨k+1,by omega,by go_num,HB.out⟩
    case measure=>simp[intOf];omega
   ·
    have hm:f=m:=by
     rw[List.getElem?_append_right (by omega)] at hfk;have h3:k - es.length=0∨k - es.length=1∨k - es.length=2:=by omega
     rcases h3 with h|h|h<;>rw[h] at hfk<;>exact(Option.some.inj hfk).symm
    subst hm;have q1:¬((k:Int)<(es.length:Int)):=by omega
    have q2:decide ((k:Int)<(es.length:Int))=false:=by simpa using q1
    have q3:decide (es.length≤k)=true:=by simp;omega
    clear hfk;go_wp2;go_roundw
    case rel=>exact⟨k+1,by omega,by go_num,HB.out⟩
    case measure=>simp[intOf];omega
  ·
   obtain rfl:k=es.length+3:=by omega
   go_wp2;go_ret;exact⟨rfl,HB.out⟩
structure Stay (P:World→Prop):Prop where
 step:∀u v:World,Below u.heap.size u v→P u→P v
structure PBag (w0 w:World) (L:List (World→Prop)):Prop where
 base:Below w0.heap.size w0 w
 ps:∀P,P∈ L→P w∧Stay P
theorem PBag.start(w:World):PBag w w []:=⟨Below.refl _ _,fun P h=>by cases h⟩
theorem PBag.below{w0 w w':World}{L:List (World→Prop)}(h:PBag w0 w L)(hb:Below w.heap.size w w'):PBag w0 w' L:=
 ⟨h.base.trans (hb.mono h.base.size),fun P hP=>⟨(h.ps P hP).2.step w w' hb (h.ps P hP).1,(h.ps P hP).2⟩⟩
theorem PBag.put{w0 w:World}{L:List (World→Prop)}{P:World→Prop}(h:PBag w0 w L)(hP:P w)(hs:Stay P):PBag w0 w (P :: L):=
 ⟨h.base,fun Q hQ=>by
   rcases List.mem_cons.1 hQ with rfl|hQ
   · exact⟨hP,hs⟩
   · exact h.ps Q hQ⟩
theorem PBag.drew{w0 w:World}{L:List (World→Prop)}(h:PBag w0 w L):PBag w0 w.drew L:=h.below ((Below.refl _ _).drew)
theorem PBag.get{w0 w:World}{L:List (World→Prop)}(h:PBag w0 w L)(P:World→Prop)(hP:P∈ L):P w:=(h.ps P hP).1
theorem SB.stay(b:Nat)(t:TypeId)(C:Array Value):Stay (fun w=>SB w b t C):=⟨fun _ _ hb h=>h.below hb h.lt⟩
theorem ARow.far{α:Type}{c:α→List Value}{w:World}{g cap b i:Nat}{es:List α}{v:Value}(h:ARow c w (some ⟨g,0,none⟩) cap es)(hne:b≠g):ARow c (w.setCell ⟨b,i,none⟩ v) (some ⟨g,0,none⟩) cap es:=by
 refine⟨h.fit,⟨fun j u hj=>?_⟩⟩;obtain⟨b',off,ha,hb,hc⟩:=h.row.cell j u hj;cases ha;exact⟨g,0,rfl,by simpa using hb,by rw[World.cell?_of_block (w:=w) (Below.heap_setCell w ⟨b,i,none⟩ v g (fun e=>hne e.symm))];exact hc⟩
theorem ARow.stay{α:Type}(c:α→List Value)(a:Option Addr)(cap:Nat)(es:List α):Stay (fun w=>ARow c w a cap es):=⟨fun _ _ hb h=>h.below hb⟩
structure Marks3 (w:World):Prop where
 s0:w.cell? ⟨0,0,none⟩=some (.string ⟨#[109,97,114,107]⟩)
 s1:w.cell? ⟨0,1,none⟩=some (.string ⟨#[]⟩)
 b0:w.cell? ⟨1,0,none⟩=some (.int .i64 (-9))
 b1:w.cell? ⟨1,1,none⟩=some (.int .i64 0)
 b2:w.cell? ⟨1,2,none⟩=some (.string ⟨#[]⟩)
 b3:w.cell? ⟨1,3,none⟩=some (.string ⟨#[]⟩)
 b4:w.cell? ⟨1,4,none⟩=some (.string ⟨#[]⟩)
 b5:w.cell? ⟨1,5,none⟩=some (.string ⟨#[]⟩)
 h0:w.cell? ⟨2,0,none⟩=some (.int .i64 (-9))
 h1:w.cell? ⟨2,1,none⟩=some (.int .i64 0)
 h2:w.cell? ⟨2,2,none⟩=some (.string ⟨#[]⟩)
theorem Qax{w w':World}(hb:Below w.heap.size w w'){b i:Nat}{v:Value}(h:w.cell? ⟨b,i,none⟩=some v):w'.cell? ⟨b,i,none⟩=some v:=
 (hb.cell (p:=⟨b,i,none⟩) (World.block_lt_of_cell? _ _ h)).trans h
theorem Marks3.stay:Stay Marks3:=⟨fun _ _ hb h=>⟨Qax hb h.s0,Qax hb h.s1,Qax hb h.b0,Qax hb h.b1,Qax hb h.b2,Qax hb h.b3,Qax hb h.b4,Qax hb h.b5,Qax hb h.h0,Qax hb h.h1,Qax hb h.h2⟩⟩
abbrev spotMark:S2:=⟨⟨#[109,97,114,107]⟩,⟨#[]⟩⟩
abbrev barMark:B6:=⟨-9,0,⟨#[]⟩,⟨#[]⟩,⟨#[]⟩,⟨#[]⟩⟩
abbrev holdMark:H3:=⟨-9,0,⟨#[]⟩⟩
theorem Tryz.frameInfo:(Tryz.prog.info? 26).map (·.size)=some 3:=by kernel_rfl
set_option maxRecDepth 100000 in
set_option maxHeartbeats 4000000 in
theorem Qpu(a1 a2 a3:Option Addr)(c1 c2 c3:Nat)(js:List S2)(bs:List B6)(hs:List H3)(w:World)(hm:Marks3 w)(hj:ARow S2.cells w a1 c1 js)(hb:ARow B6.cells w a2 c2 bs)(hh:ARow H3.cells w a3 c3 hs)
 (n1:js.length≤1048576) (n2:bs.length≤1048576) (n3:hs.length≤1048576):
 Calls Tryz.prog 7 #[.agg #[.slice a1 js.length c1,.slice a2 bs.length c2,.slice a3 hs.length c3]] w fun e w'=>∃g1 g2 g3,e=.returned (.agg #[.slice (some ⟨g1,0,none⟩) js.length (js.length+3),.slice (some ⟨g2,0,none⟩) bs.length (bs.length+3),.slice (some ⟨g3,0,none⟩) hs.length (hs.length+3)])∧
  ARow S2.cells w' (some ⟨g1,0,none⟩) (js.length+3) (js++ [spotMark,spotMark,spotMark])∧ARow B6.cells w' (some ⟨g2,0,none⟩) (bs.length+3) (bs++ [barMark,barMark,barMark])∧ARow H3.cells w' (some ⟨g3,0,none⟩) (hs.length+3) (hs++ [holdMark,holdMark,holdMark])∧Below w.heap.size w w':=by
 have HJ:=Hi hj;have HBR:=Hi hb;have HH:=Hi hh;have HM:=Hi hm;clear hj hb hh hm;go_enter Tryz.func7,Tryz.ntmps7;go_wp2_with fail;obtain⟨W,hW⟩:∃W,(w.alloc (.cells #[.slice a1 js.length c1,.slice a2 bs.length c2,.slice a3 hs.length c3] 26)).alloc (.cells #[.slice none 0 0,.slice none 0 0,.slice none 0 0] 26)=W:=⟨_,rfl⟩;have hb0:Below w.heap.size w W:=by rw[←hW];exact Below.new2 w _ _
 have hs0:SB W w.heap.size 26 #[.slice a1 js.length c1,.slice a2 bs.length c2,.slice a3 hs.length c3]:=by rw[←hW];exact(SB.new w _ _).alloc _
 have hs1:SB W (w.heap.size+1) 26 #[.slice none 0 0,.slice none 0 0,.slice none 0 0]:=by rw[←hW];exact SB.new2 w _ _ _ _
 rw[hW];have HP:Hid (PBag w W [fun v=>SB v w.heap.size 26 #[.slice a1 js.length c1,.slice a2 bs.length c2,.slice a3 hs.length c3],fun v=>SB v (w.heap.size+1) 26 #[.slice none 0 0,.slice none 0 0,.slice none 0 0],Marks3]):=
  Hi (((((PBag.start w).put (P:=Marks3) HM.out Marks3.stay).below hb0).put (P:=fun v=>SB v (w.heap.size+1) 26 #[.slice none 0 0,.slice none 0 0,.slice none 0 0]) hs1 (SB.stay _ _ _)).put (P:=fun v=>SB v w.heap.size 26 #[.slice a1 js.length c1,.slice a2 bs.length c2,.slice a3 hs.length c3]) hs0 (SB.stay _ _ _))
 have ne0:w.heap.size+1≠w.heap.size:=by omega
 have ne1:w.heap.size+1≠0:=by have:=World.block_lt_of_cell? _ _ HM.out.s0;simp only at this;omega
 have ne2:w.heap.size+1≠1:=by have:=World.block_lt_of_cell? _ _ HM.out.b0;simp only at this;omega
 have ne3:w.heap.size+1≠2:=by have:=World.block_lt_of_cell? _ _ HM.out.h0;simp only at this;omega
 have ne4:w.heap.size≠0:=by have:=World.block_lt_of_cell? _ _ HM.out.s0;simp only at this;omega
 clear hW hb0 hs0 hs1;have hbx:SB W w.heap.size 26 #[.slice a1 js.length c1,.slice a2 bs.length c2,.slice a3 hs.length c3]:=HP.out.get (fun v=>SB v w.heap.size 26 #[.slice a1 js.length c1,.slice a2 bs.length c2,.slice a3 hs.length c3]) (by
  (focus(repeat(first|exact List.Mem.head _|apply List.Mem.tail)))
  skip)
 have hmm:Marks3 W:=HP.out.get Marks3 (by
  (focus(repeat(first|exact List.Mem.head _|apply List.Mem.tail)))
  skip)
 have x0:W.cell? ⟨w.heap.size,0,none⟩=some (.slice a1 js.length c1):=hbx.cell 0;have x1:W.cell? ⟨w.heap.size,1,none⟩=some (.slice a2 bs.length c2):=hbx.cell 1;have x2:W.cell? ⟨w.heap.size,2,none⟩=some (.slice a3 hs.length c3):=hbx.cell 2;have y0:=hmm.s0;have y1:=hmm.s1;have y2:=hmm.b0;have y3:=hmm.b1;have y4:=hmm.b2;have y5:=hmm.b3;have y6:=hmm.b4;have y7:=hmm.b5;have y8:=hmm.h0;have y9:=hmm.h1;have y10:=hmm.h2;have hre:SB W (w.heap.size+1) 26 #[.slice none 0 0,.slice none 0 0,.slice none 0 0]:=HP.out.get (fun v=>SB v (w.heap.size+1) 26 #[.slice none 0 0,.slice none 0 0,.slice none 0 0]) (by
  (focus(repeat(first|exact List.Mem.head _|apply List.Mem.tail)))
  skip)
 have z0:W.cell? ⟨w.heap.size+1,0,none⟩=some (.slice none 0 0):=hre.cell 0;have z1:W.cell? ⟨w.heap.size+1,1,none⟩=some (.slice none 0 0):=hre.cell 1;have z2:W.cell? ⟨w.heap.size+1,2,none⟩=some (.slice none 0 0):=hre.cell 2;have f0:=hre.free 0;have f1:=hre.free 1;have f2:=hre.free 2;clear hbx hmm hre
 go_region_held3 (fun v=>v.cell? ⟨w.heap.size,0,none⟩=some (.slice a1 js.length c1)∧v.cell? ⟨w.heap.size,1,none⟩=some (.slice a2 bs.length c2)∧v.cell? ⟨w.heap.size,2,none⟩=some (.slice a3 hs.length c3)∧v.cell? ⟨0,0,none⟩=some (.string ⟨#[109,97,114,107]⟩)∧v.cell? ⟨0,1,none⟩=some (.string ⟨#[]⟩)∧v.cell? ⟨1,0,none⟩=some (.int .i64 (-9))∧v.cell? ⟨1,1,none⟩=some (.int .i64 0)∧v.cell? ⟨1,2,none⟩=some (.string ⟨#[]⟩)∧v.cell? ⟨1,3,none⟩=some (.string ⟨#[]⟩)∧v.cell? ⟨1,4,none⟩=some (.string ⟨#[]⟩)∧v.cell? ⟨1,5,none⟩=some (.string ⟨#[]⟩)∧v.cell? ⟨2,0,none⟩=some (.int .i64 (-9))∧v.cell? ⟨2,1,none⟩=some (.int .i64 0)∧v.cell? ⟨2,2,none⟩=some (.string ⟨#[]⟩)) ((first|(simp [*];done)|go_keep)) (first
  |
   (go_at_call_of 24 (Value.slice a1 js.length c1)
    apply Calls.mono;apply Qln a1 c1 js;(first|exact HJ.out.below HP.out.base|exact HJ.out.below HP.out.base.drew);exact n1;rintro e wn ⟨g1,hgs,rfl,hrow,hbn⟩;have neg1:w.heap.size+1≠g1:=by
     have hf1:=(HP.out.get (fun v=>SB v (w.heap.size+1) 26 #[.slice none 0 0,.slice none 0 0,.slice none 0 0]) (by
      (focus(repeat(first|exact List.Mem.head _|apply List.Mem.tail)))
      skip)).lt
     try simp only[World.size_drew] at hgs
     omega;skip
    have HQ:=Hi (((by first|exact HP.out|exact HP.out.drew:PBag w _ _).below hbn).put (P:=fun v=>ARow S2.cells v (some ⟨g1,0,none⟩) (js.length+3) (js++ [spotMark,spotMark,spotMark])) hrow (ARow.stay _ _ _ _));clear HP hrow hbn hgs;have HP:=HQ;clear HQ;have hbx:SB wn w.heap.size 26 #[.slice a1 js.length c1,.slice a2 bs.length c2,.slice a3 hs.length c3]:=HP.out.get (fun v=>SB v w.heap.size 26 #[.slice a1 js.length c1,.slice a2 bs.length c2,.slice a3 hs.length c3]) (by
     (focus(repeat(first|exact List.Mem.head _|apply List.Mem.tail)))
     skip)
    have hmm:Marks3 wn:=HP.out.get Marks3 (by
     (focus(repeat(first|exact List.Mem.head _|apply List.Mem.tail)))
     skip)
    have x0:wn.cell? ⟨w.heap.size,0,none⟩=some (.slice a1 js.length c1):=hbx.cell 0;have x1:wn.cell? ⟨w.heap.size,1,none⟩=some (.slice a2 bs.length c2):=hbx.cell 1;have x2:wn.cell? ⟨w.heap.size,2,none⟩=some (.slice a3 hs.length c3):=hbx.cell 2;have y0:=hmm.s0;have y1:=hmm.s1;have y2:=hmm.b0;have y3:=hmm.b1;have y4:=hmm.b2;have y5:=hmm.b3;have y6:=hmm.b4;have y7:=hmm.b5;have y8:=hmm.h0;have y9:=hmm.h1;have y10:=hmm.h2;have hre:SB wn (w.heap.size+1) 26 #[.slice none 0 0,.slice none 0 0,.slice none 0 0]:=HP.out.get (fun v=>SB v (w.heap.size+1) 26 #[.slice none 0 0,.slice none 0 0,.slice none 0 0]) (by
     (focus(repeat(first|exact List.Mem.head _|apply List.Mem.tail)))
     skip)
    have z0:wn.cell? ⟨w.heap.size+1,0,none⟩=some (.slice none 0 0):=hre.cell 0;have z1:wn.cell? ⟨w.heap.size+1,1,none⟩=some (.slice none 0 0):=hre.cell 1;have z2:wn.cell? ⟨w.heap.size+1,2,none⟩=some (.slice none 0 0):=hre.cell 2;have f0:=hre.free 0;have f1:=hre.free 1;have f2:=hre.free 2;clear hbx hmm hre
    skip)
  |
   (go_at_call_of 25 (Value.slice a2 bs.length c2)
    apply Calls.mono;apply Qlp a2 c2 bs;(first|exact HBR.out.below HP.out.base|exact HBR.out.below HP.out.base.drew);exact n2;rintro e wn ⟨g2,hgs,rfl,hrow,hbn⟩;have neg2:w.heap.size+1≠g2:=by
     have hf1:=(HP.out.get (fun v=>SB v (w.heap.size+1) 26 #[.slice none 0 0,.slice none 0 0,.slice none 0 0]) (by
      (focus(repeat(first|exact List.Mem.head _|apply List.Mem.tail)))
      skip)).lt
     try simp only[World.size_drew] at hgs
     omega;skip
    have HQ:=Hi (((by first|exact HP.out|exact HP.out.drew:PBag w _ _).below hbn).put (P:=fun v=>ARow B6.cells v (some ⟨g2,0,none⟩) (bs.length+3) (bs++ [barMark,barMark,barMark])) hrow (ARow.stay _ _ _ _));clear HP hrow hbn hgs;have HP:=HQ;clear HQ;have hbx:SB wn w.heap.size 26 #[.slice a1 js.length c1,.slice a2 bs.length c2,.slice a3 hs.length c3]:=HP.out.get (fun v=>SB v w.heap.size 26 #[.slice a1 js.length c1,.slice a2 bs.length c2,.slice a3 hs.length c3]) (by
     (focus(repeat(first|exact List.Mem.head _|apply List.Mem.tail)))
     skip)
    have hmm:Marks3 wn:=HP.out.get Marks3 (by
     (focus(repeat(first|exact List.Mem.head _|apply List.Mem.tail)))
     skip)
    have x0:wn.cell? ⟨w.heap.size,0,none⟩=some (.slice a1 js.length c1):=hbx.cell 0;have x1:wn.cell? ⟨w.heap.size,1,none⟩=some (.slice a2 bs.length c2):=hbx.cell 1;have x2:wn.cell? ⟨w.heap.size,2,none⟩=some (.slice a3 hs.length c3):=hbx.cell 2;have y0:=hmm.s0;have y1:=hmm.s1;have y2:=hmm.b0;have y3:=hmm.b1;have y4:=hmm.b2;have y5:=hmm.b3;have y6:=hmm.b4;have y7:=hmm.b5;have y8:=hmm.h0;have y9:=hmm.h1;have y10:=hmm.h2;have hre:SB wn (w.heap.size+1) 26 #[.slice none 0 0,.slice none 0 0,.slice none 0 0]:=HP.out.get (fun v=>SB v (w.heap.size+1) 26 #[.slice none 0 0,.slice none 0 0,.slice none 0 0]) (by
     (focus(repeat(first|exact List.Mem.head _|apply List.Mem.tail)))
     skip)
    have z0:wn.cell? ⟨w.heap.size+1,0,none⟩=some (.slice none 0 0):=hre.cell 0;have z1:wn.cell? ⟨w.heap.size+1,1,none⟩=some (.slice none 0 0):=hre.cell 1;have z2:wn.cell? ⟨w.heap.size+1,2,none⟩=some (.slice none 0 0):=hre.cell 2;have f0:=hre.free 0;have f1:=hre.free 1;have f2:=hre.free 2;clear hbx hmm hre
    skip)
  |
   (go_at_call_of 26 (Value.slice a3 hs.length c3)
    apply Calls.mono;apply Qlr a3 c3 hs;(first|exact HH.out.below HP.out.base|exact HH.out.below HP.out.base.drew);exact n3;rintro e wn ⟨g3,hgs,rfl,hrow,hbn⟩;have neg3:w.heap.size+1≠g3:=by
     have hf1:=(HP.out.get (fun v=>SB v (w.heap.size+1) 26 #[.slice none 0 0,.slice none 0 0,.slice none 0 0]) (by
      (focus(repeat(first|exact List.Mem.head _|apply List.Mem.tail)))
      skip)).lt
     try simp only[World.size_drew] at hgs
     omega;skip
    have HQ:=Hi (((by first|exact HP.out|exact HP.out.drew:PBag w _ _).below hbn).put (P:=fun v=>ARow H3.cells v (some ⟨g3,0,none⟩) (hs.length+3) (hs++ [holdMark,holdMark,holdMark])) hrow (ARow.stay _ _ _ _));clear HP hrow hbn hgs;have HP:=HQ;clear HQ;have hbx:SB wn w.heap.size 26 #[.slice a1 js.length c1,.slice a2 bs.length c2,.slice a3 hs.length c3]:=HP.out.get (fun v=>SB v w.heap.size 26 #[.slice a1 js.length c1,.slice a2 bs.length c2,.slice a3 hs.length c3]) (by
     (focus(repeat(first|exact List.Mem.head _|apply List.Mem.tail)))
     skip)
    have hmm:Marks3 wn:=HP.out.get Marks3 (by
     (focus(repeat(first|exact List.Mem.head _|apply List.Mem.tail)))
     skip)
    have x0:wn.cell? ⟨w.heap.size,0,none⟩=some (.slice a1 js.length c1):=hbx.cell 0;have x1:wn.cell? ⟨w.heap.size,1,none⟩=some (.slice a2 bs.length c2):=hbx.cell 1;have x2:wn.cell? ⟨w.heap.size,2,none⟩=some (.slice a3 hs.length c3):=hbx.cell 2;have y0:=hmm.s0;have y1:=hmm.s1;have y2:=hmm.b0;have y3:=hmm.b1;have y4:=hmm.b2;have y5:=hmm.b3;have y6:=hmm.b4;have y7:=hmm.b5;have y8:=hmm.h0;have y9:=hmm.h1;have y10:=hmm.h2;have hre:SB wn (w.heap.size+1) 26 #[.slice none 0 0,.slice none 0 0,.slice none 0 0]:=HP.out.get (fun v=>SB v (w.heap.size+1) 26 #[.slice none 0 0,.slice none 0 0,.slice none 0 0]) (by
     (focus(repeat(first|exact List.Mem.head _|apply List.Mem.tail)))
     skip)
    have z0:wn.cell? ⟨w.heap.size+1,0,none⟩=some (.slice none 0 0):=hre.cell 0;have z1:wn.cell? ⟨w.heap.size+1,1,none⟩=some (.slice none 0 0):=hre.cell 1;have z2:wn.cell? ⟨w.heap.size+1,2,none⟩=some (.slice none 0 0):=hre.cell 2;have f0:=hre.free 0;have f1:=hre.free 1;have f2:=hre.free 2;clear hbx hmm hre
    skip)
  )
 go_wp2;have hre:SB wn (w.heap.size+1) 26 #[.slice none 0 0,.slice none 0 0,.slice none 0 0]:=HP.out.get (fun v=>SB v (w.heap.size+1) 26 #[.slice none 0 0,.slice none 0 0,.slice none 0 0]) (by
  (focus(repeat(first|exact List.Mem.head _|apply List.Mem.tail)))
  skip)
 have r1:=HP.out.get (fun v=>ARow S2.cells v (some ⟨g1,0,none⟩) (js.length+3) (js++ [spotMark,spotMark,spotMark])) (by
  (focus(repeat(first|exact List.Mem.head _|apply List.Mem.tail)))
  skip)
 have r2:=HP.out.get (fun v=>ARow B6.cells v (some ⟨g2,0,none⟩) (bs.length+3) (bs++ [barMark,barMark,barMark])) (by
  (focus(repeat(first|exact List.Mem.head _|apply List.Mem.tail)))
  skip)
 have r3:=HP.out.get (fun v=>ARow H3.cells v (some ⟨g3,0,none⟩) (hs.length+3) (hs++ [holdMark,holdMark,holdMark])) (by
  (focus(repeat(first|exact List.Mem.head _|apply List.Mem.tail)))
  skip)
 have hB:=HP.out.base;refine bodyPost_ret (v:=.agg #[.slice (some ⟨g1,0,none⟩) js.length (js.length+3),.slice (some ⟨g2,0,none⟩) bs.length (bs.length+3),.slice (some ⟨g3,0,none⟩) hs.length (hs.length+3)]) (results_cell_row rfl _ _ (w.heap.size+1) 26 #[.slice (some ⟨g1,0,none⟩) js.length (js.length+3),.slice (some ⟨g2,0,none⟩) bs.length (bs.length+3),.slice (some ⟨g3,0,none⟩) hs.length (hs.length+3)] (0,0) _ rfl (((hre.set 0 _).set 1 _).set 2 _) Tryz.underlying26 rfl Tryz.frameInfo) rfl ?_;exact⟨g1,g2,g3,rfl,((r1.far neg1).far neg1).far neg1,((r2.far neg2).far neg2).far neg2,((r3.far neg3).far neg3).far neg3,((hB.setCell (Nat.le_succ _) _).setCell (Nat.le_succ _) _).setCell (Nat.le_succ _) _⟩
end Go.Proofs.YtodfmpjhcmapmaaGreatDoor
