/- rafterlaw's corner: a triangle on three holds. -/
import Derived.Test.YtjhdfkcdigmfhaaGreatDoorC24RigE
namespace Go.Proofs.YtjhdfkcdigmfhaaGreatDoor
open Go.RowKit
set_option linter.unusedVariables false
set_option linter.unusedSimpArgs false
theorem SB.arow{α:Type}{c:α→List Value}{w:World}{g cap:Nat}{t:TypeId}{C:Array Value}{es:List α}(h:SB w g t C)(hc:C.toList=es.flatMap c)(hl:es.length≤cap):ARow c w (some ⟨g,0,none⟩) cap es:=by
 refine⟨hl,⟨fun j u hj=>⟨g,0,rfl,h.lt,?_⟩⟩⟩
 rw[Nat.zero_add,h.cell j,←Array.getElem?_toList,hc]
 exact hj
abbrev tx0:ByteArray:=⟨#[48]⟩
abbrev tx1:ByteArray:=⟨#[49]⟩
def cornerJ:List S2:=[⟨tx0,tx0⟩,⟨tx1,tx0⟩,⟨tx0,tx1⟩]
def cornerBar(a b:Int):B6:=⟨a,b,tx1,⟨#[]⟩,⟨#[45,49]⟩,⟨#[50]⟩⟩
def cornerB:List B6:=[cornerBar 0 1,cornerBar 1 2,cornerBar 2 0]
def cornerH:List H3:=[⟨0,1,⟨#[]⟩⟩,⟨0,2,⟨#[]⟩⟩,⟨1,2,⟨#[]⟩⟩]
theorem Tryz.barInfo:(Tryz.prog.info? 69).map (·.size)=some 6:=by kernel_rfl
theorem Qdb(a b:Int)(w:World):Calls Tryz.prog 179 #[.int .i64 a,.int .i64 b] w fun e w'=>e=.returned (.agg #[.int .i64 a,.int .i64 b,.string ⟨#[49]⟩,.string ⟨#[]⟩,.string ⟨#[45,49]⟩,.string ⟨#[50]⟩])∧Below w.heap.size w w':=by
 go_enter Tryz.func179,Tryz.ntmps179
 go_wp2
 refine bodyPost_ret (results_cell_row rfl _ _ w.heap.size 69 #[.int .i64 a,.int .i64 b,.string ⟨#[49]⟩,.string ⟨#[]⟩,.string ⟨#[45,49]⟩,.string ⟨#[50]⟩] (0,0) _ rfl (SB.new w _ _) Tryz.underlying69 rfl Tryz.barInfo) rfl ?_
 exact⟨rfl,(Below.refl _ _).alloc (Nat.le_refl _) _⟩
set_option maxRecDepth 100000 in
set_option maxHeartbeats 4000000 in
theorem Qdc(w:World):Calls Tryz.prog 91 #[] w fun e w'=>∃g1 g2 g3,e=.returned (.agg #[.slice (some ⟨g1,0,none⟩) 3 3,.slice (some ⟨g2,0,none⟩) 3 3,.slice (some ⟨g3,0,none⟩) 3 3])∧FrRow w' (some ⟨g1,0,none⟩) (some ⟨g2,0,none⟩) (some ⟨g3,0,none⟩) 3 3 3 cornerJ cornerB cornerH∧Below w.heap.size w w':=by
 go_enter Tryz.func91,Tryz.ntmps91
 go_wp2_with fail
 obtain⟨W,hW⟩:∃W,w.alloc (.cells #[.slice none 0 0,.slice none 0 0,.slice none 0 0] 54)=W:=⟨_,rfl⟩
 have HP:Hid (PBag w W [fun v=>SB v w.heap.size 54 #[.slice none 0 0,.slice none 0 0,.slice none 0 0]]):=Hi (by rw[←hW];exact((PBag.start w).below ((Below.refl _ _).alloc (Nat.le_refl _) _)).put (P:=fun v=>SB v w.heap.size 54 #[.slice none 0 0,.slice none 0 0,.slice none 0 0]) (SB.new w _ _) (SB.stay _ _ _))
 rw[hW]
 clear hW
 go_fit (Qcy ⟨#[48]⟩ ⟨#[48]⟩ W)
 rintro e w1 ⟨rfl,hb⟩
 have HQ:=Hi (HP.out.below hb)
 clear HP hb
 have HP:=HQ
 clear HQ
 go_wp2_with fail
 go_fit (Qcy ⟨#[49]⟩ ⟨#[48]⟩ w1)
 rintro e w2 ⟨rfl,hb⟩
 have HQ:=Hi (HP.out.below hb)
 clear HP hb
 have HP:=HQ
 clear HQ
 go_wp2_with fail
 go_fit (Qcy ⟨#[48]⟩ ⟨#[49]⟩ w2)
 rintro e w3 ⟨rfl,hb⟩
 have HQ:=Hi (HP.out.below hb)
 clear HP hb
 have HP:=HQ
 clear HQ
 obtain⟨g1,hg1⟩:∃g1,w3.heap.size=g1:=⟨_,rfl⟩
 obtain⟨v3,hv3⟩:∃v3,w3.alloc (.cells #[.string ⟨#[48]⟩,.string ⟨#[48]⟩,.string ⟨#[49]⟩,.string ⟨#[48]⟩,.string ⟨#[48]⟩,.string ⟨#[49]⟩] 25)=v3:=⟨_,rfl⟩
 have HQ:=Hi ((HP.out.below (w':=v3) (by rw[←hv3];exact(Below.refl _ _).alloc (Nat.le_refl _) _)).put (P:=fun v=>SB v g1 25 #[.string ⟨#[48]⟩,.string ⟨#[48]⟩,.string ⟨#[49]⟩,.string ⟨#[48]⟩,.string ⟨#[48]⟩,.string ⟨#[49]⟩]) (by rw[←hv3,←hg1];exact SB.new w3 _ _) (SB.stay _ _ _))
 have ne1:w.heap.size≠g1:=by have:=HP.out.base.size;have:=(HP.out.get (fun v=>SB v w.heap.size 54 #[.slice none 0 0,.slice none 0 0,.slice none 0 0]) (List.Mem.head _)).lt;omega
 clear HP
 have HP:=HQ
 have HV3:=Hi hv3
 have HG1:=Hi hg1
 clear HQ hv3 hg1
 go_wp2_with fail
 rw[HV3.out,HG1.out]
 go_fit (Qdb 0 1 v3)
 rintro e w4 ⟨rfl,hb⟩
 have HQ:=Hi (HP.out.below hb)
 clear HP hb
 have HP:=HQ
 clear HQ
 go_wp2_with fail
 go_fit (Qdb 1 2 w4)
 rintro e w5 ⟨rfl,hb⟩
 have HQ:=Hi (HP.out.below hb)
 clear HP hb
 have HP:=HQ
 clear HQ
 go_wp2_with fail
 go_fit (Qdb 2 0 w5)
 rintro e w6 ⟨rfl,hb⟩
 have HQ:=Hi (HP.out.below hb)
 clear HP hb
 have HP:=HQ
 clear HQ
 obtain⟨g2,hg2⟩:∃g2,w6.heap.size=g2:=⟨_,rfl⟩
 obtain⟨v7,hv7⟩:∃v7,(w6.alloc (.cells #[.int .i64 0,.int .i64 1,.string ⟨#[49]⟩,.string ⟨#[]⟩,.string ⟨#[45,49]⟩,.string ⟨#[50]⟩,.int .i64 1,.int .i64 2,.string ⟨#[49]⟩,.string ⟨#[]⟩,.string ⟨#[45,49]⟩,.string ⟨#[50]⟩,.int .i64 2,.int .i64 0,.string ⟨#[49]⟩,.string ⟨#[]⟩,.string ⟨#[45,49]⟩,.string ⟨#[50]⟩] 69)).alloc (.cells #[.int .i64 0,.int .i64 1,.string ⟨#[]⟩,.int .i64 0,.int .i64 2,.string ⟨#[]⟩,.int .i64 1,.int .i64 2,.string ⟨#[]⟩] 71)=v7:=⟨_,rfl⟩
 have HQ:=Hi (((HP.out.below (w':=v7) (by rw[←hv7];exact Below.new2 w6 _ _)).put (P:=fun v=>SB v g2 69 #[.int .i64 0,.int .i64 1,.string ⟨#[49]⟩,.string ⟨#[]⟩,.string ⟨#[45,49]⟩,.string ⟨#[50]⟩,.int .i64 1,.int .i64 2,.string ⟨#[49]⟩,.string ⟨#[]⟩,.string ⟨#[45,49]⟩,.string ⟨#[50]⟩,.int .i64 2,.int .i64 0,.string ⟨#[49]⟩,.string ⟨#[]⟩,.string ⟨#[45,49]⟩,.string ⟨#[50]⟩]) (by rw[←hv7,←hg2];exact(SB.new w6 _ _).alloc _) (SB.stay _ _ _)).put (P:=fun v=>SB v (g2+1) 71 #[.int .i64 0,.int .i64 1,.string ⟨#[]⟩,.int .i64 0,.int .i64 2,.string ⟨#[]⟩,.int .i64 1,.int .i64 2,.string ⟨#[]⟩]) (by rw[←hv7,←hg2];exact SB.new2 w6 _ _ _ _) (SB.stay _ _ _))
 have hres:=HP.out.get (fun v=>SB v w.heap.size 54 #[.slice none 0 0,.slice none 0 0,.slice none 0 0]) (by
  (focus(repeat(first|exact List.Mem.head _|apply List.Mem.tail)))
  skip)
 have ne2:w.heap.size≠g2:=by have:=hres.lt;omega
 have ne3:w.heap.size≠g2+1:=by have:=hres.lt;omega
 clear HP hres
 have HP:=HQ
 have hres:=HP.out.get (fun v=>SB v w.heap.size 54 #[.slice none 0 0,.slice none 0 0,.slice none 0 0]) (by
  (focus(repeat(first|exact List.Mem.head _|apply List.Mem.tail)))
  skip)
 have z0:v7.cell? ⟨w.heap.size,0,none⟩=some (.slice none 0 0):=hres.cell 0
 have z1:v7.cell? ⟨w.heap.size,1,none⟩=some (.slice none 0 0):=hres.cell 1
 have z2:v7.cell? ⟨w.heap.size,2,none⟩=some (.slice none 0 0):=hres.cell 2
 have f0:=hres.free 0
 have f1:=hres.free 1
 have f2:=hres.free 2
 rw[←hv7] at z0 z1 z2 f0 f1 f2
 have HRES:=Hi hres
 have HV7:=Hi hv7
 have HG2:=Hi hg2
 clear HQ hv7 hg2 hres
 go_wp2
 rw[HV7.out,HG2.out]
 have s1:=HP.out.get (fun v=>SB v g1 25 #[.string ⟨#[48]⟩,.string ⟨#[48]⟩,.string ⟨#[49]⟩,.string ⟨#[48]⟩,.string ⟨#[48]⟩,.string ⟨#[49]⟩]) (by
  (focus(repeat(first|exact List.Mem.head _|apply List.Mem.tail)))
  skip)
 have s2:=HP.out.get (fun v=>SB v g2 69 #[.int .i64 0,.int .i64 1,.string ⟨#[49]⟩,.string ⟨#[]⟩,.string ⟨#[45,49]⟩,.string ⟨#[50]⟩,.int .i64 1,.int .i64 2,.string ⟨#[49]⟩,.string ⟨#[]⟩,.string ⟨#[45,49]⟩,.string ⟨#[50]⟩,.int .i64 2,.int .i64 0,.string ⟨#[49]⟩,.string ⟨#[]⟩,.string ⟨#[45,49]⟩,.string ⟨#[50]⟩]) (by
  (focus(repeat(first|exact List.Mem.head _|apply List.Mem.tail)))
  skip)
 have s3:=HP.out.get (fun v=>SB v (g2+1) 71 #[.int .i64 0,.int .i64 1,.string ⟨#[]⟩,.int .i64 0,.int .i64 2,.string ⟨#[]⟩,.int .i64 1,.int .i64 2,.string ⟨#[]⟩]) (by
  (focus(repeat(first|exact List.Mem.head _|apply List.Mem.tail)))
  skip)
 have r1:ARow S2.cells v7 (some ⟨g1,0,none⟩) 3 cornerJ:=s1.arow rfl (by decide)
 have r2:ARow B6.cells v7 (some ⟨g2,0,none⟩) 3 cornerB:=s2.arow rfl (by decide)
 have r3:ARow H3.cells v7 (some ⟨g2+1,0,none⟩) 3 cornerH:=s3.arow rfl (by decide)
 refine bodyPost_ret (results_cell_row rfl _ _ w.heap.size 54 #[.slice (some ⟨g1,0,none⟩) 3 3,.slice (some ⟨g2,0,none⟩) 3 3,.slice (some ⟨g2+1,0,none⟩) 3 3] (0,0) _ rfl (((HRES.out.set 0 _).set 1 _).set 2 _) Tryz.underlying54 rfl Tryz.frameInfo) rfl ?_
 exact⟨g1,g2,g2+1,rfl,⟨((r1.far ne1).far ne1).far ne1,((r2.far ne2).far ne2).far ne2,((r3.far ne3).far ne3).far ne3⟩,((HP.out.base.setCell (Nat.le_refl _) _).setCell (Nat.le_refl _) _).setCell (Nat.le_refl _) _⟩
end Go.Proofs.YtjhdfkcdigmfhaaGreatDoor
