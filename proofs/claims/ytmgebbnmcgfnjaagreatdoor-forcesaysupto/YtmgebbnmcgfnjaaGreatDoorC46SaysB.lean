/- rafterlaw's ForceSays where the forces are too many. -/
import Derived.Test.YtmgebbnmcgfnjaaGreatDoorC40LawD
import Derived.Test.YtmgebbnmcgfnjaaGreatDoorC45SaysA
import Derived.Test.YtmgebbnmcgfnjaaGreatDoorC44StillF
namespace Go.Proofs.YtmgebbnmcgfnjaaGreatDoor
open Go.RowKit
set_option linter.unusedVariables false
set_option linter.unusedSimpArgs false

/-- the mark lies in the world -/
structure Marked (w : World) : Prop where
  c0 : w.cell? ⟨0, 0, none⟩ = some (.string ⟨#[109, 97, 114, 107]⟩)
  c1 : w.cell? ⟨0, 1, none⟩ = some (.string ⟨#[]⟩)
  c2 : w.cell? ⟨0, 2, none⟩ = some (.string ⟨#[]⟩)
  c3 : w.cell? ⟨0, 3, none⟩ = some (.string ⟨#[]⟩)
theorem Marked.below {w w' : World} (h : Marked w) (hb : Below w.heap.size w w') : Marked w' := by
  have hl : 0 < w.heap.size := World.block_lt_of_cell? _ _ h.c0
  exact ⟨(hb.cell (p := ⟨0, 0, none⟩) hl).trans h.c0, (hb.cell (p := ⟨0, 1, none⟩) hl).trans h.c1, (hb.cell (p := ⟨0, 2, none⟩) hl).trans h.c2, (hb.cell (p := ⟨0, 3, none⟩) hl).trans h.c3⟩
theorem FRow.left {w : World} {a : Option Addr} {cap : Nat} {fs gs : List F4} (h : FRow w a cap (fs ++ gs)) : FRow w a cap fs := by
  refine ⟨?_, fun i f hi => h.cell i f ?_⟩
  · have := h.fit
    simp at this
    omega
  · rw [List.getElem?_append_left (List.getElem?_eq_some_iff.1 hi).1]
    exact hi

set_option maxRecDepth 100000 in
set_option maxHeartbeats 2000000 in
theorem says_many (a b : Option Addr) (cap cap2 k : Nat) (fs : List F4) (sx sy : ByteArray) (w : World) (hg : Glob w) (hm : Marked w) (hf : FRow w a cap fs) (hn : fs.length ≤ 1048576) (hl : 60 < fs.length) :
    Calls Tryz.prog 3 #[.slice a fs.length cap, .slice b k cap2, .agg #[.string sx, .string sy]] w fun e w' => e = .returned (.bool true) ∧ Below w.heap.size w w' := by
  have HG := Hid.intro hg
  have HM := Hid.intro hm
  have HF := Hid.intro hf
  clear hg hm hf
  go_enter Tryz.func3, Tryz.ntmps3
  go_wp2_with fail
  obtain ⟨wA, hwA⟩ : ∃ wA, w.alloc (.cells #[.string sx, .string sy] 25) = wA := ⟨_, rfl⟩
  have HBA : Hid (Below w.heap.size w wA) := Hid.intro (by rw [← hwA]; exact (Below.refl _ _).alloc (Nat.le_refl _) _)
  have HAB : Hid (SB wA w.heap.size 25 #[.string sx, .string sy]) := Hid.intro (by rw [← hwA]; exact SB.new w _ _)
  rw [hwA]
  clear hwA
  go_fit (law_turns wA (HG.out.below HBA.out))
  rintro e w1 ⟨rfl, hb1⟩
  have HB1 := Hid.intro (HBA.out.trans (hb1.mono HBA.out.size))
  have HC1 := Hid.intro hb1
  clear hb1
  have hmk := HM.out.below HB1.out
  have m0 : w1.cell? ⟨0, 0, none⟩ = some (.string ⟨#[109, 97, 114, 107]⟩) := hmk.c0
  have m1 : w1.cell? ⟨0, 1, none⟩ = some (.string ⟨#[]⟩) := hmk.c1
  have m2 : w1.cell? ⟨0, 2, none⟩ = some (.string ⟨#[]⟩) := hmk.c2
  have m3 : w1.cell? ⟨0, 3, none⟩ = some (.string ⟨#[]⟩) := hmk.c3
  clear hmk
  go_wp2_with fail
  clear m0 m1 m2 m3
  go_fit (lend_force a cap fs ⟨#[109, 97, 114, 107]⟩ ⟨#[]⟩ ⟨#[]⟩ ⟨#[]⟩ w1 (HF.out.below HB1.out) hn)
  rintro e w2 ⟨g, rfl, hrow, hb2⟩
  have HB2 := Hid.intro (HB1.out.trans (hb2.mono HB1.out.size))
  have HC2 := Hid.intro (HC1.out.trans (hb2.mono HC1.out.size))
  have HL := Hid.intro hrow
  clear hb2 hrow
  have hab := HAB.out.below HC2.out HAB.out.lt
  have k0 : _ = some (Value.string sx) := hab.cell 0
  have k1 : _ = some (Value.string sy) := hab.cell 1
  clear hab
  go_wp2_with fail
  clear k0 k1
  go_fit (force_Total_many (some ⟨g, 0, none⟩) (fs.length + 3) fs.length sx sy w2 hl)
  rintro e w3 ⟨rfl, hb3⟩
  have HB3 := Hid.intro (HB2.out.trans (hb3.mono HB2.out.size))
  have HC3 := Hid.intro (HC2.out.trans (hb3.mono HC2.out.size))
  have HD3 := Hid.intro hb3
  clear hb3
  obtain ⟨gV, hgV⟩ : ∃ gV, w3.heap.size = gV := ⟨_, rfl⟩
  obtain ⟨wB, hwB⟩ : ∃ wB, w3.alloc (.cells #[.string ⟨#[]⟩, .string ⟨#[]⟩] 25) = wB := ⟨_, rfl⟩
  have HB4 : Hid (Below w.heap.size w wB) := Hid.intro (by rw [← hwB]; exact HB3.out.alloc HB3.out.size _)
  have HC4 : Hid (Below wA.heap.size wA wB) := Hid.intro (by rw [← hwB]; exact HC3.out.alloc HC3.out.size _)
  have HD4 : Hid (Below w2.heap.size w2 wB) := Hid.intro (by rw [← hwB]; exact HD3.out.alloc HD3.out.size _)
  have HV : Hid (SB wB gV 25 #[.string ⟨#[]⟩, .string ⟨#[]⟩]) := Hid.intro (by rw [← hwB, ← hgV]; exact SB.new w3 _ _)
  have HWB := Hid.intro hwB
  have HGV := Hid.intro hgV
  clear hwB hgV
  go_wp2_with fail
  rw [HWB.out, HGV.out]
  go_fit (force_Sum_many (some ⟨g, 0, none⟩) (fs.length + 3) fs.length wB hl)
  rintro e w4 ⟨rfl, hb4⟩
  have HB5 := Hid.intro (HB4.out.trans (hb4.mono HB4.out.size))
  have HC5 := Hid.intro (HC4.out.trans (hb4.mono HC4.out.size))
  have HD5 := Hid.intro (HD4.out.trans (hb4.mono HD4.out.size))
  have HE5 := Hid.intro hb4
  clear hb4
  obtain ⟨gS, hgS⟩ : ∃ gS, w4.heap.size = gS := ⟨_, rfl⟩
  obtain ⟨wC, hwC⟩ : ∃ wC, w4.alloc (.cells #[.int .i64 (0), .string ⟨#[]⟩, .string ⟨#[]⟩, .string ⟨#[]⟩, .string ⟨#[]⟩, .string ⟨#[]⟩] 34) = wC := ⟨_, rfl⟩
  have HB6 : Hid (Below w.heap.size w wC) := Hid.intro (by rw [← hwC]; exact HB5.out.alloc HB5.out.size _)
  have HC6 : Hid (Below wA.heap.size wA wC) := Hid.intro (by rw [← hwC]; exact HC5.out.alloc HC5.out.size _)
  have HD6 : Hid (Below w2.heap.size w2 wC) := Hid.intro (by rw [← hwC]; exact HD5.out.alloc HD5.out.size _)
  have HE6 : Hid (Below wB.heap.size wB wC) := Hid.intro (by rw [← hwC]; exact HE5.out.alloc HE5.out.size _)
  have HU : Hid (SB wC gS 34 #[.int .i64 (0), .string ⟨#[]⟩, .string ⟨#[]⟩, .string ⟨#[]⟩, .string ⟨#[]⟩, .string ⟨#[]⟩]) := Hid.intro (by rw [← hwC, ← hgS]; exact SB.new w4 _ _)
  have HWC := Hid.intro hwC
  have HGS := Hid.intro hgS
  clear hwC hgS
  go_wp2_with fail
  rw [HWC.out, HGS.out]
  go_fit (force_Alike_many (some ⟨g, 0, none⟩) b (fs.length + 3) cap2 fs.length k wC (.inl hl))
  rintro e w5 ⟨rfl, rfl⟩
  have hmk := HM.out.below HB6.out
  have m0 : w5.cell? ⟨0, 0, none⟩ = some (.string ⟨#[109, 97, 114, 107]⟩) := hmk.c0
  have m1 : w5.cell? ⟨0, 1, none⟩ = some (.string ⟨#[]⟩) := hmk.c1
  have m2 : w5.cell? ⟨0, 2, none⟩ = some (.string ⟨#[]⟩) := hmk.c2
  have m3 : w5.cell? ⟨0, 3, none⟩ = some (.string ⟨#[]⟩) := hmk.c3
  clear hmk
  go_wp2_with fail
  clear m0 m1 m2 m3
  go_fit (still_force g a cap fs _ _ _ _ w5 (HL.out.below HD6.out) (HF.out.below HB6.out) hn)
  rintro e w6 ⟨rfl, hb7⟩
  have hv := (HV.out.below HE6.out HV.out.lt).below hb7 (HV.out.below HE6.out HV.out.lt).lt
  have hu := HU.out.below hb7 HU.out.lt
  have v0 : w6.cell? ⟨gV, 0, none⟩ = some (.string ⟨#[]⟩) := hv.cell 0
  have v1 : w6.cell? ⟨gV, 1, none⟩ = some (.string ⟨#[]⟩) := hv.cell 1
  have u0 : w6.cell? ⟨gS, 0, none⟩ = some (.int .i64 0) := hu.cell 0
  have u1 : w6.cell? ⟨gS, 1, none⟩ = some (.string ⟨#[]⟩) := hu.cell 1
  have u2 : w6.cell? ⟨gS, 2, none⟩ = some (.string ⟨#[]⟩) := hu.cell 2
  have u3 : w6.cell? ⟨gS, 3, none⟩ = some (.string ⟨#[]⟩) := hu.cell 3
  have u4 : w6.cell? ⟨gS, 4, none⟩ = some (.string ⟨#[]⟩) := hu.cell 4
  have u5 : w6.cell? ⟨gS, 5, none⟩ = some (.string ⟨#[]⟩) := hu.cell 5
  have HB7 := Hid.intro (HB6.out.trans (hb7.mono HB6.out.size))
  have q1 : ((60 : Int) < (fs.length : Int)) := by omega
  clear hv hu hb7
  go_wp2
  go_ret
  exact ⟨rfl, HB7.out⟩
end Go.Proofs.YtmgebbnmcgfnjaaGreatDoor
