/- raftersame's Still at forces. -/
import Derived.Test.YtmgebbnmcgfnjaaGreatDoorC43LendF
import Derived.Deep.QuietTactic
import Derived.BigQuiet
namespace Go.Proofs.YtmgebbnmcgfnjaaGreatDoor
open Go.RowKit
set_option linter.unusedVariables false
set_option linter.unusedSimpArgs false

set_option maxRecDepth 100000 in
set_option maxHeartbeats 4000000 in
theorem still_force (g : Nat) (a : Option Addr) (cap : Nat) (fs : List F4) (m0 m1 m2 m3 : ByteArray) (w : World) (hl : FRow w (some ⟨g, 0, none⟩) (fs.length + 3) (fs ++ [⟨m0, m1, m2, m3⟩, ⟨m0, m1, m2, m3⟩, ⟨m0, m1, m2, m3⟩])) (hf : FRow w a cap fs) (hn : fs.length ≤ 1048576) :
    Calls Tryz.prog 15 #[.slice (some ⟨g, 0, none⟩) fs.length (fs.length + 3), .slice a fs.length cap, .agg #[.string m0, .string m1, .string m2, .string m3]] w fun e w' => e = .returned (.bool true) ∧ Below w.heap.size w w' := by
  have HL := Hid.intro hl
  have HF := Hid.intro hf
  clear hl hf
  go_enter Tryz.func15, Tryz.ntmps15
  go_wp2_with fail
  obtain ⟨W, hW⟩ : ∃ W, w.alloc (.cells #[.string m0, .string m1, .string m2, .string m3] 29) = W := ⟨_, rfl⟩
  have HB0 : Hid (Below w.heap.size w W) := Hid.intro (by rw [← hW]; exact (Below.refl _ _).alloc (Nat.le_refl _) _)
  have HSB : Hid (SB W w.heap.size 29 #[.string m0, .string m1, .string m2, .string m3]) := Hid.intro (by rw [← hW]; exact SB.new w _ _)
  have hlt : w.heap.size < W.heap.size := HSB.out.lt
  rw [hW]
  clear hW
  go_loopw [17] (fun iv wr => ∃ k : Nat, k ≤ fs.length + 3 ∧ iv = .int .i64 k ∧ Below W.heap.size W wr) (fun iv _ => fs.length + 3 - (intOf iv).toNat)
  case atStart => exact ⟨0, by omega, rfl, Below.refl _ _⟩
  case round =>
    obtain ⟨k, hk, rfl, hb⟩ := hrel
    have HB := Hid.intro hb
    have hsz := hb.size
    clear hb
    by_cases hlt3 : k < fs.length + 3
    · obtain ⟨f, hfk⟩ : ∃ f, (fs ++ [⟨m0, m1, m2, m3⟩, ⟨m0, m1, m2, m3⟩, ⟨m0, m1, m2, m3⟩])[k]? = some f := ⟨_, List.getElem?_eq_getElem (by simpa using hlt3)⟩
      obtain ⟨fb, off, hfa, hfb, c0, c1, c2, c3⟩ := (HL.out.below (HB0.out.trans (HB.out.mono HB0.out.size))).cell k f hfk
      simp only [Option.some.injEq, Addr.mk.injEq, and_true] at hfa
      obtain ⟨rfl, rfl⟩ := hfa
      rw [Nat.zero_add] at c0 c1 c2 c3
      by_cases hkn : k < fs.length
      · have hfk' : fs[k]? = some f := by rw [List.getElem?_append_left hkn] at hfk; exact hfk
        obtain ⟨ab, aoff, rfl, hab, d0, d1, d2, d3⟩ := (HF.out.below (HB0.out.trans (HB.out.mono HB0.out.size))).cell k f hfk'
        have q1 : ((k : Int) < (fs.length : Int)) := by omega
        have q2 : decide (fs.length ≤ k) = false := by simpa using hkn
        have HFK := Hid.intro hfk
        clear hfk hfk'
        go_wp2_with fail
        obtain ⟨V, hV⟩ : ∃ V, wr.alloc (.cells #[.string f.ax, .string f.ay, .string f.wx, .string f.wy] 29) = V := ⟨_, rfl⟩
        obtain ⟨vb, hvb⟩ : ∃ vb, wr.heap.size = vb := ⟨_, rfl⟩
        have hsV : SB V vb 29 #[.string f.ax, .string f.ay, .string f.wx, .string f.wy] := by rw [← hV, ← hvb]; exact SB.new wr _ _
        have hbV : Below wr.heap.size wr V := by rw [← hV]; exact (Below.refl _ _).alloc (Nat.le_refl _) _
        have HBV : Hid (Below W.heap.size W V) := Hid.intro (HB.out.trans (hbV.mono HB.out.size))
        have hsm := HSB.out.below HBV.out HSB.out.lt
        have e0 : V.cell? ⟨vb, 0, none⟩ = some (.string f.ax) := hsV.cell 0
        have e1 : V.cell? ⟨vb, 1, none⟩ = some (.string f.ay) := hsV.cell 1
        have e2 : V.cell? ⟨vb, 2, none⟩ = some (.string f.wx) := hsV.cell 2
        have e3 : V.cell? ⟨vb, 3, none⟩ = some (.string f.wy) := hsV.cell 3
        have b0 : V.cell? ⟨w.heap.size, 0, none⟩ = some (.string m0) := hsm.cell 0
        have b1 : V.cell? ⟨w.heap.size, 1, none⟩ = some (.string m1) := hsm.cell 1
        have b2 : V.cell? ⟨w.heap.size, 2, none⟩ = some (.string m2) := hsm.cell 2
        have b3 : V.cell? ⟨w.heap.size, 3, none⟩ = some (.string m3) := hsm.cell 3
        rw [hV, hvb]
        clear hV hsV hsm hvb
        have a0 : V.cell? ⟨ab, aoff + k * 4, none⟩ = some (.string f.ax) := (hbV.cell (p := ⟨ab, aoff + k * 4, none⟩) hab).trans d0
        have a1 : V.cell? ⟨ab, aoff + k * 4 + 1, none⟩ = some (.string f.ay) := (hbV.cell (p := ⟨ab, aoff + k * 4 + 1, none⟩) hab).trans d1
        have a2 : V.cell? ⟨ab, aoff + k * 4 + 2, none⟩ = some (.string f.wx) := (hbV.cell (p := ⟨ab, aoff + k * 4 + 2, none⟩) hab).trans d2
        have a3 : V.cell? ⟨ab, aoff + k * 4 + 3, none⟩ = some (.string f.wy) := (hbV.cell (p := ⟨ab, aoff + k * 4 + 3, none⟩) hab).trans d3
        clear c0 c1 c2 c3 d0 d1 d2 d3 hbV
        go_quiet (fail)
        go_wp2
        go_roundw
        case rel => exact ⟨k + 1, by omega, by go_num, ⟨HBV.out.os, HBV.out.tape, HBV.out.output, HBV.out.size, HBV.out.block⟩⟩
        case measure => simp [intOf]; omega
      · have hm : f = ⟨m0, m1, m2, m3⟩ := by
          rw [List.getElem?_append_right (by omega)] at hfk
          have h3 : k - fs.length = 0 ∨ k - fs.length = 1 ∨ k - fs.length = 2 := by omega
          rcases h3 with h | h | h <;> rw [h] at hfk <;> exact (Option.some.inj hfk).symm
        subst hm
        have q1 : ¬ ((k : Int) < (fs.length : Int)) := by omega
        have q2 : decide ((k : Int) < (fs.length : Int)) = false := by simpa using q1
        clear hfk
        go_wp2_with fail
        obtain ⟨V, hV⟩ : ∃ V, wr.alloc (.cells #[.string m0, .string m1, .string m2, .string m3] 29) = V := ⟨_, rfl⟩
        obtain ⟨vb, hvb⟩ : ∃ vb, wr.heap.size = vb := ⟨_, rfl⟩
        have hsV : SB V vb 29 #[.string m0, .string m1, .string m2, .string m3] := by rw [← hV, ← hvb]; exact SB.new wr _ _
        have hbV : Below wr.heap.size wr V := by rw [← hV]; exact (Below.refl _ _).alloc (Nat.le_refl _) _
        have HBV : Hid (Below W.heap.size W V) := Hid.intro (HB.out.trans (hbV.mono HB.out.size))
        have hsm := HSB.out.below HBV.out HSB.out.lt
        have e0 : V.cell? ⟨vb, 0, none⟩ = some (.string m0) := hsV.cell 0
        have e1 : V.cell? ⟨vb, 1, none⟩ = some (.string m1) := hsV.cell 1
        have e2 : V.cell? ⟨vb, 2, none⟩ = some (.string m2) := hsV.cell 2
        have e3 : V.cell? ⟨vb, 3, none⟩ = some (.string m3) := hsV.cell 3
        have b0 : V.cell? ⟨w.heap.size, 0, none⟩ = some (.string m0) := hsm.cell 0
        have b1 : V.cell? ⟨w.heap.size, 1, none⟩ = some (.string m1) := hsm.cell 1
        have b2 : V.cell? ⟨w.heap.size, 2, none⟩ = some (.string m2) := hsm.cell 2
        have b3 : V.cell? ⟨w.heap.size, 3, none⟩ = some (.string m3) := hsm.cell 3
        rw [hV, hvb]
        clear hV hsV hsm hvb
        clear c0 c1 c2 c3 hbV
        go_quiet (fail)
        go_wp2
        go_roundw
        case rel => exact ⟨k + 1, by omega, by go_num, ⟨HBV.out.os, HBV.out.tape, HBV.out.output, HBV.out.size, HBV.out.block⟩⟩
        case measure => simp [intOf]; omega
    · have hk' : k = fs.length + 3 := by omega
      subst hk'
      go_wp2
      go_ret
      exact ⟨rfl, HB0.out.trans (HB.out.mono HB0.out.size)⟩
end Go.Proofs.YtmgebbnmcgfnjaaGreatDoor
