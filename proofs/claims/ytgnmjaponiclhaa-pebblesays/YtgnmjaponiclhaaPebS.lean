/- raftersame: Still, of edges that were lent. -/
import Derived.Test.YtgnmjaponiclhaaPebB
import Derived.BigRegion
namespace Go.Proofs.Ytgnmjaponiclhaa
open Go.RowKit Go.MapKept
set_option linter.unusedVariables false
set_option linter.unusedSimpArgs false
set_option maxRecDepth 100000 in
set_option maxHeartbeats 4000000 in
theorem same_Still (g off : Nat) (cap : Nat) (a2 : Option Addr) (cap2 : Nat) (es : List (Int × Int)) (mk : Int × Int) (w : World) (h1 : ERow w (some ⟨g, off, none⟩) cap (es ++ [mk, mk, mk])) (h2 : ERow w a2 cap2 es) (hlen : es.length ≤ 8796093021952) :
    Calls Try.prog 15 #[.slice (some ⟨g, off, none⟩) es.length cap, .slice a2 es.length cap2, .agg #[.int .i64 mk.1, .int .i64 mk.2]] w fun e w' => e = .returned (.bool true) ∧ Below w.heap.size w w' := by
  have hfit : es.length + 3 ≤ cap := by
    have := h1.fit
    rw [List.length_append] at this
    exact this
  have HE1 := Hid.intro h1
  have HE2 := Hid.intro h2
  clear h1 h2
  go_enter Try.func15, Try.ntmps15
  obtain ⟨W, hW⟩ : ∃ W, w.alloc (.cells #[.int .i64 mk.1, .int .i64 mk.2] 29) = W := ⟨_, rfl⟩
  obtain ⟨s, hs⟩ : ∃ s, w.heap.size = s := ⟨_, rfl⟩
  have HB0 : Hid (Below w.heap.size w W) := Hid.intro (by rw [← hW]; exact (Below.refl _ _).alloc (Nat.le_refl _) _)
  have HS0 : Hid (SB W s 29 #[.int .i64 mk.1, .int .i64 mk.2]) := Hid.intro (by rw [← hW, ← hs]; exact SB.new w _ _)
  have HSS := Hid.intro hs
  have HW := Hid.intro hW
  clear hs hW
  go_wp2_with fail
  rw [HW.out, HSS.out]
  go_loopw [17] (fun iv wr => ∃ k : Nat, k ≤ es.length + 3 ∧ iv = .int .i64 k ∧ SB wr s 29 #[.int .i64 mk.1, .int .i64 mk.2] ∧ Below w.heap.size w wr) (fun iv _ => es.length + 3 - (intOf iv).toNat)
  case atStart => exact ⟨0, by omega, rfl, HS0.out, HB0.out⟩
  case round =>
    obtain ⟨k, hk, rfl, hsb, hbw⟩ := hrel
    have HSW := Hid.intro hsb
    have HBW := Hid.intro hbw
    clear hsb hbw
    by_cases hlt : k < es.length + 3
    · have hll : (es ++ [mk, mk, mk]).length = es.length + 3 := by rw [List.length_append]; rfl
      obtain ⟨f, hf⟩ : ∃ f, (es ++ [mk, mk, mk])[k]? = some f := ⟨(es ++ [mk, mk, mk])[k]'(by omega), List.getElem?_eq_getElem (by omega)⟩
      obtain ⟨fb, of, hfo, hfb, d0, d1⟩ := (HE1.out.below HBW.out).cell k f hf
      obtain ⟨rfl, rfl⟩ : g = fb ∧ off = of := by simpa using hfo
      obtain ⟨V1, hV1⟩ : ∃ V1, wr.alloc (.cells #[.int .i64 f.1, .int .i64 f.2] 29) = V1 := ⟨_, rfl⟩
      have hb1 : Below wr.heap.size wr V1 := by rw [← hV1]; exact (Below.refl _ _).alloc (Nat.le_refl _) _
      have HBV1 := Hid.intro (HBW.out.trans (hb1.mono HBW.out.size))
      have HS1 := Hid.intro (HSW.out.below hb1 HSW.out.lt)
      have hp1 : SB V1 wr.heap.size 29 #[.int .i64 f.1, .int .i64 f.2] := by rw [← hV1]; exact SB.new wr _ _
      have q1 : ((k : Int) < (es.length : Int) + 3) := by omega
      have p0 : V1.cell? ⟨wr.heap.size, 0, none⟩ = some (.int .i64 f.1) := hp1.cell 0
      have p1 : V1.cell? ⟨wr.heap.size, 1, none⟩ = some (.int .i64 f.2) := hp1.cell 1
      have m0 : V1.cell? ⟨s, 0, none⟩ = some (.int .i64 mk.1) := HS1.out.cell 0
      have m1 : V1.cell? ⟨s, 1, none⟩ = some (.int .i64 mk.2) := HS1.out.cell 1
      have heqf : ∀ v : World, (Op.equalIn 10000 29 (.agg #[.int .i64 f.1, .int .i64 f.2]) (.agg #[.int .i64 f.1, .int .i64 f.2])).run Try.prog v = .ok true v := fun v => (run_equalIn_pair 9998 f f v).trans (by rw [decide_eq_true rfl])
      have HV1 := Hid.intro hV1
      clear hfo hll
      by_cases g1 : k < es.length
      · have q2 : ((k : Int) < (es.length : Int)) := by omega
        have q3 : decide ((es.length : Int) ≤ (k : Int)) = false := by simp; omega
        have q4 : ¬ (es.length ≤ k) := by omega
        rw [List.getElem?_append_left g1] at hf
        obtain ⟨b2, o2, rfl, hb2, r0, r1⟩ := (HE2.out.below HBV1.out).cell k f hf
        clear hf hp1 hb1 hV1 m0 m1
        go_wp2_with fail
        rw [HV1.out]
        go_region
        go_wp2
        go_roundw
        case rel => exact ⟨k + 1, by omega, by go_num, HS1.out, HBV1.out.drew⟩
        case measure => simp [intOf]; omega
      · have q2 : ¬ ((k : Int) < (es.length : Int)) := by omega
        have q3 : (es.length : Int) ≤ (k : Int) := by omega
        have hfm : f = mk := by
          rw [List.getElem?_append_right (by omega)] at hf
          have h3 : k - es.length = 0 ∨ k - es.length = 1 ∨ k - es.length = 2 := by omega
          rcases h3 with h | h | h <;> (rw [h] at hf; exact (Option.some.inj hf).symm)
        subst hfm
        clear hf hp1 hb1 hV1
        go_wp2_with fail
        rw [HV1.out]
        go_region
        go_wp2
        go_roundw
        case rel => exact ⟨k + 1, by omega, by go_num, HS1.out, HBV1.out.drew⟩
        case measure => simp [intOf]; omega
    · obtain rfl : k = es.length + 3 := by omega
      go_wp2
      go_ret
      exact ⟨rfl, HBW.out⟩
end Go.Proofs.Ytgnmjaponiclhaa
