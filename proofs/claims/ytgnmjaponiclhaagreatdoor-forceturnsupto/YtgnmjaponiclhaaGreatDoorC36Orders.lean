/- package force: a total's kind and nearest. Written by tools/genforce.py. A region that draws its order: a condition on the world that holds behind every operation but one, the last. -/
import Derived.Test.YtgnmjaponiclhaaGreatDoorC35ForceC
import Derived.Test.YtgnmjaponiclhaaGreatDoorC00BigTrim
import Derived.Deep.RegionHeld3
namespace Go.Proofs.YtgnmjaponiclhaaGreatDoor
open Go.RowKit
set_option linter.unusedVariables false
set_option linter.unusedSimpArgs false

/-- the kind that forces are of -/
def kindOf (x y t : Rat) : Int := if x = 0 ∧ y = 0 then (if t = 0 then 1 else 2) else 3

set_option maxRecDepth 100000 in
set_option maxHeartbeats 4000000 in
theorem tot_kind {w : World} {t1 t2 t3 t4 t5 t6 t7 t8 t9 : Value} {sdum : ByteArray} {j1 j2 j3 : Nat} {x y t : Rat} (h : FBag w w [⟨t1, t2, t3, x, j1⟩, ⟨t4, t5, t6, y, j2⟩, ⟨t7, t8, t9, t, j3⟩])  :
    Calls Tryz.prog 69 #[.agg #[t1, t2, t3, t4, t5, t6, t7, t8, t9]] w (fun e w' => e = .returned (.int .i64 (kindOf x y t)) ∧ Below w.heap.size w w') := by
  obtain ⟨wA, hwA⟩ : ∃ wA, (w.alloc (.cells #[t1, t2, t3, t4, t5, t6, t7, t8, t9] 132)) = wA := ⟨_, rfl⟩
  have hbA : Below w.heap.size w wA := by rw [← hwA]; exact ((Below.refl _ _).alloc (by first | exact Nat.le_refl _ | (simp only [World.size_alloc]; omega)) _)
  have hs0 : SB wA (w.heap.size) 132 #[t1, t2, t3, t4, t5, t6, t7, t8, t9] := by rw [← hwA]; exact (SB.new w _ _)
  have HS0 := Hid.intro hs0
  have lt0 := hs0.lt
  have K0_0 : Hid (wA.cell? ⟨w.heap.size, 0, none⟩ = some (t1)) := Hid.intro (hs0.cell 0)
  have K0_1 : Hid (wA.cell? ⟨w.heap.size, 1, none⟩ = some (t2)) := Hid.intro (hs0.cell 1)
  have K0_2 : Hid (wA.cell? ⟨w.heap.size, 2, none⟩ = some (t3)) := Hid.intro (hs0.cell 2)
  have K0_3 : Hid (wA.cell? ⟨w.heap.size, 3, none⟩ = some (t4)) := Hid.intro (hs0.cell 3)
  have K0_4 : Hid (wA.cell? ⟨w.heap.size, 4, none⟩ = some (t5)) := Hid.intro (hs0.cell 4)
  have K0_5 : Hid (wA.cell? ⟨w.heap.size, 5, none⟩ = some (t6)) := Hid.intro (hs0.cell 5)
  have K0_6 : Hid (wA.cell? ⟨w.heap.size, 6, none⟩ = some (t7)) := Hid.intro (hs0.cell 6)
  have K0_7 : Hid (wA.cell? ⟨w.heap.size, 7, none⟩ = some (t8)) := Hid.intro (hs0.cell 7)
  have K0_8 : Hid (wA.cell? ⟨w.heap.size, 8, none⟩ = some (t9)) := Hid.intro (hs0.cell 8)
  have HR := Hid.intro (h.below hbA).rebase
  have HGL := Hid.intro h.glob
  have HBA := Hid.intro hbA
  have HWA := Hid.intro hwA
  clear h hbA hwA hs0
  go_enter Tryz.func69, Tryz.ntmps69
  have c0_0 := (HR.out.base.cell (p := ⟨w.heap.size, 0, none⟩) lt0).trans K0_0.out
  have c0_1 := (HR.out.base.cell (p := ⟨w.heap.size, 1, none⟩) lt0).trans K0_1.out
  have c0_2 := (HR.out.base.cell (p := ⟨w.heap.size, 2, none⟩) lt0).trans K0_2.out
  have c0_3 := (HR.out.base.cell (p := ⟨w.heap.size, 3, none⟩) lt0).trans K0_3.out
  have c0_4 := (HR.out.base.cell (p := ⟨w.heap.size, 4, none⟩) lt0).trans K0_4.out
  have c0_5 := (HR.out.base.cell (p := ⟨w.heap.size, 5, none⟩) lt0).trans K0_5.out
  have c0_6 := (HR.out.base.cell (p := ⟨w.heap.size, 6, none⟩) lt0).trans K0_6.out
  have c0_7 := (HR.out.base.cell (p := ⟨w.heap.size, 7, none⟩) lt0).trans K0_7.out
  have c0_8 := (HR.out.base.cell (p := ⟨w.heap.size, 8, none⟩) lt0).trans K0_8.out
  go_wp2_with fail
  rw [show (w.alloc (.cells #[t1, t2, t3, t4, t5, t6, t7, t8, t9] 132)) = wA from HWA.out]
  by_cases hz : x = 0 ∧ y = 0
  · skip
    apply Calls.mono
    apply FBag.viszero (w0 := wA) HR.out
    (focus (repeat (first | exact List.Mem.head _ | apply List.Mem.tail)))
    (focus (repeat (first | exact List.Mem.head _ | apply List.Mem.tail)))
    rw [decide_eq_true hz]
    rintro e wn ⟨rfl, hb⟩
    clear HR
    have HR := Hid.intro hb
    clear hb
    have c0_0 := (HR.out.base.cell (p := ⟨w.heap.size, 0, none⟩) lt0).trans K0_0.out
    have c0_1 := (HR.out.base.cell (p := ⟨w.heap.size, 1, none⟩) lt0).trans K0_1.out
    have c0_2 := (HR.out.base.cell (p := ⟨w.heap.size, 2, none⟩) lt0).trans K0_2.out
    have c0_3 := (HR.out.base.cell (p := ⟨w.heap.size, 3, none⟩) lt0).trans K0_3.out
    have c0_4 := (HR.out.base.cell (p := ⟨w.heap.size, 4, none⟩) lt0).trans K0_4.out
    have c0_5 := (HR.out.base.cell (p := ⟨w.heap.size, 5, none⟩) lt0).trans K0_5.out
    have c0_6 := (HR.out.base.cell (p := ⟨w.heap.size, 6, none⟩) lt0).trans K0_6.out
    have c0_7 := (HR.out.base.cell (p := ⟨w.heap.size, 7, none⟩) lt0).trans K0_7.out
    have c0_8 := (HR.out.base.cell (p := ⟨w.heap.size, 8, none⟩) lt0).trans K0_8.out
    go_wp2_with fail
    by_cases ht : t = 0
    · skip
      apply Calls.mono
      apply FBag.isZero (w0 := wA) HR.out
      (focus (repeat (first | exact List.Mem.head _ | apply List.Mem.tail)))
      rw [decide_eq_true ht]
      rintro e wm ⟨rfl, hb⟩
      clear HR
      have HR := Hid.intro hb
      clear hb

      go_wp2
      go_ret
      exact ⟨by rw [kindOf, if_pos hz, if_pos ht]; rfl, HBA.out.trans (HR.out.base.mono HBA.out.size)⟩
    · skip
      apply Calls.mono
      apply FBag.isZero (w0 := wA) HR.out
      (focus (repeat (first | exact List.Mem.head _ | apply List.Mem.tail)))
      rw [decide_eq_false ht]
      rintro e wm ⟨rfl, hb⟩
      clear HR
      have HR := Hid.intro hb
      clear hb

      go_wp2
      go_ret
      exact ⟨by rw [kindOf, if_pos hz, if_neg ht]; rfl, HBA.out.trans (HR.out.base.mono HBA.out.size)⟩
  · skip
    apply Calls.mono
    apply FBag.viszero (w0 := wA) HR.out
    (focus (repeat (first | exact List.Mem.head _ | apply List.Mem.tail)))
    (focus (repeat (first | exact List.Mem.head _ | apply List.Mem.tail)))
    rw [decide_eq_false hz]
    rintro e wn ⟨rfl, hb⟩
    clear HR
    have HR := Hid.intro hb
    clear hb
    have c0_0 := (HR.out.base.cell (p := ⟨w.heap.size, 0, none⟩) lt0).trans K0_0.out
    have c0_1 := (HR.out.base.cell (p := ⟨w.heap.size, 1, none⟩) lt0).trans K0_1.out
    have c0_2 := (HR.out.base.cell (p := ⟨w.heap.size, 2, none⟩) lt0).trans K0_2.out
    have c0_3 := (HR.out.base.cell (p := ⟨w.heap.size, 3, none⟩) lt0).trans K0_3.out
    have c0_4 := (HR.out.base.cell (p := ⟨w.heap.size, 4, none⟩) lt0).trans K0_4.out
    have c0_5 := (HR.out.base.cell (p := ⟨w.heap.size, 5, none⟩) lt0).trans K0_5.out
    have c0_6 := (HR.out.base.cell (p := ⟨w.heap.size, 6, none⟩) lt0).trans K0_6.out
    have c0_7 := (HR.out.base.cell (p := ⟨w.heap.size, 7, none⟩) lt0).trans K0_7.out
    have c0_8 := (HR.out.base.cell (p := ⟨w.heap.size, 8, none⟩) lt0).trans K0_8.out
    go_wp2
    go_ret
    exact ⟨by rw [kindOf, if_neg hz]; rfl, HBA.out.trans (HR.out.base.mono HBA.out.size)⟩


set_option maxRecDepth 100000 in
set_option maxHeartbeats 4000000 in
theorem tot_nearest_none {w : World} {t1 t2 t3 t4 t5 t6 t7 t8 t9 : Value} {sdum : ByteArray} {j1 j2 j3 : Nat} {x y t : Rat} (h : FBag w w [⟨t1, t2, t3, x, j1⟩, ⟨t4, t5, t6, y, j2⟩, ⟨t7, t8, t9, t, j3⟩]) (hz : x = 0 ∧ y = 0) :
    Calls Tryz.prog 70 #[.agg #[t1, t2, t3, t4, t5, t6, t7, t8, t9]] w (VNew w 0 1 0 1) := by
  obtain ⟨wA, hwA⟩ : ∃ wA, ((w.alloc (.cells #[t1, t2, t3, t4, t5, t6, t7, t8, t9] 132)).alloc (.cells #[.bool false, .slice none 0 0, .slice none 0 0, .bool false, .slice none 0 0, .slice none 0 0] 130)) = wA := ⟨_, rfl⟩
  have hbA : Below w.heap.size w wA := by rw [← hwA]; exact (((Below.refl _ _).alloc (by first | exact Nat.le_refl _ | (simp only [World.size_alloc]; omega)) _).alloc (by first | exact Nat.le_refl _ | (simp only [World.size_alloc]; omega)) _)
  have hs0 : SB wA (w.heap.size) 132 #[t1, t2, t3, t4, t5, t6, t7, t8, t9] := by rw [← hwA]; exact ((SB.new w _ _).alloc _)
  have HS0 := Hid.intro hs0
  have lt0 := hs0.lt
  have K0_0 : Hid (wA.cell? ⟨w.heap.size, 0, none⟩ = some (t1)) := Hid.intro (hs0.cell 0)
  have K0_1 : Hid (wA.cell? ⟨w.heap.size, 1, none⟩ = some (t2)) := Hid.intro (hs0.cell 1)
  have K0_2 : Hid (wA.cell? ⟨w.heap.size, 2, none⟩ = some (t3)) := Hid.intro (hs0.cell 2)
  have K0_3 : Hid (wA.cell? ⟨w.heap.size, 3, none⟩ = some (t4)) := Hid.intro (hs0.cell 3)
  have K0_4 : Hid (wA.cell? ⟨w.heap.size, 4, none⟩ = some (t5)) := Hid.intro (hs0.cell 4)
  have K0_5 : Hid (wA.cell? ⟨w.heap.size, 5, none⟩ = some (t6)) := Hid.intro (hs0.cell 5)
  have K0_6 : Hid (wA.cell? ⟨w.heap.size, 6, none⟩ = some (t7)) := Hid.intro (hs0.cell 6)
  have K0_7 : Hid (wA.cell? ⟨w.heap.size, 7, none⟩ = some (t8)) := Hid.intro (hs0.cell 7)
  have K0_8 : Hid (wA.cell? ⟨w.heap.size, 8, none⟩ = some (t9)) := Hid.intro (hs0.cell 8)
  have hs1 : SB wA (w.heap.size + 1) 130 #[.bool false, .slice none 0 0, .slice none 0 0, .bool false, .slice none 0 0, .slice none 0 0] := by rw [← hwA]; exact (SB.new2 w _ _ _ _)
  have HS1 := Hid.intro hs1
  have lt1 := hs1.lt
  have K1_0 : Hid (wA.cell? ⟨w.heap.size + 1, 0, none⟩ = some (.bool false)) := Hid.intro (hs1.cell 0)
  have K1_1 : Hid (wA.cell? ⟨w.heap.size + 1, 1, none⟩ = some (.slice none 0 0)) := Hid.intro (hs1.cell 1)
  have K1_2 : Hid (wA.cell? ⟨w.heap.size + 1, 2, none⟩ = some (.slice none 0 0)) := Hid.intro (hs1.cell 2)
  have K1_3 : Hid (wA.cell? ⟨w.heap.size + 1, 3, none⟩ = some (.bool false)) := Hid.intro (hs1.cell 3)
  have K1_4 : Hid (wA.cell? ⟨w.heap.size + 1, 4, none⟩ = some (.slice none 0 0)) := Hid.intro (hs1.cell 4)
  have K1_5 : Hid (wA.cell? ⟨w.heap.size + 1, 5, none⟩ = some (.slice none 0 0)) := Hid.intro (hs1.cell 5)
  have ne01 : w.heap.size ≠ w.heap.size + 1 := by omega
  have ne10 : w.heap.size + 1 ≠ w.heap.size := by omega
  have HR := Hid.intro (h.below hbA).rebase
  have HGL := Hid.intro h.glob
  have HBA := Hid.intro hbA
  have HWA := Hid.intro hwA
  clear h hbA hwA hs0 hs1
  go_enter Tryz.func70, Tryz.ntmps70
  have c0_0 := (HR.out.base.cell (p := ⟨w.heap.size, 0, none⟩) lt0).trans K0_0.out
  have c0_1 := (HR.out.base.cell (p := ⟨w.heap.size, 1, none⟩) lt0).trans K0_1.out
  have c0_2 := (HR.out.base.cell (p := ⟨w.heap.size, 2, none⟩) lt0).trans K0_2.out
  have c0_3 := (HR.out.base.cell (p := ⟨w.heap.size, 3, none⟩) lt0).trans K0_3.out
  have c0_4 := (HR.out.base.cell (p := ⟨w.heap.size, 4, none⟩) lt0).trans K0_4.out
  have c0_5 := (HR.out.base.cell (p := ⟨w.heap.size, 5, none⟩) lt0).trans K0_5.out
  have c0_6 := (HR.out.base.cell (p := ⟨w.heap.size, 6, none⟩) lt0).trans K0_6.out
  have c0_7 := (HR.out.base.cell (p := ⟨w.heap.size, 7, none⟩) lt0).trans K0_7.out
  have c0_8 := (HR.out.base.cell (p := ⟨w.heap.size, 8, none⟩) lt0).trans K0_8.out
  have c1_0 := (HR.out.base.cell (p := ⟨w.heap.size + 1, 0, none⟩) lt1).trans K1_0.out
  have c1_1 := (HR.out.base.cell (p := ⟨w.heap.size + 1, 1, none⟩) lt1).trans K1_1.out
  have c1_2 := (HR.out.base.cell (p := ⟨w.heap.size + 1, 2, none⟩) lt1).trans K1_2.out
  have c1_3 := (HR.out.base.cell (p := ⟨w.heap.size + 1, 3, none⟩) lt1).trans K1_3.out
  have c1_4 := (HR.out.base.cell (p := ⟨w.heap.size + 1, 4, none⟩) lt1).trans K1_4.out
  have c1_5 := (HR.out.base.cell (p := ⟨w.heap.size + 1, 5, none⟩) lt1).trans K1_5.out
  have hsr := HS1.out.below HR.out.base HS1.out.lt
  have fr0 := hsr.free 0
  have fr1 := hsr.free 1
  have fr2 := hsr.free 2
  have fr3 := hsr.free 3
  have fr4 := hsr.free 4
  have fr5 := hsr.free 5
  clear hsr
  go_wp2_with fail
  rw [show ((w.alloc (.cells #[t1, t2, t3, t4, t5, t6, t7, t8, t9] 132)).alloc (.cells #[.bool false, .slice none 0 0, .slice none 0 0, .bool false, .slice none 0 0, .slice none 0 0] 130)) = wA from HWA.out]
  · skip
    apply Calls.mono
    apply FBag.viszero (w0 := wA) HR.out
    (focus (repeat (first | exact List.Mem.head _ | apply List.Mem.tail)))
    (focus (repeat (first | exact List.Mem.head _ | apply List.Mem.tail)))
    rw [decide_eq_true hz]
    rintro e wn ⟨rfl, hb⟩
    clear HR
    have HR := Hid.intro hb
    clear hb
    have c0_0 := (HR.out.base.cell (p := ⟨w.heap.size, 0, none⟩) lt0).trans K0_0.out
    have c0_1 := (HR.out.base.cell (p := ⟨w.heap.size, 1, none⟩) lt0).trans K0_1.out
    have c0_2 := (HR.out.base.cell (p := ⟨w.heap.size, 2, none⟩) lt0).trans K0_2.out
    have c0_3 := (HR.out.base.cell (p := ⟨w.heap.size, 3, none⟩) lt0).trans K0_3.out
    have c0_4 := (HR.out.base.cell (p := ⟨w.heap.size, 4, none⟩) lt0).trans K0_4.out
    have c0_5 := (HR.out.base.cell (p := ⟨w.heap.size, 5, none⟩) lt0).trans K0_5.out
    have c0_6 := (HR.out.base.cell (p := ⟨w.heap.size, 6, none⟩) lt0).trans K0_6.out
    have c0_7 := (HR.out.base.cell (p := ⟨w.heap.size, 7, none⟩) lt0).trans K0_7.out
    have c0_8 := (HR.out.base.cell (p := ⟨w.heap.size, 8, none⟩) lt0).trans K0_8.out
    have c1_0 := (HR.out.base.cell (p := ⟨w.heap.size + 1, 0, none⟩) lt1).trans K1_0.out
    have c1_1 := (HR.out.base.cell (p := ⟨w.heap.size + 1, 1, none⟩) lt1).trans K1_1.out
    have c1_2 := (HR.out.base.cell (p := ⟨w.heap.size + 1, 2, none⟩) lt1).trans K1_2.out
    have c1_3 := (HR.out.base.cell (p := ⟨w.heap.size + 1, 3, none⟩) lt1).trans K1_3.out
    have c1_4 := (HR.out.base.cell (p := ⟨w.heap.size + 1, 4, none⟩) lt1).trans K1_4.out
    have c1_5 := (HR.out.base.cell (p := ⟨w.heap.size + 1, 5, none⟩) lt1).trans K1_5.out
    have hsr := HS1.out.below HR.out.base HS1.out.lt
    have fr0 := hsr.free 0
    have fr1 := hsr.free 1
    have fr2 := hsr.free 2
    have fr3 := hsr.free 3
    have fr4 := hsr.free 4
    have fr5 := hsr.free 5
    clear hsr
    have k0 := (HS1.out.below HR.out.base HS1.out.lt)
    go_wp2
    have hs9 := HS1.out.below HR.out.base HS1.out.lt
    refine bodyPost_ret (v := .agg #[.bool false, .slice none 0 0, .slice none 0 0, .bool false, .slice none 0 0, .slice none 0 0]) (results_cell_row rfl _ _ (w.heap.size + 1) 130 #[.bool false, .slice none 0 0, .slice none 0 0, .bool false, .slice none 0 0, .slice none 0 0] (0, 0) _ rfl ((((((hs9.set 0 _).set 1 _).set 2 _).set 3 _).set 4 _).set 5 _) Tryz.underlying130 rfl Tryz.vecInfo) rfl ?_
    have ho := ((((((Only.refl (w.heap.size + 1) wn).setCell 0 (.bool false)).setCell 1 (.slice none 0 0)).setCell 2 (.slice none 0 0)).setCell 3 (.bool false)).setCell 4 (.slice none 0 0)).setCell 5 (.slice none 0 0)
    exact ⟨_, _, _, _, _, _, rfl, (((HR.out.from (M := []) HBA.out HGL.out (fun t ht => by cases ht)).only ho hs9 zeroVec_no (by omega)).zero).zero⟩


set_option maxRecDepth 100000 in
set_option maxHeartbeats 4000000 in
theorem tot_nearest_some {w : World} {t1 t2 t3 t4 t5 t6 t7 t8 t9 : Value} {sdum : ByteArray} {j1 j2 j3 : Nat} {x y t : Rat} (h : FBag w w [⟨t1, t2, t3, x, j1⟩, ⟨t4, t5, t6, y, j2⟩, ⟨t7, t8, t9, t, j3⟩]) (hz : ¬ (x = 0 ∧ y = 0)) (h1 : j1 + j1 + (j2 + j2) + 1 + j1 + j2 + j3 < 68719476000) :
    Calls Tryz.prog 70 #[.agg #[t1, t2, t3, t4, t5, t6, t7, t8, t9]] w (VNew w (y * (t / (x * x + y * y))) (j2 + (j3 + (j1 + j1 + (j2 + j2) + 1))) (-x * (t / (x * x + y * y))) (j1 + (j3 + (j1 + j1 + (j2 + j2) + 1)))) := by
  obtain ⟨wA, hwA⟩ : ∃ wA, ((w.alloc (.cells #[t1, t2, t3, t4, t5, t6, t7, t8, t9] 132)).alloc (.cells #[.bool false, .slice none 0 0, .slice none 0 0, .bool false, .slice none 0 0, .slice none 0 0] 130)) = wA := ⟨_, rfl⟩
  have hbA : Below w.heap.size w wA := by rw [← hwA]; exact (((Below.refl _ _).alloc (by first | exact Nat.le_refl _ | (simp only [World.size_alloc]; omega)) _).alloc (by first | exact Nat.le_refl _ | (simp only [World.size_alloc]; omega)) _)
  have hs0 : SB wA (w.heap.size) 132 #[t1, t2, t3, t4, t5, t6, t7, t8, t9] := by rw [← hwA]; exact ((SB.new w _ _).alloc _)
  have HS0 := Hid.intro hs0
  have lt0 := hs0.lt
  have K0_0 : Hid (wA.cell? ⟨w.heap.size, 0, none⟩ = some (t1)) := Hid.intro (hs0.cell 0)
  have K0_1 : Hid (wA.cell? ⟨w.heap.size, 1, none⟩ = some (t2)) := Hid.intro (hs0.cell 1)
  have K0_2 : Hid (wA.cell? ⟨w.heap.size, 2, none⟩ = some (t3)) := Hid.intro (hs0.cell 2)
  have K0_3 : Hid (wA.cell? ⟨w.heap.size, 3, none⟩ = some (t4)) := Hid.intro (hs0.cell 3)
  have K0_4 : Hid (wA.cell? ⟨w.heap.size, 4, none⟩ = some (t5)) := Hid.intro (hs0.cell 4)
  have K0_5 : Hid (wA.cell? ⟨w.heap.size, 5, none⟩ = some (t6)) := Hid.intro (hs0.cell 5)
  have K0_6 : Hid (wA.cell? ⟨w.heap.size, 6, none⟩ = some (t7)) := Hid.intro (hs0.cell 6)
  have K0_7 : Hid (wA.cell? ⟨w.heap.size, 7, none⟩ = some (t8)) := Hid.intro (hs0.cell 7)
  have K0_8 : Hid (wA.cell? ⟨w.heap.size, 8, none⟩ = some (t9)) := Hid.intro (hs0.cell 8)
  have hs1 : SB wA (w.heap.size + 1) 130 #[.bool false, .slice none 0 0, .slice none 0 0, .bool false, .slice none 0 0, .slice none 0 0] := by rw [← hwA]; exact (SB.new2 w _ _ _ _)
  have HS1 := Hid.intro hs1
  have lt1 := hs1.lt
  have K1_0 : Hid (wA.cell? ⟨w.heap.size + 1, 0, none⟩ = some (.bool false)) := Hid.intro (hs1.cell 0)
  have K1_1 : Hid (wA.cell? ⟨w.heap.size + 1, 1, none⟩ = some (.slice none 0 0)) := Hid.intro (hs1.cell 1)
  have K1_2 : Hid (wA.cell? ⟨w.heap.size + 1, 2, none⟩ = some (.slice none 0 0)) := Hid.intro (hs1.cell 2)
  have K1_3 : Hid (wA.cell? ⟨w.heap.size + 1, 3, none⟩ = some (.bool false)) := Hid.intro (hs1.cell 3)
  have K1_4 : Hid (wA.cell? ⟨w.heap.size + 1, 4, none⟩ = some (.slice none 0 0)) := Hid.intro (hs1.cell 4)
  have K1_5 : Hid (wA.cell? ⟨w.heap.size + 1, 5, none⟩ = some (.slice none 0 0)) := Hid.intro (hs1.cell 5)
  have ne01 : w.heap.size ≠ w.heap.size + 1 := by omega
  have ne10 : w.heap.size + 1 ≠ w.heap.size := by omega
  have HR := Hid.intro (h.below hbA).rebase
  have HGL := Hid.intro h.glob
  have HBA := Hid.intro hbA
  have HWA := Hid.intro hwA
  clear h hbA hwA hs0 hs1
  go_enter Tryz.func70, Tryz.ntmps70
  have c0_0 := (HR.out.base.cell (p := ⟨w.heap.size, 0, none⟩) lt0).trans K0_0.out
  have c0_1 := (HR.out.base.cell (p := ⟨w.heap.size, 1, none⟩) lt0).trans K0_1.out
  have c0_2 := (HR.out.base.cell (p := ⟨w.heap.size, 2, none⟩) lt0).trans K0_2.out
  have c0_3 := (HR.out.base.cell (p := ⟨w.heap.size, 3, none⟩) lt0).trans K0_3.out
  have c0_4 := (HR.out.base.cell (p := ⟨w.heap.size, 4, none⟩) lt0).trans K0_4.out
  have c0_5 := (HR.out.base.cell (p := ⟨w.heap.size, 5, none⟩) lt0).trans K0_5.out
  have c0_6 := (HR.out.base.cell (p := ⟨w.heap.size, 6, none⟩) lt0).trans K0_6.out
  have c0_7 := (HR.out.base.cell (p := ⟨w.heap.size, 7, none⟩) lt0).trans K0_7.out
  have c0_8 := (HR.out.base.cell (p := ⟨w.heap.size, 8, none⟩) lt0).trans K0_8.out
  have c1_0 := (HR.out.base.cell (p := ⟨w.heap.size + 1, 0, none⟩) lt1).trans K1_0.out
  have c1_1 := (HR.out.base.cell (p := ⟨w.heap.size + 1, 1, none⟩) lt1).trans K1_1.out
  have c1_2 := (HR.out.base.cell (p := ⟨w.heap.size + 1, 2, none⟩) lt1).trans K1_2.out
  have c1_3 := (HR.out.base.cell (p := ⟨w.heap.size + 1, 3, none⟩) lt1).trans K1_3.out
  have c1_4 := (HR.out.base.cell (p := ⟨w.heap.size + 1, 4, none⟩) lt1).trans K1_4.out
  have c1_5 := (HR.out.base.cell (p := ⟨w.heap.size + 1, 5, none⟩) lt1).trans K1_5.out
  have hsr := HS1.out.below HR.out.base HS1.out.lt
  have fr0 := hsr.free 0
  have fr1 := hsr.free 1
  have fr2 := hsr.free 2
  have fr3 := hsr.free 3
  have fr4 := hsr.free 4
  have fr5 := hsr.free 5
  clear hsr
  go_wp2_with fail
  rw [show ((w.alloc (.cells #[t1, t2, t3, t4, t5, t6, t7, t8, t9] 132)).alloc (.cells #[.bool false, .slice none 0 0, .slice none 0 0, .bool false, .slice none 0 0, .slice none 0 0] 130)) = wA from HWA.out]
  apply Calls.mono
  apply FBag.viszero (w0 := wA) HR.out
  (focus (repeat (first | exact List.Mem.head _ | apply List.Mem.tail)))
  (focus (repeat (first | exact List.Mem.head _ | apply List.Mem.tail)))
  rw [decide_eq_false hz]
  rintro e wn ⟨rfl, hb⟩
  clear HR
  have HR := Hid.intro hb
  clear hb
  have c0_0 := (HR.out.base.cell (p := ⟨w.heap.size, 0, none⟩) lt0).trans K0_0.out
  have c0_1 := (HR.out.base.cell (p := ⟨w.heap.size, 1, none⟩) lt0).trans K0_1.out
  have c0_2 := (HR.out.base.cell (p := ⟨w.heap.size, 2, none⟩) lt0).trans K0_2.out
  have c0_3 := (HR.out.base.cell (p := ⟨w.heap.size, 3, none⟩) lt0).trans K0_3.out
  have c0_4 := (HR.out.base.cell (p := ⟨w.heap.size, 4, none⟩) lt0).trans K0_4.out
  have c0_5 := (HR.out.base.cell (p := ⟨w.heap.size, 5, none⟩) lt0).trans K0_5.out
  have c0_6 := (HR.out.base.cell (p := ⟨w.heap.size, 6, none⟩) lt0).trans K0_6.out
  have c0_7 := (HR.out.base.cell (p := ⟨w.heap.size, 7, none⟩) lt0).trans K0_7.out
  have c0_8 := (HR.out.base.cell (p := ⟨w.heap.size, 8, none⟩) lt0).trans K0_8.out
  have c1_0 := (HR.out.base.cell (p := ⟨w.heap.size + 1, 0, none⟩) lt1).trans K1_0.out
  have c1_1 := (HR.out.base.cell (p := ⟨w.heap.size + 1, 1, none⟩) lt1).trans K1_1.out
  have c1_2 := (HR.out.base.cell (p := ⟨w.heap.size + 1, 2, none⟩) lt1).trans K1_2.out
  have c1_3 := (HR.out.base.cell (p := ⟨w.heap.size + 1, 3, none⟩) lt1).trans K1_3.out
  have c1_4 := (HR.out.base.cell (p := ⟨w.heap.size + 1, 4, none⟩) lt1).trans K1_4.out
  have c1_5 := (HR.out.base.cell (p := ⟨w.heap.size + 1, 5, none⟩) lt1).trans K1_5.out
  have hsr := HS1.out.below HR.out.base HS1.out.lt
  have fr0 := hsr.free 0
  have fr1 := hsr.free 1
  have fr2 := hsr.free 2
  have fr3 := hsr.free 3
  have fr4 := hsr.free 4
  have fr5 := hsr.free 5
  clear hsr
  go_wp2_with fail
  go_region_held3
    (fun w' => w'.cell? ⟨w.heap.size, 0, none⟩ = some (t1) ∧ w'.cell? ⟨w.heap.size, 1, none⟩ = some (t2) ∧ w'.cell? ⟨w.heap.size, 2, none⟩ = some (t3) ∧ w'.cell? ⟨w.heap.size, 3, none⟩ = some (t4) ∧ w'.cell? ⟨w.heap.size, 4, none⟩ = some (t5) ∧ w'.cell? ⟨w.heap.size, 5, none⟩ = some (t6) ∧ w'.cell? ⟨w.heap.size, 6, none⟩ = some (t7) ∧ w'.cell? ⟨w.heap.size, 7, none⟩ = some (t8) ∧ w'.cell? ⟨w.heap.size, 8, none⟩ = some (t9)) ((first | (simp [*]; done) | go_keep))
    (first
    | (go_at_call_of 153 t1
       apply Calls.mono
       apply FBag.vturned (w0 := wA)
       (focus (first | exact HR.out | exact HR.out.drew | exact HR.out.drew.drew))
       (focus (repeat (first | exact List.Mem.head _ | apply List.Mem.tail)))
       (focus (repeat (first | exact List.Mem.head _ | apply List.Mem.tail)))
       rintro e wn ⟨u1, u2, u3, u4, u5, u6, rfl, hb⟩
       clear HR
       have HR := Hid.intro hb
       clear hb
       skip
       have c0_0 := (HR.out.base.cell (p := ⟨w.heap.size, 0, none⟩) lt0).trans K0_0.out
       have c0_1 := (HR.out.base.cell (p := ⟨w.heap.size, 1, none⟩) lt0).trans K0_1.out
       have c0_2 := (HR.out.base.cell (p := ⟨w.heap.size, 2, none⟩) lt0).trans K0_2.out
       have c0_3 := (HR.out.base.cell (p := ⟨w.heap.size, 3, none⟩) lt0).trans K0_3.out
       have c0_4 := (HR.out.base.cell (p := ⟨w.heap.size, 4, none⟩) lt0).trans K0_4.out
       have c0_5 := (HR.out.base.cell (p := ⟨w.heap.size, 5, none⟩) lt0).trans K0_5.out
       have c0_6 := (HR.out.base.cell (p := ⟨w.heap.size, 6, none⟩) lt0).trans K0_6.out
       have c0_7 := (HR.out.base.cell (p := ⟨w.heap.size, 7, none⟩) lt0).trans K0_7.out
       have c0_8 := (HR.out.base.cell (p := ⟨w.heap.size, 8, none⟩) lt0).trans K0_8.out
       have c1_0 := (HR.out.base.cell (p := ⟨w.heap.size + 1, 0, none⟩) lt1).trans K1_0.out
       have c1_1 := (HR.out.base.cell (p := ⟨w.heap.size + 1, 1, none⟩) lt1).trans K1_1.out
       have c1_2 := (HR.out.base.cell (p := ⟨w.heap.size + 1, 2, none⟩) lt1).trans K1_2.out
       have c1_3 := (HR.out.base.cell (p := ⟨w.heap.size + 1, 3, none⟩) lt1).trans K1_3.out
       have c1_4 := (HR.out.base.cell (p := ⟨w.heap.size + 1, 4, none⟩) lt1).trans K1_4.out
       have c1_5 := (HR.out.base.cell (p := ⟨w.heap.size + 1, 5, none⟩) lt1).trans K1_5.out
       have hsr := HS1.out.below HR.out.base HS1.out.lt
       have fr0 := hsr.free 0
       have fr1 := hsr.free 1
       have fr2 := hsr.free 2
       have fr3 := hsr.free 3
       have fr4 := hsr.free 4
       have fr5 := hsr.free 5
       clear hsr
       skip)
    | (go_at_call_of 156 t1
       apply Calls.mono
       apply FBag.vsquare (w0 := wA)
       (focus (first | exact HR.out | exact HR.out.drew | exact HR.out.drew.drew))
       (focus (repeat (first | exact List.Mem.head _ | apply List.Mem.tail)))
       (focus (repeat (first | exact List.Mem.head _ | apply List.Mem.tail)))
       omega
       rintro e wn ⟨s1, s2, s3, rfl, hb⟩
       clear HR
       have HR := Hid.intro hb
       clear hb
       skip
       have c0_0 := (HR.out.base.cell (p := ⟨w.heap.size, 0, none⟩) lt0).trans K0_0.out
       have c0_1 := (HR.out.base.cell (p := ⟨w.heap.size, 1, none⟩) lt0).trans K0_1.out
       have c0_2 := (HR.out.base.cell (p := ⟨w.heap.size, 2, none⟩) lt0).trans K0_2.out
       have c0_3 := (HR.out.base.cell (p := ⟨w.heap.size, 3, none⟩) lt0).trans K0_3.out
       have c0_4 := (HR.out.base.cell (p := ⟨w.heap.size, 4, none⟩) lt0).trans K0_4.out
       have c0_5 := (HR.out.base.cell (p := ⟨w.heap.size, 5, none⟩) lt0).trans K0_5.out
       have c0_6 := (HR.out.base.cell (p := ⟨w.heap.size, 6, none⟩) lt0).trans K0_6.out
       have c0_7 := (HR.out.base.cell (p := ⟨w.heap.size, 7, none⟩) lt0).trans K0_7.out
       have c0_8 := (HR.out.base.cell (p := ⟨w.heap.size, 8, none⟩) lt0).trans K0_8.out
       have c1_0 := (HR.out.base.cell (p := ⟨w.heap.size + 1, 0, none⟩) lt1).trans K1_0.out
       have c1_1 := (HR.out.base.cell (p := ⟨w.heap.size + 1, 1, none⟩) lt1).trans K1_1.out
       have c1_2 := (HR.out.base.cell (p := ⟨w.heap.size + 1, 2, none⟩) lt1).trans K1_2.out
       have c1_3 := (HR.out.base.cell (p := ⟨w.heap.size + 1, 3, none⟩) lt1).trans K1_3.out
       have c1_4 := (HR.out.base.cell (p := ⟨w.heap.size + 1, 4, none⟩) lt1).trans K1_4.out
       have c1_5 := (HR.out.base.cell (p := ⟨w.heap.size + 1, 5, none⟩) lt1).trans K1_5.out
       have hsr := HS1.out.below HR.out.base HS1.out.lt
       have fr0 := hsr.free 0
       have fr1 := hsr.free 1
       have fr2 := hsr.free 2
       have fr3 := hsr.free 3
       have fr4 := hsr.free 4
       have fr5 := hsr.free 5
       clear hsr
       skip)
    | (go_at_call_of 155 t7
       apply Calls.mono
       apply FBag.over (w0 := wA)
       (focus (first | exact HR.out | exact HR.out.drew | exact HR.out.drew.drew))
       (focus (repeat (first | exact List.Mem.head _ | apply List.Mem.tail)))
       (focus (repeat (first | exact List.Mem.head _ | apply List.Mem.tail)))
       omega
       rintro e wn ⟨v1, v2, v3, rfl, hb⟩
       clear HR
       have HR := Hid.intro hb
       clear hb
       skip
       have c0_0 := (HR.out.base.cell (p := ⟨w.heap.size, 0, none⟩) lt0).trans K0_0.out
       have c0_1 := (HR.out.base.cell (p := ⟨w.heap.size, 1, none⟩) lt0).trans K0_1.out
       have c0_2 := (HR.out.base.cell (p := ⟨w.heap.size, 2, none⟩) lt0).trans K0_2.out
       have c0_3 := (HR.out.base.cell (p := ⟨w.heap.size, 3, none⟩) lt0).trans K0_3.out
       have c0_4 := (HR.out.base.cell (p := ⟨w.heap.size, 4, none⟩) lt0).trans K0_4.out
       have c0_5 := (HR.out.base.cell (p := ⟨w.heap.size, 5, none⟩) lt0).trans K0_5.out
       have c0_6 := (HR.out.base.cell (p := ⟨w.heap.size, 6, none⟩) lt0).trans K0_6.out
       have c0_7 := (HR.out.base.cell (p := ⟨w.heap.size, 7, none⟩) lt0).trans K0_7.out
       have c0_8 := (HR.out.base.cell (p := ⟨w.heap.size, 8, none⟩) lt0).trans K0_8.out
       have c1_0 := (HR.out.base.cell (p := ⟨w.heap.size + 1, 0, none⟩) lt1).trans K1_0.out
       have c1_1 := (HR.out.base.cell (p := ⟨w.heap.size + 1, 1, none⟩) lt1).trans K1_1.out
       have c1_2 := (HR.out.base.cell (p := ⟨w.heap.size + 1, 2, none⟩) lt1).trans K1_2.out
       have c1_3 := (HR.out.base.cell (p := ⟨w.heap.size + 1, 3, none⟩) lt1).trans K1_3.out
       have c1_4 := (HR.out.base.cell (p := ⟨w.heap.size + 1, 4, none⟩) lt1).trans K1_4.out
       have c1_5 := (HR.out.base.cell (p := ⟨w.heap.size + 1, 5, none⟩) lt1).trans K1_5.out
       have hsr := HS1.out.below HR.out.base HS1.out.lt
       have fr0 := hsr.free 0
       have fr1 := hsr.free 1
       have fr2 := hsr.free 2
       have fr3 := hsr.free 3
       have fr4 := hsr.free 4
       have fr5 := hsr.free 5
       clear hsr
       skip)
    | (go_at_call_of 154 u1
       apply Calls.mono
       apply FBag.vtimes (w0 := wA)
       (focus (first | exact HR.out | exact HR.out.drew | exact HR.out.drew.drew))
       (focus (repeat (first | exact List.Mem.head _ | apply List.Mem.tail)))
       (focus (repeat (first | exact List.Mem.head _ | apply List.Mem.tail)))
       (focus (repeat (first | exact List.Mem.head _ | apply List.Mem.tail)))
       omega
       omega
       rintro e wn ⟨z1, z2, z3, z4, z5, z6, rfl, hb⟩
       clear HR
       have HR := Hid.intro hb
       clear hb
       have o9 := (HR.out.ts _ (List.Mem.head _)).1.one
       have stz1 := store_one Tryz.prog o9.1
       have stz2 := store_one Tryz.prog o9.2.1
       have stz3 := store_one Tryz.prog o9.2.2
       clear o9
       have o9 := (HR.out.ts _ (List.Mem.tail _ (List.Mem.head _))).1.one
       have stz4 := store_one Tryz.prog o9.1
       have stz5 := store_one Tryz.prog o9.2.1
       have stz6 := store_one Tryz.prog o9.2.2
       clear o9
       have c0_0 := (HR.out.base.cell (p := ⟨w.heap.size, 0, none⟩) lt0).trans K0_0.out
       have c0_1 := (HR.out.base.cell (p := ⟨w.heap.size, 1, none⟩) lt0).trans K0_1.out
       have c0_2 := (HR.out.base.cell (p := ⟨w.heap.size, 2, none⟩) lt0).trans K0_2.out
       have c0_3 := (HR.out.base.cell (p := ⟨w.heap.size, 3, none⟩) lt0).trans K0_3.out
       have c0_4 := (HR.out.base.cell (p := ⟨w.heap.size, 4, none⟩) lt0).trans K0_4.out
       have c0_5 := (HR.out.base.cell (p := ⟨w.heap.size, 5, none⟩) lt0).trans K0_5.out
       have c0_6 := (HR.out.base.cell (p := ⟨w.heap.size, 6, none⟩) lt0).trans K0_6.out
       have c0_7 := (HR.out.base.cell (p := ⟨w.heap.size, 7, none⟩) lt0).trans K0_7.out
       have c0_8 := (HR.out.base.cell (p := ⟨w.heap.size, 8, none⟩) lt0).trans K0_8.out
       have c1_0 := (HR.out.base.cell (p := ⟨w.heap.size + 1, 0, none⟩) lt1).trans K1_0.out
       have c1_1 := (HR.out.base.cell (p := ⟨w.heap.size + 1, 1, none⟩) lt1).trans K1_1.out
       have c1_2 := (HR.out.base.cell (p := ⟨w.heap.size + 1, 2, none⟩) lt1).trans K1_2.out
       have c1_3 := (HR.out.base.cell (p := ⟨w.heap.size + 1, 3, none⟩) lt1).trans K1_3.out
       have c1_4 := (HR.out.base.cell (p := ⟨w.heap.size + 1, 4, none⟩) lt1).trans K1_4.out
       have c1_5 := (HR.out.base.cell (p := ⟨w.heap.size + 1, 5, none⟩) lt1).trans K1_5.out
       have hsr := HS1.out.below HR.out.base HS1.out.lt
       have fr0 := hsr.free 0
       have fr1 := hsr.free 1
       have fr2 := hsr.free 2
       have fr3 := hsr.free 3
       have fr4 := hsr.free 4
       have fr5 := hsr.free 5
       clear hsr
       skip)
    )
  all_goals
    go_wp2
    have hs9 := HS1.out.below HR.out.base HS1.out.lt
    refine bodyPost_ret (v := .agg #[z1, z2, z3, z4, z5, z6]) (results_cell_row rfl _ _ (w.heap.size + 1) 130 #[z1, z2, z3, z4, z5, z6] (0, 0) _ rfl ((((((hs9.set 0 _).set 1 _).set 2 _).set 3 _).set 4 _).set 5 _) Tryz.underlying130 rfl Tryz.vecInfo) rfl ?_
    have ho := (((((((Only.refl (w.heap.size + 1) wn).setCell 0 (z1)).setCell 1 (z2)).setCell 2 (z3)).setCell 3 (z4)).setCell 4 (z5)).setCell 5 (z6))
    refine ⟨_, _, _, _, _, _, rfl, ((HR.out.from HBA.out HGL.out ?_).only ho hs9 zeroVec_no (by omega))⟩
    intro t ht
    simp only [List.mem_cons, List.not_mem_nil, or_false] at ht
    rcases ht with rfl | rfl
    · exact ⟨_, (by repeat (first | exact List.Mem.head _ | apply List.Mem.tail)), Nat.le_refl _⟩
    · exact ⟨_, (by repeat (first | exact List.Mem.head _ | apply List.Mem.tail)), Nat.le_refl _⟩


end Go.Proofs.YtgnmjaponiclhaaGreatDoor
namespace Go.Proofs.YtgnmjaponiclhaaGreatDoor
open Go
set_option linter.unusedVariables false

section
variable {P : Program} {ops : Array Oper} {Q : Exit → Act → World → Prop} {md : Region.Mode} {S : World → Prop} {k : Nat}

/-- whatever order comes, S holds behind every operation but number k -/
def AnyBut (P : Program) (md : Region.Mode) (ops : Array Oper) (Q : Exit → Act → World → Prop) (S : World → Prop) (k : Nat) : Nat → Array Bool → Act → World → Prop
  | 0, listed, a, w => Region.ready md ops listed = [] ∧ Q .normal a w
  | fuel + 1, listed, a, w => (Region.ready md ops listed = [] → Q .normal a w) ∧ ∀ i ∈ Region.ready md ops listed, wpOp P ops Q i (fun a' w' => (i ≠ k → S w') ∧ AnyBut P md ops Q S k fuel (listed.setIfInBounds i true) a' w') a w

theorem AnyBut.any : ∀ (fuel : Nat) (listed : Array Bool) (a : Act) (w : World), AnyBut P md ops Q S k fuel listed a w → wpAny P md ops Q fuel listed a w
  | 0, _, _, _, h => h
  | fuel + 1, _, _, _, h => ⟨h.1, fun i hi => wpOp_mono (fun a' w' h' => AnyBut.any fuel _ a' w' h'.2) (h.2 i hi)⟩

/-- number k waits for number i -/
def waits (md : Region.Mode) (ops : Array Oper) (k i : Nat) : Bool := match ops[k]? with
  | some o => o.after.any (fun e => Region.binds md e && (e.on == i))
  | none => false

theorem waits_spec {i : Nat} (h : waits md ops k i = true) {o : Oper} (ho : ops[k]? = some o) : ¬ ∀ e ∈ o.after, Region.binds md e = true → e.on ≠ i := by
  unfold waits at h
  rw [ho] at h
  simp only [Array.any_eq_true] at h
  obtain ⟨j, hj, he⟩ := h
  simp only [Bool.and_eq_true, beq_iff_eq] at he
  intro hc
  exact hc _ (Array.getElem_mem hj) he.1 he.2

theorem AnyBut.first {i : Nat} {oi : Oper} {v : Value} (hi : ops[i]? = some oi) (hsel : ∀ (j : Nat) (o : Oper) cs b, ops[j]? = some o → o.op ≠ .select cs b)
    (hQ : ∀ c a w, Q (.panic c) (a.put oi.dst v) w → Q (.panic c) a w) (hk : waits md ops k i = true) :
    ∀ (fuel : Nat) (listed : Array Bool) (a : Act) (w : World),
      (∀ j oj, ops[j]? = some oj → j ≠ i → listed.getD j true = false → (∀ e ∈ oj.after, Region.binds md e = true → e.on ≠ i) → oi.apart ops oj = true) →
      i ∈ Region.ready md ops listed → YieldsIf P ops S oi v a → S w →
      AnyBut P md ops Q S k fuel (listed.setIfInBounds i true) (a.put oi.dst v) w → AnyBut P md ops Q S k (fuel + 1) listed a w := by
  intro fuel
  induction fuel with
  | zero =>
    intro listed a w _ hr hy hS H
    refine ⟨fun h => (by rw [h] at hr; cases hr), fun j hj => ?_⟩
    by_cases hji : j = i
    · subst hji; exact hy.wpOp hi hS ⟨fun _ => hS, H⟩
    · have := ready_mono hj hji
      rw [H.1] at this
      cases this
  | succ fuel ih =>
    intro listed a w hfree hr hy hS H
    refine ⟨fun h => (by rw [h] at hr; cases hr), fun j hj => ?_⟩
    by_cases hji : j = i
    · subst hji; exact hy.wpOp hi hS ⟨fun _ => hS, H⟩
    · have h1 := H.2 j (ready_mono hj hji)
      obtain ⟨hjun, oj, hoj, hall⟩ := mem_ready.1 hj
      have hnot : ∀ e ∈ oj.after, Region.binds md e = true → e.on ≠ i := fun e he hb heq => by
        have h1 := hall e he hb
        have h0 := (mem_ready.1 hr).1
        rw [heq] at h1
        rcases Nat.lt_or_ge i listed.size with h' | h'
        · simp [h'] at h0 h1; rw [h0] at h1; cases h1
        · simp [Array.getElem?_eq_none h'] at h1
      have hjk : j ≠ k := fun e => waits_spec hk (by rw [← e]; exact hoj) hnot
      have h2 := wpOp_putIf hoj (hfree j oj hoj hji hjun hnot) (fun cs b => hsel i oi cs b hi) (fun cs b => hsel j oj cs b hoj) hQ hy h1
      have hfree' : ∀ m om, ops[m]? = some om → m ≠ i → (listed.setIfInBounds j true).getD m true = false →
          (∀ e ∈ om.after, Region.binds md e = true → e.on ≠ i) → oi.apart ops om = true := fun m om hm hmi hun hno => by
        refine hfree m om hm hmi ?_ hno
        by_cases hjm : j = m
        · subst hjm; exact hjun
        · rw [_root_.Go.getD_set_ne true hjm] at hun; exact hun
      refine wpOp_mono (fun a' w' h3 => ⟨h3.2.1, ih (listed.setIfInBounds j true) a' w' hfree' (ready_mono hr (Ne.symm hji)) h3.1 (h3.2.1 hjk) ?_⟩) h2
      rw [Array.setIfInBounds_comm _ _ hji]
      exact h3.2.2

/-- take number i first -/
theorem AnyBut.take {i : Nat} {oi : Oper} {v : Value} {fuel : Nat} {listed : Array Bool} {a : Act} {w : World} (hi : ops[i]? = some oi)
    (hs : Region.noSelect ops = true) (hf : Region.free md ops listed i = true) (hr : (Region.ready md ops listed).contains i = true) (hk : waits md ops k i = true)
    (hQ : ∀ c a w, Q (.panic c) (a.put oi.dst v) w → Q (.panic c) a w) (hy : YieldsIf P ops S oi v a) (hS : S w)
    (h : AnyBut P md ops Q S k fuel (listed.setIfInBounds i true) (a.put oi.dst v) w) : AnyBut P md ops Q S k (fuel + 1) listed a w :=
  AnyBut.first hi (Region.noSelect_spec hs) hQ hk fuel listed a w (Region.free_spec hi hf) (by simpa using hr) hy hS h

/-- one alone may come up -/
theorem AnyBut.one {i : Nat} {o : Oper} {fuel : Nat} {listed : Array Bool} {a : Act} {w : World} (hr : Region.ready md ops listed = [i]) (ho : ops[i]? = some o)
    (h : ∀ K' : Act → World → Prop, Shut (∀ a w, (i ≠ k → S w) → AnyBut P md ops Q S k fuel (listed.setIfInBounds i true) a w → K' a w) → if Region.wanted o (yielded ops a.tmps) = true then Oper.wp P o a w K' Q else K' (a.put o.dst undef) w) : AnyBut P md ops Q S k (fuel + 1) listed a w := by
  refine ⟨(fun h0 => by rw [hr] at h0; cases h0), fun j hj => ?_⟩
  rw [hr] at hj
  obtain rfl := List.mem_singleton.1 hj
  exact wpOp_step ho (fun K' hK => h K' (fun a w hS hW => hK a w ⟨hS, hW⟩))

theorem AnyBut.done {listed : Array Bool} {a : Act} {w : World} (hr : Region.ready md ops listed = []) (h : Q .normal a w) : ∀ fuel, AnyBut P md ops Q S k fuel listed a w
  | 0 => ⟨hr, h⟩
  | _ + 1 => ⟨fun _ => h, by rw [hr]; simp⟩

theorem AnyBut.begin {id : Nat} {a : Act} {w : World} (hm : P.follows .mixedOrders = true)
    (h : AnyBut P .any ops Q S k ops.size (Array.replicate ops.size false) a w.drew) : (Code.region id ops true).wp P Q a w :=
  wp_region_any hm (AnyBut.any _ _ _ _ h)
end
end Go.Proofs.YtgnmjaponiclhaaGreatDoor
