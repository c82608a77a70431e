/- package force: vectorOf, spot, isZero, equal. Written by tools/genforce.py. -/
import Derived.Test.YtgnmjaponiclhaaGreatDoorC34ForceB
namespace Go.Proofs.YtgnmjaponiclhaaGreatDoor
open Go.RowKit
set_option linter.unusedVariables false
set_option linter.unusedSimpArgs false

/-- what vectorOf leaves -/
def VOf (w : World) (s t : ByteArray) (n : Nat) (e : Ending) (w' : World) : Prop := ∃ p q, QOf s.data.toList p ∧ QOf t.data.toList q ∧ VNew w p (4 * n + 1) q (4 * n + 1) e w'

set_option maxRecDepth 100000 in
set_option maxHeartbeats 4000000 in
theorem vec_of {w : World} {xdum : Value} {s1 s2 : ByteArray} {n : Nat} (h : FBag w w []) (hn : n ≤ 1073741824) (hs1 : s1.size ≤ n) (hs2 : s2.size ≤ n) :
    Calls Tryz.prog 66 #[.agg #[.string s1, .string s2]] w (VOf w s1 s2 n) := by
  obtain ⟨wA, hwA⟩ : ∃ wA, ((w.alloc (.cells #[.string s1, .string s2] 25)).alloc (.cells #[.bool false, .slice none 0 0, .slice none 0 0, .bool false, .slice none 0 0, .slice none 0 0] 130)) = wA := ⟨_, rfl⟩
  have hbA : Below w.heap.size w wA := by rw [← hwA]; exact (((Below.refl _ _).alloc (by first | exact Nat.le_refl _ | (simp only [World.size_alloc]; omega)) _).alloc (by first | exact Nat.le_refl _ | (simp only [World.size_alloc]; omega)) _)
  have hs0 : SB wA (w.heap.size) 25 #[.string s1, .string s2] := by rw [← hwA]; exact ((SB.new w _ _).alloc _)
  have HS0 := Hid.intro hs0
  have lt0 := hs0.lt
  have K0_0 : Hid (wA.cell? ⟨w.heap.size, 0, none⟩ = some (.string s1)) := Hid.intro (hs0.cell 0)
  have K0_1 : Hid (wA.cell? ⟨w.heap.size, 1, none⟩ = some (.string s2)) := Hid.intro (hs0.cell 1)
  have hs1 : SB wA (w.heap.size + 1) 130 #[.bool false, .slice none 0 0, .slice none 0 0, .bool false, .slice none 0 0, .slice none 0 0] := by rw [← hwA]; exact (SB.new2 w _ _ _ _)
  have HS1 := Hid.intro hs1
  have lt1 := hs1.lt
  have K1_0 : Hid (wA.cell? ⟨w.heap.size + 1, 0, none⟩ = some (.bool false)) := Hid.intro (hs1.cell 0)
  have K1_1 : Hid (wA.cell? ⟨w.heap.size + 1, 1, none⟩ = some (.slice none 0 0)) := Hid.intro (hs1.cell 1)
  have K1_2 : Hid (wA.cell? ⟨w.heap.size + 1, 2, none⟩ = some (.slice none 0 0)) := Hid.intro (hs1.cell 2)
  have K1_3 : Hid (wA.cell? ⟨w.heap.size + 1, 3, none⟩ = some (.bool false)) := Hid.intro (hs1.cell 3)
  have K1_4 : Hid (wA.cell? ⟨w.heap.size + 1, 4, none⟩ = some (.slice none 0 0)) := Hid.intro (hs1.cell 4)
  have K1_5 : Hid (wA.cell? ⟨w.heap.size + 1, 5, none⟩ = some (.slice none 0 0)) := Hid.intro (hs1.cell 5)
  have ne01 : w.heap.size ≠ w.heap.size + 1 := by omega
  have ne10 : w.heap.size + 1 ≠ w.heap.size := by omega
  have HR := Hid.intro (h.below hbA).rebase
  have HGL := Hid.intro h.glob
  have HBA := Hid.intro hbA
  have HWA := Hid.intro hwA
  clear h hbA hwA hs0 hs1
  go_enter Tryz.func66, Tryz.ntmps66
  have c0_0 := (HR.out.base.cell (p := ⟨w.heap.size, 0, none⟩) lt0).trans K0_0.out
  have c0_1 := (HR.out.base.cell (p := ⟨w.heap.size, 1, none⟩) lt0).trans K0_1.out
  have c1_0 := (HR.out.base.cell (p := ⟨w.heap.size + 1, 0, none⟩) lt1).trans K1_0.out
  have c1_1 := (HR.out.base.cell (p := ⟨w.heap.size + 1, 1, none⟩) lt1).trans K1_1.out
  have c1_2 := (HR.out.base.cell (p := ⟨w.heap.size + 1, 2, none⟩) lt1).trans K1_2.out
  have c1_3 := (HR.out.base.cell (p := ⟨w.heap.size + 1, 3, none⟩) lt1).trans K1_3.out
  have c1_4 := (HR.out.base.cell (p := ⟨w.heap.size + 1, 4, none⟩) lt1).trans K1_4.out
  have c1_5 := (HR.out.base.cell (p := ⟨w.heap.size + 1, 5, none⟩) lt1).trans K1_5.out
  have hsr := HS1.out.below HR.out.base HS1.out.lt
  have fr0 := hsr.free 0
  have fr1 := hsr.free 1
  have fr2 := hsr.free 2
  have fr3 := hsr.free 3
  have fr4 := hsr.free 4
  have fr5 := hsr.free 5
  clear hsr
  go_wp2_with fail
  rw [show ((w.alloc (.cells #[.string s1, .string s2] 25)).alloc (.cells #[.bool false, .slice none 0 0, .slice none 0 0, .bool false, .slice none 0 0, .slice none 0 0] 130)) = wA from HWA.out]
  go_region_held3
    (fun w' => w'.cell? ⟨w.heap.size, 0, none⟩ = some (.string s1) ∧ w'.cell? ⟨w.heap.size, 1, none⟩ = some (.string s2)) ((first | (simp [*]; done) | go_keep))
    (first
    | (go_at_call_of 149 s1
       apply Calls.mono
       apply FBag.of (w0 := wA) (n := n)
       (focus (first | exact HR.out | exact HR.out.drew | exact HR.out.drew.drew))
       omega
       omega
       rintro e wn ⟨u1, hq, z1, z2, z3, rfl, hb⟩
       have Hu1 := Hid.intro hq
       clear HR hq
       have HR := Hid.intro hb
       clear hb
       have o9 := (HR.out.ts _ (List.Mem.head _)).1.one
       have stz1 := store_one Tryz.prog o9.1
       have stz2 := store_one Tryz.prog o9.2.1
       have stz3 := store_one Tryz.prog o9.2.2
       clear o9
       have c0_0 := (HR.out.base.cell (p := ⟨w.heap.size, 0, none⟩) lt0).trans K0_0.out
       have c0_1 := (HR.out.base.cell (p := ⟨w.heap.size, 1, none⟩) lt0).trans K0_1.out
       have c1_0 := (HR.out.base.cell (p := ⟨w.heap.size + 1, 0, none⟩) lt1).trans K1_0.out
       have c1_1 := (HR.out.base.cell (p := ⟨w.heap.size + 1, 1, none⟩) lt1).trans K1_1.out
       have c1_2 := (HR.out.base.cell (p := ⟨w.heap.size + 1, 2, none⟩) lt1).trans K1_2.out
       have c1_3 := (HR.out.base.cell (p := ⟨w.heap.size + 1, 3, none⟩) lt1).trans K1_3.out
       have c1_4 := (HR.out.base.cell (p := ⟨w.heap.size + 1, 4, none⟩) lt1).trans K1_4.out
       have c1_5 := (HR.out.base.cell (p := ⟨w.heap.size + 1, 5, none⟩) lt1).trans K1_5.out
       have hsr := HS1.out.below HR.out.base HS1.out.lt
       have fr0 := hsr.free 0
       have fr1 := hsr.free 1
       have fr2 := hsr.free 2
       have fr3 := hsr.free 3
       have fr4 := hsr.free 4
       have fr5 := hsr.free 5
       clear hsr
       skip)
    | (go_at_call_of 149 s2
       apply Calls.mono
       apply FBag.of (w0 := wA) (n := n)
       (focus (first | exact HR.out | exact HR.out.drew | exact HR.out.drew.drew))
       omega
       omega
       rintro e wn ⟨u2, hq, z4, z5, z6, rfl, hb⟩
       have Hu2 := Hid.intro hq
       clear HR hq
       have HR := Hid.intro hb
       clear hb
       have o9 := (HR.out.ts _ (List.Mem.head _)).1.one
       have stz4 := store_one Tryz.prog o9.1
       have stz5 := store_one Tryz.prog o9.2.1
       have stz6 := store_one Tryz.prog o9.2.2
       clear o9
       have c0_0 := (HR.out.base.cell (p := ⟨w.heap.size, 0, none⟩) lt0).trans K0_0.out
       have c0_1 := (HR.out.base.cell (p := ⟨w.heap.size, 1, none⟩) lt0).trans K0_1.out
       have c1_0 := (HR.out.base.cell (p := ⟨w.heap.size + 1, 0, none⟩) lt1).trans K1_0.out
       have c1_1 := (HR.out.base.cell (p := ⟨w.heap.size + 1, 1, none⟩) lt1).trans K1_1.out
       have c1_2 := (HR.out.base.cell (p := ⟨w.heap.size + 1, 2, none⟩) lt1).trans K1_2.out
       have c1_3 := (HR.out.base.cell (p := ⟨w.heap.size + 1, 3, none⟩) lt1).trans K1_3.out
       have c1_4 := (HR.out.base.cell (p := ⟨w.heap.size + 1, 4, none⟩) lt1).trans K1_4.out
       have c1_5 := (HR.out.base.cell (p := ⟨w.heap.size + 1, 5, none⟩) lt1).trans K1_5.out
       have hsr := HS1.out.below HR.out.base HS1.out.lt
       have fr0 := hsr.free 0
       have fr1 := hsr.free 1
       have fr2 := hsr.free 2
       have fr3 := hsr.free 3
       have fr4 := hsr.free 4
       have fr5 := hsr.free 5
       clear hsr
       skip)
    )
  all_goals
    go_wp2
    have hs9 := HS1.out.below HR.out.base HS1.out.lt
    refine bodyPost_ret (v := .agg #[z1, z2, z3, z4, z5, z6]) (results_cell_row rfl _ _ (w.heap.size + 1) 130 #[z1, z2, z3, z4, z5, z6] (0, 0) _ rfl ((((((hs9.set 0 _).set 1 _).set 2 _).set 3 _).set 4 _).set 5 _) Tryz.underlying130 rfl Tryz.vecInfo) rfl ?_
    have ho := (((((((Only.refl (w.heap.size + 1) wn).setCell 0 (z1)).setCell 1 (z2)).setCell 2 (z3)).setCell 3 (z4)).setCell 4 (z5)).setCell 5 (z6))
    refine ⟨u1, u2, Hu1.out, Hu2.out, _, _, _, _, _, _, rfl, ((HR.out.from HBA.out HGL.out ?_).only ho hs9 zeroVec_no (by omega))⟩
    intro t ht
    simp only [List.mem_cons, List.not_mem_nil, or_false] at ht
    rcases ht with rfl | rfl
    · exact ⟨_, (by repeat (first | exact List.Mem.head _ | apply List.Mem.tail)), Nat.le_refl _⟩
    · exact ⟨_, (by repeat (first | exact List.Mem.head _ | apply List.Mem.tail)), Nat.le_refl _⟩

set_option maxRecDepth 100000 in
set_option maxHeartbeats 4000000 in
theorem vec_spot {w : World} {x1 x2 x3 x4 x5 x6 : Value} {sdum : ByteArray} {j1 j2 : Nat} {p1 p2 : Rat} (h : FBag w w [⟨x1, x2, x3, p1, j1⟩, ⟨x4, x5, x6, p2, j2⟩]) (h1 : j1 ≤ 274877906944) (h2 : j2 ≤ 274877906944) :
    Calls Tryz.prog 67 #[.agg #[x1, x2, x3, x4, x5, x6]] w (SNew w p1 p2) := by
  obtain ⟨wA, hwA⟩ : ∃ wA, ((w.alloc (.cells #[x1, x2, x3, x4, x5, x6] 130)).alloc (.cells #[.string ⟨#[]⟩, .string ⟨#[]⟩] 25)) = wA := ⟨_, rfl⟩
  have hbA : Below w.heap.size w wA := by rw [← hwA]; exact (((Below.refl _ _).alloc (by first | exact Nat.le_refl _ | (simp only [World.size_alloc]; omega)) _).alloc (by first | exact Nat.le_refl _ | (simp only [World.size_alloc]; omega)) _)
  have hs0 : SB wA (w.heap.size) 130 #[x1, x2, x3, x4, x5, x6] := by rw [← hwA]; exact ((SB.new w _ _).alloc _)
  have HS0 := Hid.intro hs0
  have lt0 := hs0.lt
  have K0_0 : Hid (wA.cell? ⟨w.heap.size, 0, none⟩ = some (x1)) := Hid.intro (hs0.cell 0)
  have K0_1 : Hid (wA.cell? ⟨w.heap.size, 1, none⟩ = some (x2)) := Hid.intro (hs0.cell 1)
  have K0_2 : Hid (wA.cell? ⟨w.heap.size, 2, none⟩ = some (x3)) := Hid.intro (hs0.cell 2)
  have K0_3 : Hid (wA.cell? ⟨w.heap.size, 3, none⟩ = some (x4)) := Hid.intro (hs0.cell 3)
  have K0_4 : Hid (wA.cell? ⟨w.heap.size, 4, none⟩ = some (x5)) := Hid.intro (hs0.cell 4)
  have K0_5 : Hid (wA.cell? ⟨w.heap.size, 5, none⟩ = some (x6)) := Hid.intro (hs0.cell 5)
  have hs1 : SB wA (w.heap.size + 1) 25 #[.string ⟨#[]⟩, .string ⟨#[]⟩] := by rw [← hwA]; exact (SB.new2 w _ _ _ _)
  have HS1 := Hid.intro hs1
  have lt1 := hs1.lt
  have K1_0 : Hid (wA.cell? ⟨w.heap.size + 1, 0, none⟩ = some (.string ⟨#[]⟩)) := Hid.intro (hs1.cell 0)
  have K1_1 : Hid (wA.cell? ⟨w.heap.size + 1, 1, none⟩ = some (.string ⟨#[]⟩)) := Hid.intro (hs1.cell 1)
  have ne01 : w.heap.size ≠ w.heap.size + 1 := by omega
  have ne10 : w.heap.size + 1 ≠ w.heap.size := by omega
  have HR := Hid.intro (h.below hbA).rebase
  have HGL := Hid.intro h.glob
  have HBA := Hid.intro hbA
  have HWA := Hid.intro hwA
  clear h hbA hwA hs0 hs1
  go_enter Tryz.func67, Tryz.ntmps67
  have c0_0 := (HR.out.base.cell (p := ⟨w.heap.size, 0, none⟩) lt0).trans K0_0.out
  have c0_1 := (HR.out.base.cell (p := ⟨w.heap.size, 1, none⟩) lt0).trans K0_1.out
  have c0_2 := (HR.out.base.cell (p := ⟨w.heap.size, 2, none⟩) lt0).trans K0_2.out
  have c0_3 := (HR.out.base.cell (p := ⟨w.heap.size, 3, none⟩) lt0).trans K0_3.out
  have c0_4 := (HR.out.base.cell (p := ⟨w.heap.size, 4, none⟩) lt0).trans K0_4.out
  have c0_5 := (HR.out.base.cell (p := ⟨w.heap.size, 5, none⟩) lt0).trans K0_5.out
  have c1_0 := (HR.out.base.cell (p := ⟨w.heap.size + 1, 0, none⟩) lt1).trans K1_0.out
  have c1_1 := (HR.out.base.cell (p := ⟨w.heap.size + 1, 1, none⟩) lt1).trans K1_1.out
  have hsr := HS1.out.below HR.out.base HS1.out.lt
  have fr0 := hsr.free 0
  have fr1 := hsr.free 1
  clear hsr
  go_wp2_with fail
  rw [show ((w.alloc (.cells #[x1, x2, x3, x4, x5, x6] 130)).alloc (.cells #[.string ⟨#[]⟩, .string ⟨#[]⟩] 25)) = wA from HWA.out]
  go_region_held3
    (fun w' => w'.cell? ⟨w.heap.size, 0, none⟩ = some (x1) ∧ w'.cell? ⟨w.heap.size, 1, none⟩ = some (x2) ∧ w'.cell? ⟨w.heap.size, 2, none⟩ = some (x3) ∧ w'.cell? ⟨w.heap.size, 3, none⟩ = some (x4) ∧ w'.cell? ⟨w.heap.size, 4, none⟩ = some (x5) ∧ w'.cell? ⟨w.heap.size, 5, none⟩ = some (x6)) ((first | (simp [*]; done) | go_keep))
    (first
    | (go_at_call_of 68 x1
       apply Calls.mono
       apply FBag.text (w0 := wA)
       (focus (first | exact HR.out | exact HR.out.drew | exact HR.out.drew.drew))
       (focus (repeat (first | exact List.Mem.head _ | apply List.Mem.tail)))
       omega
       rintro e wn ⟨⟨t1, rfl, ht⟩, hb⟩
       have Ht1 := Hid.intro ht
       clear HR ht
       have HR := Hid.intro hb
       clear hb
       have c0_0 := (HR.out.base.cell (p := ⟨w.heap.size, 0, none⟩) lt0).trans K0_0.out
       have c0_1 := (HR.out.base.cell (p := ⟨w.heap.size, 1, none⟩) lt0).trans K0_1.out
       have c0_2 := (HR.out.base.cell (p := ⟨w.heap.size, 2, none⟩) lt0).trans K0_2.out
       have c0_3 := (HR.out.base.cell (p := ⟨w.heap.size, 3, none⟩) lt0).trans K0_3.out
       have c0_4 := (HR.out.base.cell (p := ⟨w.heap.size, 4, none⟩) lt0).trans K0_4.out
       have c0_5 := (HR.out.base.cell (p := ⟨w.heap.size, 5, none⟩) lt0).trans K0_5.out
       have c1_0 := (HR.out.base.cell (p := ⟨w.heap.size + 1, 0, none⟩) lt1).trans K1_0.out
       have c1_1 := (HR.out.base.cell (p := ⟨w.heap.size + 1, 1, none⟩) lt1).trans K1_1.out
       have hsr := HS1.out.below HR.out.base HS1.out.lt
       have fr0 := hsr.free 0
       have fr1 := hsr.free 1
       clear hsr
       skip)
    | (go_at_call_of 68 x4
       apply Calls.mono
       apply FBag.text (w0 := wA)
       (focus (first | exact HR.out | exact HR.out.drew | exact HR.out.drew.drew))
       (focus (repeat (first | exact List.Mem.head _ | apply List.Mem.tail)))
       omega
       rintro e wn ⟨⟨t2, rfl, ht⟩, hb⟩
       have Ht2 := Hid.intro ht
       clear HR ht
       have HR := Hid.intro hb
       clear hb
       have c0_0 := (HR.out.base.cell (p := ⟨w.heap.size, 0, none⟩) lt0).trans K0_0.out
       have c0_1 := (HR.out.base.cell (p := ⟨w.heap.size, 1, none⟩) lt0).trans K0_1.out
       have c0_2 := (HR.out.base.cell (p := ⟨w.heap.size, 2, none⟩) lt0).trans K0_2.out
       have c0_3 := (HR.out.base.cell (p := ⟨w.heap.size, 3, none⟩) lt0).trans K0_3.out
       have c0_4 := (HR.out.base.cell (p := ⟨w.heap.size, 4, none⟩) lt0).trans K0_4.out
       have c0_5 := (HR.out.base.cell (p := ⟨w.heap.size, 5, none⟩) lt0).trans K0_5.out
       have c1_0 := (HR.out.base.cell (p := ⟨w.heap.size + 1, 0, none⟩) lt1).trans K1_0.out
       have c1_1 := (HR.out.base.cell (p := ⟨w.heap.size + 1, 1, none⟩) lt1).trans K1_1.out
       have hsr := HS1.out.below HR.out.base HS1.out.lt
       have fr0 := hsr.free 0
       have fr1 := hsr.free 1
       clear hsr
       skip)
    )
  all_goals
    go_wp2
    have hs9 := HS1.out.below HR.out.base HS1.out.lt
    refine bodyPost_ret (v := .agg #[.string t1, .string t2]) (results_cell_row rfl _ _ (w.heap.size + 1) 25 #[.string t1, .string t2] (0, 0) _ rfl ((hs9.set 0 _).set 1 _) Tryz.underlying25 rfl Tryz.spotInfo) rfl ?_
    have ho := (((Only.refl (w.heap.size + 1) wn).setCell 0 (.string t1)).setCell 1 (.string t2))
    exact ⟨t1, t2, rfl, Ht1.out, Ht2.out, Only.fresh (HBA.out.trans (HR.out.base.mono HBA.out.size)) ho (by omega)⟩

set_option maxRecDepth 100000 in
set_option maxHeartbeats 4000000 in
theorem vec_isZero {w : World} {x1 x2 x3 x4 x5 x6 : Value} {sdum : ByteArray} {j1 j2 : Nat} {p1 p2 : Rat} (h : FBag w w [⟨x1, x2, x3, p1, j1⟩, ⟨x4, x5, x6, p2, j2⟩])  :
    Calls Tryz.prog 151 #[.agg #[x1, x2, x3, x4, x5, x6]] w (BNew w (decide (p1 = 0 ∧ p2 = 0))) := by
  obtain ⟨wA, hwA⟩ : ∃ wA, (w.alloc (.cells #[x1, x2, x3, x4, x5, x6] 130)) = wA := ⟨_, rfl⟩
  have hbA : Below w.heap.size w wA := by rw [← hwA]; exact ((Below.refl _ _).alloc (by first | exact Nat.le_refl _ | (simp only [World.size_alloc]; omega)) _)
  have hs0 : SB wA (w.heap.size) 130 #[x1, x2, x3, x4, x5, x6] := by rw [← hwA]; exact (SB.new w _ _)
  have HS0 := Hid.intro hs0
  have lt0 := hs0.lt
  have K0_0 : Hid (wA.cell? ⟨w.heap.size, 0, none⟩ = some (x1)) := Hid.intro (hs0.cell 0)
  have K0_1 : Hid (wA.cell? ⟨w.heap.size, 1, none⟩ = some (x2)) := Hid.intro (hs0.cell 1)
  have K0_2 : Hid (wA.cell? ⟨w.heap.size, 2, none⟩ = some (x3)) := Hid.intro (hs0.cell 2)
  have K0_3 : Hid (wA.cell? ⟨w.heap.size, 3, none⟩ = some (x4)) := Hid.intro (hs0.cell 3)
  have K0_4 : Hid (wA.cell? ⟨w.heap.size, 4, none⟩ = some (x5)) := Hid.intro (hs0.cell 4)
  have K0_5 : Hid (wA.cell? ⟨w.heap.size, 5, none⟩ = some (x6)) := Hid.intro (hs0.cell 5)
  have HR := Hid.intro (h.below hbA).rebase
  have HGL := Hid.intro h.glob
  have HBA := Hid.intro hbA
  have HWA := Hid.intro hwA
  clear h hbA hwA hs0
  go_enter Tryz.func151, Tryz.ntmps151
  have c0_0 := (HR.out.base.cell (p := ⟨w.heap.size, 0, none⟩) lt0).trans K0_0.out
  have c0_1 := (HR.out.base.cell (p := ⟨w.heap.size, 1, none⟩) lt0).trans K0_1.out
  have c0_2 := (HR.out.base.cell (p := ⟨w.heap.size, 2, none⟩) lt0).trans K0_2.out
  have c0_3 := (HR.out.base.cell (p := ⟨w.heap.size, 3, none⟩) lt0).trans K0_3.out
  have c0_4 := (HR.out.base.cell (p := ⟨w.heap.size, 4, none⟩) lt0).trans K0_4.out
  have c0_5 := (HR.out.base.cell (p := ⟨w.heap.size, 5, none⟩) lt0).trans K0_5.out
  go_wp2_with fail
  rw [show (w.alloc (.cells #[x1, x2, x3, x4, x5, x6] 130)) = wA from HWA.out]
  by_cases hz : p1 = 0
  · skip
    apply Calls.mono
    apply FBag.isZero (w0 := wA) HR.out
    (focus (repeat (first | exact List.Mem.head _ | apply List.Mem.tail)))
    rw [decide_eq_true hz]
    rintro e wn ⟨rfl, hb⟩
    clear HR
    have HR := Hid.intro hb
    clear hb
    have c0_0 := (HR.out.base.cell (p := ⟨w.heap.size, 0, none⟩) lt0).trans K0_0.out
    have c0_1 := (HR.out.base.cell (p := ⟨w.heap.size, 1, none⟩) lt0).trans K0_1.out
    have c0_2 := (HR.out.base.cell (p := ⟨w.heap.size, 2, none⟩) lt0).trans K0_2.out
    have c0_3 := (HR.out.base.cell (p := ⟨w.heap.size, 3, none⟩) lt0).trans K0_3.out
    have c0_4 := (HR.out.base.cell (p := ⟨w.heap.size, 4, none⟩) lt0).trans K0_4.out
    have c0_5 := (HR.out.base.cell (p := ⟨w.heap.size, 5, none⟩) lt0).trans K0_5.out
    go_wp2_with fail
    apply Calls.mono
    apply FBag.isZero (w0 := wA) HR.out
    (focus (repeat (first | exact List.Mem.head _ | apply List.Mem.tail)))
    skip
    rintro e wm ⟨rfl, hb⟩
    clear HR
    have HR := Hid.intro hb
    clear hb

    go_wp2
    go_ret
    refine ⟨?_, HBA.out.trans (HR.out.base.mono HBA.out.size)⟩
    by_cases hy : p2 = 0
    · rw [decide_eq_true hy, decide_eq_true (show (p1 = 0) ∧ (p2 = 0) from ⟨hz, hy⟩)]; rfl
    · rw [decide_eq_false hy, decide_eq_false (show ¬ ((p1 = 0) ∧ (p2 = 0)) from fun h => hy h.2)]; rfl
  · skip
    apply Calls.mono
    apply FBag.isZero (w0 := wA) HR.out
    (focus (repeat (first | exact List.Mem.head _ | apply List.Mem.tail)))
    rw [decide_eq_false hz]
    rintro e wn ⟨rfl, hb⟩
    clear HR
    have HR := Hid.intro hb
    clear hb
    have c0_0 := (HR.out.base.cell (p := ⟨w.heap.size, 0, none⟩) lt0).trans K0_0.out
    have c0_1 := (HR.out.base.cell (p := ⟨w.heap.size, 1, none⟩) lt0).trans K0_1.out
    have c0_2 := (HR.out.base.cell (p := ⟨w.heap.size, 2, none⟩) lt0).trans K0_2.out
    have c0_3 := (HR.out.base.cell (p := ⟨w.heap.size, 3, none⟩) lt0).trans K0_3.out
    have c0_4 := (HR.out.base.cell (p := ⟨w.heap.size, 4, none⟩) lt0).trans K0_4.out
    have c0_5 := (HR.out.base.cell (p := ⟨w.heap.size, 5, none⟩) lt0).trans K0_5.out
    go_wp2
    go_ret
    refine ⟨?_, HBA.out.trans (HR.out.base.mono HBA.out.size)⟩
    rw [decide_eq_false (show ¬ ((p1 = 0) ∧ (p2 = 0)) from fun h => hz h.1)]; rfl


set_option maxRecDepth 100000 in
set_option maxHeartbeats 4000000 in
theorem vec_equal {w : World} {x1 x2 x3 x4 x5 x6 y1 y2 y3 y4 y5 y6 : Value} {sdum : ByteArray} {j1 j2 k1 k2 : Nat} {p1 p2 q1 q2 : Rat} (h : FBag w w [⟨x1, x2, x3, p1, j1⟩, ⟨x4, x5, x6, p2, j2⟩, ⟨y1, y2, y3, q1, k1⟩, ⟨y4, y5, y6, q2, k2⟩])  :
    Calls Tryz.prog 71 #[.agg #[x1, x2, x3, x4, x5, x6], .agg #[y1, y2, y3, y4, y5, y6]] w (BNew w (decide (p1 = q1 ∧ p2 = q2))) := by
  obtain ⟨wA, hwA⟩ : ∃ wA, ((w.alloc (.cells #[x1, x2, x3, x4, x5, x6] 130)).alloc (.cells #[y1, y2, y3, y4, y5, y6] 130)) = wA := ⟨_, rfl⟩
  have hbA : Below w.heap.size w wA := by rw [← hwA]; exact (((Below.refl _ _).alloc (by first | exact Nat.le_refl _ | (simp only [World.size_alloc]; omega)) _).alloc (by first | exact Nat.le_refl _ | (simp only [World.size_alloc]; omega)) _)
  have hs0 : SB wA (w.heap.size) 130 #[x1, x2, x3, x4, x5, x6] := by rw [← hwA]; exact ((SB.new w _ _).alloc _)
  have HS0 := Hid.intro hs0
  have lt0 := hs0.lt
  have K0_0 : Hid (wA.cell? ⟨w.heap.size, 0, none⟩ = some (x1)) := Hid.intro (hs0.cell 0)
  have K0_1 : Hid (wA.cell? ⟨w.heap.size, 1, none⟩ = some (x2)) := Hid.intro (hs0.cell 1)
  have K0_2 : Hid (wA.cell? ⟨w.heap.size, 2, none⟩ = some (x3)) := Hid.intro (hs0.cell 2)
  have K0_3 : Hid (wA.cell? ⟨w.heap.size, 3, none⟩ = some (x4)) := Hid.intro (hs0.cell 3)
  have K0_4 : Hid (wA.cell? ⟨w.heap.size, 4, none⟩ = some (x5)) := Hid.intro (hs0.cell 4)
  have K0_5 : Hid (wA.cell? ⟨w.heap.size, 5, none⟩ = some (x6)) := Hid.intro (hs0.cell 5)
  have hs1 : SB wA (w.heap.size + 1) 130 #[y1, y2, y3, y4, y5, y6] := by rw [← hwA]; exact (SB.new2 w _ _ _ _)
  have HS1 := Hid.intro hs1
  have lt1 := hs1.lt
  have K1_0 : Hid (wA.cell? ⟨w.heap.size + 1, 0, none⟩ = some (y1)) := Hid.intro (hs1.cell 0)
  have K1_1 : Hid (wA.cell? ⟨w.heap.size + 1, 1, none⟩ = some (y2)) := Hid.intro (hs1.cell 1)
  have K1_2 : Hid (wA.cell? ⟨w.heap.size + 1, 2, none⟩ = some (y3)) := Hid.intro (hs1.cell 2)
  have K1_3 : Hid (wA.cell? ⟨w.heap.size + 1, 3, none⟩ = some (y4)) := Hid.intro (hs1.cell 3)
  have K1_4 : Hid (wA.cell? ⟨w.heap.size + 1, 4, none⟩ = some (y5)) := Hid.intro (hs1.cell 4)
  have K1_5 : Hid (wA.cell? ⟨w.heap.size + 1, 5, none⟩ = some (y6)) := Hid.intro (hs1.cell 5)
  have ne01 : w.heap.size ≠ w.heap.size + 1 := by omega
  have ne10 : w.heap.size + 1 ≠ w.heap.size := by omega
  have HR := Hid.intro (h.below hbA).rebase
  have HGL := Hid.intro h.glob
  have HBA := Hid.intro hbA
  have HWA := Hid.intro hwA
  clear h hbA hwA hs0 hs1
  go_enter Tryz.func71, Tryz.ntmps71
  have c0_0 := (HR.out.base.cell (p := ⟨w.heap.size, 0, none⟩) lt0).trans K0_0.out
  have c0_1 := (HR.out.base.cell (p := ⟨w.heap.size, 1, none⟩) lt0).trans K0_1.out
  have c0_2 := (HR.out.base.cell (p := ⟨w.heap.size, 2, none⟩) lt0).trans K0_2.out
  have c0_3 := (HR.out.base.cell (p := ⟨w.heap.size, 3, none⟩) lt0).trans K0_3.out
  have c0_4 := (HR.out.base.cell (p := ⟨w.heap.size, 4, none⟩) lt0).trans K0_4.out
  have c0_5 := (HR.out.base.cell (p := ⟨w.heap.size, 5, none⟩) lt0).trans K0_5.out
  have c1_0 := (HR.out.base.cell (p := ⟨w.heap.size + 1, 0, none⟩) lt1).trans K1_0.out
  have c1_1 := (HR.out.base.cell (p := ⟨w.heap.size + 1, 1, none⟩) lt1).trans K1_1.out
  have c1_2 := (HR.out.base.cell (p := ⟨w.heap.size + 1, 2, none⟩) lt1).trans K1_2.out
  have c1_3 := (HR.out.base.cell (p := ⟨w.heap.size + 1, 3, none⟩) lt1).trans K1_3.out
  have c1_4 := (HR.out.base.cell (p := ⟨w.heap.size + 1, 4, none⟩) lt1).trans K1_4.out
  have c1_5 := (HR.out.base.cell (p := ⟨w.heap.size + 1, 5, none⟩) lt1).trans K1_5.out
  go_wp2_with fail
  rw [show ((w.alloc (.cells #[x1, x2, x3, x4, x5, x6] 130)).alloc (.cells #[y1, y2, y3, y4, y5, y6] 130)) = wA from HWA.out]
  by_cases hz : p1 = q1
  · skip
    apply Calls.mono
    apply FBag.equal (w0 := wA) HR.out
    (focus (repeat (first | exact List.Mem.head _ | apply List.Mem.tail)))
    (focus (repeat (first | exact List.Mem.head _ | apply List.Mem.tail)))
    rw [decide_eq_true hz]
    rintro e wn ⟨rfl, hb⟩
    clear HR
    have HR := Hid.intro hb
    clear hb
    have c0_0 := (HR.out.base.cell (p := ⟨w.heap.size, 0, none⟩) lt0).trans K0_0.out
    have c0_1 := (HR.out.base.cell (p := ⟨w.heap.size, 1, none⟩) lt0).trans K0_1.out
    have c0_2 := (HR.out.base.cell (p := ⟨w.heap.size, 2, none⟩) lt0).trans K0_2.out
    have c0_3 := (HR.out.base.cell (p := ⟨w.heap.size, 3, none⟩) lt0).trans K0_3.out
    have c0_4 := (HR.out.base.cell (p := ⟨w.heap.size, 4, none⟩) lt0).trans K0_4.out
    have c0_5 := (HR.out.base.cell (p := ⟨w.heap.size, 5, none⟩) lt0).trans K0_5.out
    have c1_0 := (HR.out.base.cell (p := ⟨w.heap.size + 1, 0, none⟩) lt1).trans K1_0.out
    have c1_1 := (HR.out.base.cell (p := ⟨w.heap.size + 1, 1, none⟩) lt1).trans K1_1.out
    have c1_2 := (HR.out.base.cell (p := ⟨w.heap.size + 1, 2, none⟩) lt1).trans K1_2.out
    have c1_3 := (HR.out.base.cell (p := ⟨w.heap.size + 1, 3, none⟩) lt1).trans K1_3.out
    have c1_4 := (HR.out.base.cell (p := ⟨w.heap.size + 1, 4, none⟩) lt1).trans K1_4.out
    have c1_5 := (HR.out.base.cell (p := ⟨w.heap.size + 1, 5, none⟩) lt1).trans K1_5.out
    go_wp2_with fail
    apply Calls.mono
    apply FBag.equal (w0 := wA) HR.out
    (focus (repeat (first | exact List.Mem.head _ | apply List.Mem.tail)))
    (focus (repeat (first | exact List.Mem.head _ | apply List.Mem.tail)))
    skip
    rintro e wm ⟨rfl, hb⟩
    clear HR
    have HR := Hid.intro hb
    clear hb

    go_wp2
    go_ret
    refine ⟨?_, HBA.out.trans (HR.out.base.mono HBA.out.size)⟩
    by_cases hy : p2 = q2
    · rw [decide_eq_true hy, decide_eq_true (show (p1 = q1) ∧ (p2 = q2) from ⟨hz, hy⟩)]; rfl
    · rw [decide_eq_false hy, decide_eq_false (show ¬ ((p1 = q1) ∧ (p2 = q2)) from fun h => hy h.2)]; rfl
  · skip
    apply Calls.mono
    apply FBag.equal (w0 := wA) HR.out
    (focus (repeat (first | exact List.Mem.head _ | apply List.Mem.tail)))
    (focus (repeat (first | exact List.Mem.head _ | apply List.Mem.tail)))
    rw [decide_eq_false hz]
    rintro e wn ⟨rfl, hb⟩
    clear HR
    have HR := Hid.intro hb
    clear hb
    have c0_0 := (HR.out.base.cell (p := ⟨w.heap.size, 0, none⟩) lt0).trans K0_0.out
    have c0_1 := (HR.out.base.cell (p := ⟨w.heap.size, 1, none⟩) lt0).trans K0_1.out
    have c0_2 := (HR.out.base.cell (p := ⟨w.heap.size, 2, none⟩) lt0).trans K0_2.out
    have c0_3 := (HR.out.base.cell (p := ⟨w.heap.size, 3, none⟩) lt0).trans K0_3.out
    have c0_4 := (HR.out.base.cell (p := ⟨w.heap.size, 4, none⟩) lt0).trans K0_4.out
    have c0_5 := (HR.out.base.cell (p := ⟨w.heap.size, 5, none⟩) lt0).trans K0_5.out
    have c1_0 := (HR.out.base.cell (p := ⟨w.heap.size + 1, 0, none⟩) lt1).trans K1_0.out
    have c1_1 := (HR.out.base.cell (p := ⟨w.heap.size + 1, 1, none⟩) lt1).trans K1_1.out
    have c1_2 := (HR.out.base.cell (p := ⟨w.heap.size + 1, 2, none⟩) lt1).trans K1_2.out
    have c1_3 := (HR.out.base.cell (p := ⟨w.heap.size + 1, 3, none⟩) lt1).trans K1_3.out
    have c1_4 := (HR.out.base.cell (p := ⟨w.heap.size + 1, 4, none⟩) lt1).trans K1_4.out
    have c1_5 := (HR.out.base.cell (p := ⟨w.heap.size + 1, 5, none⟩) lt1).trans K1_5.out
    go_wp2
    go_ret
    refine ⟨?_, HBA.out.trans (HR.out.base.mono HBA.out.size)⟩
    rw [decide_eq_false (show ¬ ((p1 = q1) ∧ (p2 = q2)) from fun h => hz h.1)]; rfl



/-- fewer, from here on -/
theorem FBag.sub {w0 w : World} {L M : List FE} (h : FBag w0 w L) (hm : ∀ t, t ∈ M → t ∈ L) : FBag w w M := h.rebase.from (Below.refl _ _) h.globNow (fun t ht => ⟨t.k, hm t ht, Nat.le_refl _⟩)
def VNewB (w0 : World) (L : List FE) (p : Rat) (j : Nat) (q : Rat) (k : Nat) (e : Ending) (w' : World) : Prop := ∃ x1 x2 x3 y1 y2 y3, e = .returned (.agg #[x1, x2, x3, y1, y2, y3]) ∧ FBag w0 w' (⟨x1, x2, x3, p, j⟩ :: ⟨y1, y2, y3, q, k⟩ :: L)
theorem FBag.newV {w0 w w' : World} {L : List FE} {p q : Rat} {j k : Nat} {e : Ending} (h : FBag w0 w L) (hn : VNew w p j q k e w') : VNewB w0 L p j q k e w' := by
  obtain ⟨x1, x2, x3, y1, y2, y3, rfl, hb⟩ := hn
  have g1 := hb.ts _ (List.Mem.head _)
  have g2 := hb.ts _ (List.Mem.tail _ (List.Mem.head _))
  exact ⟨x1, x2, x3, y1, y2, y3, rfl, ((h.below hb.base).put g2.1 g2.2.1 g2.2.2).put g1.1 g1.2.1 g1.2.2⟩
theorem FBag.newR {w0 w w' : World} {L : List FE} {p : Rat} {j : Nat} {e : Ending} (h : FBag w0 w L) (hn : RNew1 w p j e w') : FNewB w0 L p j e w' := by
  obtain ⟨x1, x2, x3, rfl, hb⟩ := hn
  have g1 := hb.ts _ (List.Mem.head _)
  exact ⟨x1, x2, x3, rfl, (h.below hb.base).put g1.1 g1.2.1 g1.2.2⟩

theorem FBag.vplus {w0 w : World} {L : List FE} {x1 x2 x3 x4 x5 x6 y1 y2 y3 y4 y5 y6 : Value} {j1 j2 k1 k2 : Nat} {p1 p2 q1 q2 : Rat} (h : FBag w0 w L) (hx1 : ⟨x1, x2, x3, p1, j1⟩ ∈ L) (hx2 : ⟨x4, x5, x6, p2, j2⟩ ∈ L) (hy1 : ⟨y1, y2, y3, q1, k1⟩ ∈ L) (hy2 : ⟨y4, y5, y6, q2, k2⟩ ∈ L) (h1 : j1 + k1 < 68719476000) (h2 : j2 + k2 < 68719476000) :
    Calls Tryz.prog 145 #[.agg #[x1, x2, x3, x4, x5, x6], .agg #[y1, y2, y3, y4, y5, y6]] w (VNewB w0 L (p1 + q1) (j1 + k1 + 1) (p2 + q2) (j2 + k2 + 1)) := (vec_plus (h.sub (fun t ht => by simp only [List.mem_cons, List.not_mem_nil, or_false] at ht; rcases ht with rfl | rfl | rfl | rfl; all_goals assumption)) h1 h2 (sdum := ⟨#[]⟩)).mono (fun e w' hn => h.newV hn)

theorem FBag.vminus {w0 w : World} {L : List FE} {x1 x2 x3 x4 x5 x6 y1 y2 y3 y4 y5 y6 : Value} {j1 j2 k1 k2 : Nat} {p1 p2 q1 q2 : Rat} (h : FBag w0 w L) (hx1 : ⟨x1, x2, x3, p1, j1⟩ ∈ L) (hx2 : ⟨x4, x5, x6, p2, j2⟩ ∈ L) (hy1 : ⟨y1, y2, y3, q1, k1⟩ ∈ L) (hy2 : ⟨y4, y5, y6, q2, k2⟩ ∈ L) (h1 : j1 + k1 < 68719476000) (h2 : j2 + k2 < 68719476000) :
    Calls Tryz.prog 147 #[.agg #[x1, x2, x3, x4, x5, x6], .agg #[y1, y2, y3, y4, y5, y6]] w (VNewB w0 L (p1 - q1) (j1 + k1 + 1) (p2 - q2) (j2 + k2 + 1)) := (vec_minus (h.sub (fun t ht => by simp only [List.mem_cons, List.not_mem_nil, or_false] at ht; rcases ht with rfl | rfl | rfl | rfl; all_goals assumption)) h1 h2 (sdum := ⟨#[]⟩)).mono (fun e w' hn => h.newV hn)

theorem FBag.vcross {w0 w : World} {L : List FE} {x1 x2 x3 x4 x5 x6 y1 y2 y3 y4 y5 y6 : Value} {j1 j2 k1 k2 : Nat} {p1 p2 q1 q2 : Rat} (h : FBag w0 w L) (hx1 : ⟨x1, x2, x3, p1, j1⟩ ∈ L) (hx2 : ⟨x4, x5, x6, p2, j2⟩ ∈ L) (hy1 : ⟨y1, y2, y3, q1, k1⟩ ∈ L) (hy2 : ⟨y4, y5, y6, q2, k2⟩ ∈ L) (h1 : j1 + k2 + (j2 + k1) < 68719476000) :
    Calls Tryz.prog 148 #[.agg #[x1, x2, x3, x4, x5, x6], .agg #[y1, y2, y3, y4, y5, y6]] w (FNewB w0 L (p1 * q2 - p2 * q1) (j1 + k2 + (j2 + k1) + 1)) := (vec_cross (h.sub (fun t ht => by simp only [List.mem_cons, List.not_mem_nil, or_false] at ht; rcases ht with rfl | rfl | rfl | rfl; all_goals assumption)) h1 (sdum := ⟨#[]⟩)).mono (fun e w' hn => h.newR hn)

theorem FBag.vequal {w0 w : World} {L : List FE} {x1 x2 x3 x4 x5 x6 y1 y2 y3 y4 y5 y6 : Value} {j1 j2 k1 k2 : Nat} {p1 p2 q1 q2 : Rat} (h : FBag w0 w L) (hx1 : ⟨x1, x2, x3, p1, j1⟩ ∈ L) (hx2 : ⟨x4, x5, x6, p2, j2⟩ ∈ L) (hy1 : ⟨y1, y2, y3, q1, k1⟩ ∈ L) (hy2 : ⟨y4, y5, y6, q2, k2⟩ ∈ L)  :
    Calls Tryz.prog 71 #[.agg #[x1, x2, x3, x4, x5, x6], .agg #[y1, y2, y3, y4, y5, y6]] w (fun e w' => e = .returned (.bool (decide (p1 = q1 ∧ p2 = q2))) ∧ FBag w0 w' L) := (vec_equal (h.sub (fun t ht => by simp only [List.mem_cons, List.not_mem_nil, or_false] at ht; rcases ht with rfl | rfl | rfl | rfl; all_goals assumption)) (sdum := ⟨#[]⟩)).mono (fun e w' hn => ⟨hn.1, h.below hn.2⟩)

theorem FBag.vtimes {w0 w : World} {L : List FE} {x1 x2 x3 x4 x5 x6 y1 y2 y3 : Value} {j1 j2 k1 : Nat} {p1 p2 q1 : Rat} (h : FBag w0 w L) (hx1 : ⟨x1, x2, x3, p1, j1⟩ ∈ L) (hx2 : ⟨x4, x5, x6, p2, j2⟩ ∈ L) (hy1 : ⟨y1, y2, y3, q1, k1⟩ ∈ L) (h1 : j1 + k1 < 68719476000) (h2 : j2 + k1 < 68719476000) :
    Calls Tryz.prog 154 #[.agg #[x1, x2, x3, x4, x5, x6], .agg #[y1, y2, y3]] w (VNewB w0 L (p1 * q1) (j1 + k1) (p2 * q1) (j2 + k1)) := (vec_times (h.sub (fun t ht => by simp only [List.mem_cons, List.not_mem_nil, or_false] at ht; rcases ht with rfl | rfl | rfl; all_goals assumption)) h1 h2 (sdum := ⟨#[]⟩)).mono (fun e w' hn => h.newV hn)

theorem FBag.vsquare {w0 w : World} {L : List FE} {x1 x2 x3 x4 x5 x6 : Value} {j1 j2 : Nat} {p1 p2 : Rat} (h : FBag w0 w L) (hx1 : ⟨x1, x2, x3, p1, j1⟩ ∈ L) (hx2 : ⟨x4, x5, x6, p2, j2⟩ ∈ L) (h1 : j1 + j1 + (j2 + j2) < 68719476000) :
    Calls Tryz.prog 156 #[.agg #[x1, x2, x3, x4, x5, x6]] w (FNewB w0 L (p1 * p1 + p2 * p2) (j1 + j1 + (j2 + j2) + 1)) := (vec_square (h.sub (fun t ht => by simp only [List.mem_cons, List.not_mem_nil, or_false] at ht; rcases ht with rfl | rfl; all_goals assumption)) h1 (sdum := ⟨#[]⟩)).mono (fun e w' hn => h.newR hn)

theorem FBag.vturned {w0 w : World} {L : List FE} {x1 x2 x3 x4 x5 x6 : Value} {j1 j2 : Nat} {p1 p2 : Rat} (h : FBag w0 w L) (hx1 : ⟨x1, x2, x3, p1, j1⟩ ∈ L) (hx2 : ⟨x4, x5, x6, p2, j2⟩ ∈ L)  :
    Calls Tryz.prog 153 #[.agg #[x1, x2, x3, x4, x5, x6]] w (VNewB w0 L p2 j2 (-p1) j1) := (vec_turnedBack (h.sub (fun t ht => by simp only [List.mem_cons, List.not_mem_nil, or_false] at ht; rcases ht with rfl | rfl; all_goals assumption)) (sdum := ⟨#[]⟩)).mono (fun e w' hn => h.newV hn)

theorem FBag.viszero {w0 w : World} {L : List FE} {x1 x2 x3 x4 x5 x6 : Value} {j1 j2 : Nat} {p1 p2 : Rat} (h : FBag w0 w L) (hx1 : ⟨x1, x2, x3, p1, j1⟩ ∈ L) (hx2 : ⟨x4, x5, x6, p2, j2⟩ ∈ L)  :
    Calls Tryz.prog 151 #[.agg #[x1, x2, x3, x4, x5, x6]] w (fun e w' => e = .returned (.bool (decide (p1 = 0 ∧ p2 = 0))) ∧ FBag w0 w' L) := (vec_isZero (h.sub (fun t ht => by simp only [List.mem_cons, List.not_mem_nil, or_false] at ht; rcases ht with rfl | rfl; all_goals assumption)) (sdum := ⟨#[]⟩)).mono (fun e w' hn => ⟨hn.1, h.below hn.2⟩)

theorem FBag.vspot {w0 w : World} {L : List FE} {x1 x2 x3 x4 x5 x6 : Value} {j1 j2 : Nat} {p1 p2 : Rat} (h : FBag w0 w L) (hx1 : ⟨x1, x2, x3, p1, j1⟩ ∈ L) (hx2 : ⟨x4, x5, x6, p2, j2⟩ ∈ L) (h1 : j1 ≤ 274877906944) (h2 : j2 ≤ 274877906944) :
    Calls Tryz.prog 67 #[.agg #[x1, x2, x3, x4, x5, x6]] w (fun e w' => (∃ s1 s2 : ByteArray, e = .returned (.agg #[.string s1, .string s2]) ∧ QText s1.data.toList p1 ∧ QText s2.data.toList p2) ∧ FBag w0 w' L) := (vec_spot (h.sub (fun t ht => by simp only [List.mem_cons, List.not_mem_nil, or_false] at ht; rcases ht with rfl | rfl; all_goals assumption)) h1 h2 (sdum := ⟨#[]⟩)).mono (fun e w' ⟨s1, s2, he, a1, a2, hb⟩ => ⟨⟨s1, s2, he, a1, a2⟩, h.below hb⟩)

theorem FBag.vof {w0 w : World} {L : List FE} {n : Nat} (s t : ByteArray) (h : FBag w0 w L) (hn : n ≤ 1073741824) (hs : s.size ≤ n) (ht : t.size ≤ n) :
    Calls Tryz.prog 66 #[.agg #[.string s, .string t]] w (fun e w' => ∃ p q, QOf s.data.toList p ∧ QOf t.data.toList q ∧ VNewB w0 L p (4 * n + 1) q (4 * n + 1) e w') :=
  (vec_of (xdum := .bool true) (h.sub (fun t ht => by cases ht)) hn hs ht).mono fun e w' ⟨p, q, h1, h2, hv⟩ => ⟨p, q, h1, h2, h.newV hv⟩

end Go.Proofs.YtgnmjaponiclhaaGreatDoor
