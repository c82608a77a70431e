/- package force: vectors. Written by tools/genforce.py. -/
import Derived.Test.YtgnmjaponiclhaaGreatDoorC33FVal
namespace Go.Proofs.YtgnmjaponiclhaaGreatDoor
open Go.RowKit
set_option linter.unusedVariables false
set_option linter.unusedSimpArgs false

/-- cells that nothing was laid in yet -/
theorem zeroVec_no : NoU64 #[.bool false, .slice none 0 0, .slice none 0 0, .bool false, .slice none 0 0, .slice none 0 0] := noU64_of (by simp)
theorem zeroSpot_no : NoU64 #[.string ⟨#[]⟩, .string ⟨#[]⟩] := noU64_of (by simp)
theorem zeroTotal_no : NoU64 #[.bool false, .slice none 0 0, .slice none 0 0, .bool false, .slice none 0 0, .slice none 0 0, .bool false, .slice none 0 0, .slice none 0 0] := noU64_of (by simp)
theorem Tryz.vecInfo : (Tryz.prog.info? 130).map (·.size) = some 6 := by kernel_rfl
theorem Tryz.totalInfo : (Tryz.prog.info? 132).map (·.size) = some 9 := by kernel_rfl


/-- what a function that answers a vector, a fraction, a place leaves -/
def VNew (w : World) (p : Rat) (j : Nat) (q : Rat) (k : Nat) (e : Ending) (w' : World) : Prop := ∃ x1 x2 x3 y1 y2 y3, e = .returned (.agg #[x1, x2, x3, y1, y2, y3]) ∧ FBag w w' [⟨x1, x2, x3, p, j⟩, ⟨y1, y2, y3, q, k⟩]
def RNew1 (w : World) (p : Rat) (j : Nat) (e : Ending) (w' : World) : Prop := ∃ x1 x2 x3, e = .returned (.agg #[x1, x2, x3]) ∧ FBag w w' [⟨x1, x2, x3, p, j⟩]
def SNew (w : World) (p q : Rat) (e : Ending) (w' : World) : Prop := ∃ s1 s2 : ByteArray, e = .returned (.agg #[.string s1, .string s2]) ∧ QText s1.data.toList p ∧ QText s2.data.toList q ∧ Below w.heap.size w w'
def BNew (w : World) (b : Bool) (e : Ending) (w' : World) : Prop := e = .returned (.bool b) ∧ Below w.heap.size w w'

set_option maxRecDepth 100000 in
set_option maxHeartbeats 4000000 in
theorem vec_plus {w : World} {x1 x2 x3 x4 x5 x6 y1 y2 y3 y4 y5 y6 : Value} {sdum : ByteArray} {j1 j2 k1 k2 : Nat} {p1 p2 q1 q2 : Rat} (h : FBag w w [⟨x1, x2, x3, p1, j1⟩, ⟨x4, x5, x6, p2, j2⟩, ⟨y1, y2, y3, q1, k1⟩, ⟨y4, y5, y6, q2, k2⟩]) (h1 : j1 + k1 < 68719476000) (h2 : j2 + k2 < 68719476000) :
    Calls Tryz.prog 145 #[.agg #[x1, x2, x3, x4, x5, x6], .agg #[y1, y2, y3, y4, y5, y6]] w (VNew w (p1 + q1) (j1 + k1 + 1) (p2 + q2) (j2 + k2 + 1)) := by
  obtain ⟨wA, hwA⟩ : ∃ wA, (((w.alloc (.cells #[x1, x2, x3, x4, x5, x6] 130)).alloc (.cells #[y1, y2, y3, y4, y5, y6] 130)).alloc (.cells #[.bool false, .slice none 0 0, .slice none 0 0, .bool false, .slice none 0 0, .slice none 0 0] 130)) = wA := ⟨_, rfl⟩
  have hbA : Below w.heap.size w wA := by rw [← hwA]; exact ((((Below.refl _ _).alloc (by first | exact Nat.le_refl _ | (simp only [World.size_alloc]; omega)) _).alloc (by first | exact Nat.le_refl _ | (simp only [World.size_alloc]; omega)) _).alloc (by first | exact Nat.le_refl _ | (simp only [World.size_alloc]; omega)) _)
  have hs0 : SB wA (w.heap.size) 130 #[x1, x2, x3, x4, x5, x6] := by rw [← hwA]; exact (((SB.new w _ _).alloc _).alloc _)
  have HS0 := Hid.intro hs0
  have lt0 := hs0.lt
  have K0_0 : Hid (wA.cell? ⟨w.heap.size, 0, none⟩ = some (x1)) := Hid.intro (hs0.cell 0)
  have K0_1 : Hid (wA.cell? ⟨w.heap.size, 1, none⟩ = some (x2)) := Hid.intro (hs0.cell 1)
  have K0_2 : Hid (wA.cell? ⟨w.heap.size, 2, none⟩ = some (x3)) := Hid.intro (hs0.cell 2)
  have K0_3 : Hid (wA.cell? ⟨w.heap.size, 3, none⟩ = some (x4)) := Hid.intro (hs0.cell 3)
  have K0_4 : Hid (wA.cell? ⟨w.heap.size, 4, none⟩ = some (x5)) := Hid.intro (hs0.cell 4)
  have K0_5 : Hid (wA.cell? ⟨w.heap.size, 5, none⟩ = some (x6)) := Hid.intro (hs0.cell 5)
  have hs1 : SB wA (w.heap.size + 1) 130 #[y1, y2, y3, y4, y5, y6] := by rw [← hwA]; exact ((SB.new2 w _ _ _ _).alloc _)
  have HS1 := Hid.intro hs1
  have lt1 := hs1.lt
  have K1_0 : Hid (wA.cell? ⟨w.heap.size + 1, 0, none⟩ = some (y1)) := Hid.intro (hs1.cell 0)
  have K1_1 : Hid (wA.cell? ⟨w.heap.size + 1, 1, none⟩ = some (y2)) := Hid.intro (hs1.cell 1)
  have K1_2 : Hid (wA.cell? ⟨w.heap.size + 1, 2, none⟩ = some (y3)) := Hid.intro (hs1.cell 2)
  have K1_3 : Hid (wA.cell? ⟨w.heap.size + 1, 3, none⟩ = some (y4)) := Hid.intro (hs1.cell 3)
  have K1_4 : Hid (wA.cell? ⟨w.heap.size + 1, 4, none⟩ = some (y5)) := Hid.intro (hs1.cell 4)
  have K1_5 : Hid (wA.cell? ⟨w.heap.size + 1, 5, none⟩ = some (y6)) := Hid.intro (hs1.cell 5)
  have hs2 : SB wA (w.heap.size + 1 + 1) 130 #[.bool false, .slice none 0 0, .slice none 0 0, .bool false, .slice none 0 0, .slice none 0 0] := by rw [← hwA]; exact (SB.new3 w _ _ _ _ _ _)
  have HS2 := Hid.intro hs2
  have lt2 := hs2.lt
  have K2_0 : Hid (wA.cell? ⟨w.heap.size + 1 + 1, 0, none⟩ = some (.bool false)) := Hid.intro (hs2.cell 0)
  have K2_1 : Hid (wA.cell? ⟨w.heap.size + 1 + 1, 1, none⟩ = some (.slice none 0 0)) := Hid.intro (hs2.cell 1)
  have K2_2 : Hid (wA.cell? ⟨w.heap.size + 1 + 1, 2, none⟩ = some (.slice none 0 0)) := Hid.intro (hs2.cell 2)
  have K2_3 : Hid (wA.cell? ⟨w.heap.size + 1 + 1, 3, none⟩ = some (.bool false)) := Hid.intro (hs2.cell 3)
  have K2_4 : Hid (wA.cell? ⟨w.heap.size + 1 + 1, 4, none⟩ = some (.slice none 0 0)) := Hid.intro (hs2.cell 4)
  have K2_5 : Hid (wA.cell? ⟨w.heap.size + 1 + 1, 5, none⟩ = some (.slice none 0 0)) := Hid.intro (hs2.cell 5)
  have ne01 : w.heap.size ≠ w.heap.size + 1 := by omega
  have ne02 : w.heap.size ≠ w.heap.size + 1 + 1 := by omega
  have ne10 : w.heap.size + 1 ≠ w.heap.size := by omega
  have ne12 : w.heap.size + 1 ≠ w.heap.size + 1 + 1 := by omega
  have ne20 : w.heap.size + 1 + 1 ≠ w.heap.size := by omega
  have ne21 : w.heap.size + 1 + 1 ≠ w.heap.size + 1 := by omega
  have HR := Hid.intro (h.below hbA).rebase
  have HGL := Hid.intro h.glob
  have HBA := Hid.intro hbA
  have HWA := Hid.intro hwA
  clear h hbA hwA hs0 hs1 hs2
  go_enter Tryz.func145, Tryz.ntmps145
  have c0_0 := (HR.out.base.cell (p := ⟨w.heap.size, 0, none⟩) lt0).trans K0_0.out
  have c0_1 := (HR.out.base.cell (p := ⟨w.heap.size, 1, none⟩) lt0).trans K0_1.out
  have c0_2 := (HR.out.base.cell (p := ⟨w.heap.size, 2, none⟩) lt0).trans K0_2.out
  have c0_3 := (HR.out.base.cell (p := ⟨w.heap.size, 3, none⟩) lt0).trans K0_3.out
  have c0_4 := (HR.out.base.cell (p := ⟨w.heap.size, 4, none⟩) lt0).trans K0_4.out
  have c0_5 := (HR.out.base.cell (p := ⟨w.heap.size, 5, none⟩) lt0).trans K0_5.out
  have c1_0 := (HR.out.base.cell (p := ⟨w.heap.size + 1, 0, none⟩) lt1).trans K1_0.out
  have c1_1 := (HR.out.base.cell (p := ⟨w.heap.size + 1, 1, none⟩) lt1).trans K1_1.out
  have c1_2 := (HR.out.base.cell (p := ⟨w.heap.size + 1, 2, none⟩) lt1).trans K1_2.out
  have c1_3 := (HR.out.base.cell (p := ⟨w.heap.size + 1, 3, none⟩) lt1).trans K1_3.out
  have c1_4 := (HR.out.base.cell (p := ⟨w.heap.size + 1, 4, none⟩) lt1).trans K1_4.out
  have c1_5 := (HR.out.base.cell (p := ⟨w.heap.size + 1, 5, none⟩) lt1).trans K1_5.out
  have c2_0 := (HR.out.base.cell (p := ⟨w.heap.size + 1 + 1, 0, none⟩) lt2).trans K2_0.out
  have c2_1 := (HR.out.base.cell (p := ⟨w.heap.size + 1 + 1, 1, none⟩) lt2).trans K2_1.out
  have c2_2 := (HR.out.base.cell (p := ⟨w.heap.size + 1 + 1, 2, none⟩) lt2).trans K2_2.out
  have c2_3 := (HR.out.base.cell (p := ⟨w.heap.size + 1 + 1, 3, none⟩) lt2).trans K2_3.out
  have c2_4 := (HR.out.base.cell (p := ⟨w.heap.size + 1 + 1, 4, none⟩) lt2).trans K2_4.out
  have c2_5 := (HR.out.base.cell (p := ⟨w.heap.size + 1 + 1, 5, none⟩) lt2).trans K2_5.out
  have hsr := HS2.out.below HR.out.base HS2.out.lt
  have fr0 := hsr.free 0
  have fr1 := hsr.free 1
  have fr2 := hsr.free 2
  have fr3 := hsr.free 3
  have fr4 := hsr.free 4
  have fr5 := hsr.free 5
  clear hsr
  go_wp2_with fail
  rw [show (((w.alloc (.cells #[x1, x2, x3, x4, x5, x6] 130)).alloc (.cells #[y1, y2, y3, y4, y5, y6] 130)).alloc (.cells #[.bool false, .slice none 0 0, .slice none 0 0, .bool false, .slice none 0 0, .slice none 0 0] 130)) = wA from HWA.out]
  go_region_held3
    (fun w' => w'.cell? ⟨w.heap.size, 0, none⟩ = some (x1) ∧ w'.cell? ⟨w.heap.size, 1, none⟩ = some (x2) ∧ w'.cell? ⟨w.heap.size, 2, none⟩ = some (x3) ∧ w'.cell? ⟨w.heap.size, 3, none⟩ = some (x4) ∧ w'.cell? ⟨w.heap.size, 4, none⟩ = some (x5) ∧ w'.cell? ⟨w.heap.size, 5, none⟩ = some (x6) ∧ w'.cell? ⟨w.heap.size + 1, 0, none⟩ = some (y1) ∧ w'.cell? ⟨w.heap.size + 1, 1, none⟩ = some (y2) ∧ w'.cell? ⟨w.heap.size + 1, 2, none⟩ = some (y3) ∧ w'.cell? ⟨w.heap.size + 1, 3, none⟩ = some (y4) ∧ w'.cell? ⟨w.heap.size + 1, 4, none⟩ = some (y5) ∧ w'.cell? ⟨w.heap.size + 1, 5, none⟩ = some (y6)) ((first | (simp [*]; done) | go_keep))
    (first
    | (go_at_call_of 146 x1
       apply Calls.mono
       apply FBag.plus (w0 := wA)
       (focus (first | exact HR.out | exact HR.out.drew | exact HR.out.drew.drew))
       (focus (repeat (first | exact List.Mem.head _ | apply List.Mem.tail)))
       (focus (repeat (first | exact List.Mem.head _ | apply List.Mem.tail)))
       omega
       rintro e wn ⟨z1, z2, z3, rfl, hb⟩
       clear HR
       have HR := Hid.intro hb
       clear hb
       have o9 := (HR.out.ts _ (List.Mem.head _)).1.one
       have stz1 := store_one Tryz.prog o9.1
       have stz2 := store_one Tryz.prog o9.2.1
       have stz3 := store_one Tryz.prog o9.2.2
       clear o9
       have c0_0 := (HR.out.base.cell (p := ⟨w.heap.size, 0, none⟩) lt0).trans K0_0.out
       have c0_1 := (HR.out.base.cell (p := ⟨w.heap.size, 1, none⟩) lt0).trans K0_1.out
       have c0_2 := (HR.out.base.cell (p := ⟨w.heap.size, 2, none⟩) lt0).trans K0_2.out
       have c0_3 := (HR.out.base.cell (p := ⟨w.heap.size, 3, none⟩) lt0).trans K0_3.out
       have c0_4 := (HR.out.base.cell (p := ⟨w.heap.size, 4, none⟩) lt0).trans K0_4.out
       have c0_5 := (HR.out.base.cell (p := ⟨w.heap.size, 5, none⟩) lt0).trans K0_5.out
       have c1_0 := (HR.out.base.cell (p := ⟨w.heap.size + 1, 0, none⟩) lt1).trans K1_0.out
       have c1_1 := (HR.out.base.cell (p := ⟨w.heap.size + 1, 1, none⟩) lt1).trans K1_1.out
       have c1_2 := (HR.out.base.cell (p := ⟨w.heap.size + 1, 2, none⟩) lt1).trans K1_2.out
       have c1_3 := (HR.out.base.cell (p := ⟨w.heap.size + 1, 3, none⟩) lt1).trans K1_3.out
       have c1_4 := (HR.out.base.cell (p := ⟨w.heap.size + 1, 4, none⟩) lt1).trans K1_4.out
       have c1_5 := (HR.out.base.cell (p := ⟨w.heap.size + 1, 5, none⟩) lt1).trans K1_5.out
       have c2_0 := (HR.out.base.cell (p := ⟨w.heap.size + 1 + 1, 0, none⟩) lt2).trans K2_0.out
       have c2_1 := (HR.out.base.cell (p := ⟨w.heap.size + 1 + 1, 1, none⟩) lt2).trans K2_1.out
       have c2_2 := (HR.out.base.cell (p := ⟨w.heap.size + 1 + 1, 2, none⟩) lt2).trans K2_2.out
       have c2_3 := (HR.out.base.cell (p := ⟨w.heap.size + 1 + 1, 3, none⟩) lt2).trans K2_3.out
       have c2_4 := (HR.out.base.cell (p := ⟨w.heap.size + 1 + 1, 4, none⟩) lt2).trans K2_4.out
       have c2_5 := (HR.out.base.cell (p := ⟨w.heap.size + 1 + 1, 5, none⟩) lt2).trans K2_5.out
       have hsr := HS2.out.below HR.out.base HS2.out.lt
       have fr0 := hsr.free 0
       have fr1 := hsr.free 1
       have fr2 := hsr.free 2
       have fr3 := hsr.free 3
       have fr4 := hsr.free 4
       have fr5 := hsr.free 5
       clear hsr
       skip)
    | (go_at_call_of 146 x4
       apply Calls.mono
       apply FBag.plus (w0 := wA)
       (focus (first | exact HR.out | exact HR.out.drew | exact HR.out.drew.drew))
       (focus (repeat (first | exact List.Mem.head _ | apply List.Mem.tail)))
       (focus (repeat (first | exact List.Mem.head _ | apply List.Mem.tail)))
       omega
       rintro e wn ⟨z4, z5, z6, rfl, hb⟩
       clear HR
       have HR := Hid.intro hb
       clear hb
       have o9 := (HR.out.ts _ (List.Mem.head _)).1.one
       have stz4 := store_one Tryz.prog o9.1
       have stz5 := store_one Tryz.prog o9.2.1
       have stz6 := store_one Tryz.prog o9.2.2
       clear o9
       have c0_0 := (HR.out.base.cell (p := ⟨w.heap.size, 0, none⟩) lt0).trans K0_0.out
       have c0_1 := (HR.out.base.cell (p := ⟨w.heap.size, 1, none⟩) lt0).trans K0_1.out
       have c0_2 := (HR.out.base.cell (p := ⟨w.heap.size, 2, none⟩) lt0).trans K0_2.out
       have c0_3 := (HR.out.base.cell (p := ⟨w.heap.size, 3, none⟩) lt0).trans K0_3.out
       have c0_4 := (HR.out.base.cell (p := ⟨w.heap.size, 4, none⟩) lt0).trans K0_4.out
       have c0_5 := (HR.out.base.cell (p := ⟨w.heap.size, 5, none⟩) lt0).trans K0_5.out
       have c1_0 := (HR.out.base.cell (p := ⟨w.heap.size + 1, 0, none⟩) lt1).trans K1_0.out
       have c1_1 := (HR.out.base.cell (p := ⟨w.heap.size + 1, 1, none⟩) lt1).trans K1_1.out
       have c1_2 := (HR.out.base.cell (p := ⟨w.heap.size + 1, 2, none⟩) lt1).trans K1_2.out
       have c1_3 := (HR.out.base.cell (p := ⟨w.heap.size + 1, 3, none⟩) lt1).trans K1_3.out
       have c1_4 := (HR.out.base.cell (p := ⟨w.heap.size + 1, 4, none⟩) lt1).trans K1_4.out
       have c1_5 := (HR.out.base.cell (p := ⟨w.heap.size + 1, 5, none⟩) lt1).trans K1_5.out
       have c2_0 := (HR.out.base.cell (p := ⟨w.heap.size + 1 + 1, 0, none⟩) lt2).trans K2_0.out
       have c2_1 := (HR.out.base.cell (p := ⟨w.heap.size + 1 + 1, 1, none⟩) lt2).trans K2_1.out
       have c2_2 := (HR.out.base.cell (p := ⟨w.heap.size + 1 + 1, 2, none⟩) lt2).trans K2_2.out
       have c2_3 := (HR.out.base.cell (p := ⟨w.heap.size + 1 + 1, 3, none⟩) lt2).trans K2_3.out
       have c2_4 := (HR.out.base.cell (p := ⟨w.heap.size + 1 + 1, 4, none⟩) lt2).trans K2_4.out
       have c2_5 := (HR.out.base.cell (p := ⟨w.heap.size + 1 + 1, 5, none⟩) lt2).trans K2_5.out
       have hsr := HS2.out.below HR.out.base HS2.out.lt
       have fr0 := hsr.free 0
       have fr1 := hsr.free 1
       have fr2 := hsr.free 2
       have fr3 := hsr.free 3
       have fr4 := hsr.free 4
       have fr5 := hsr.free 5
       clear hsr
       skip)
    )
  all_goals
    go_wp2
    have hs9 := HS2.out.below HR.out.base HS2.out.lt
    refine bodyPost_ret (v := .agg #[z1, z2, z3, z4, z5, z6]) (results_cell_row rfl _ _ (w.heap.size + 1 + 1) 130 #[z1, z2, z3, z4, z5, z6] (0, 0) _ rfl ((((((hs9.set 0 _).set 1 _).set 2 _).set 3 _).set 4 _).set 5 _) Tryz.underlying130 rfl Tryz.vecInfo) rfl ?_
    have ho := (((((((Only.refl (w.heap.size + 1 + 1) wn).setCell 0 (z1)).setCell 1 (z2)).setCell 2 (z3)).setCell 3 (z4)).setCell 4 (z5)).setCell 5 (z6))
    refine ⟨_, _, _, _, _, _, rfl, ((HR.out.from HBA.out HGL.out ?_).only ho hs9 zeroVec_no (by omega))⟩
    intro t ht
    simp only [List.mem_cons, List.not_mem_nil, or_false] at ht
    rcases ht with rfl | rfl
    · exact ⟨_, (by repeat (first | exact List.Mem.head _ | apply List.Mem.tail)), Nat.le_refl _⟩
    · exact ⟨_, (by repeat (first | exact List.Mem.head _ | apply List.Mem.tail)), Nat.le_refl _⟩

set_option maxRecDepth 100000 in
set_option maxHeartbeats 4000000 in
theorem vec_minus {w : World} {x1 x2 x3 x4 x5 x6 y1 y2 y3 y4 y5 y6 : Value} {sdum : ByteArray} {j1 j2 k1 k2 : Nat} {p1 p2 q1 q2 : Rat} (h : FBag w w [⟨x1, x2, x3, p1, j1⟩, ⟨x4, x5, x6, p2, j2⟩, ⟨y1, y2, y3, q1, k1⟩, ⟨y4, y5, y6, q2, k2⟩]) (h1 : j1 + k1 < 68719476000) (h2 : j2 + k2 < 68719476000) :
    Calls Tryz.prog 147 #[.agg #[x1, x2, x3, x4, x5, x6], .agg #[y1, y2, y3, y4, y5, y6]] w (VNew w (p1 - q1) (j1 + k1 + 1) (p2 - q2) (j2 + k2 + 1)) := by
  obtain ⟨wA, hwA⟩ : ∃ wA, (((w.alloc (.cells #[x1, x2, x3, x4, x5, x6] 130)).alloc (.cells #[y1, y2, y3, y4, y5, y6] 130)).alloc (.cells #[.bool false, .slice none 0 0, .slice none 0 0, .bool false, .slice none 0 0, .slice none 0 0] 130)) = wA := ⟨_, rfl⟩
  have hbA : Below w.heap.size w wA := by rw [← hwA]; exact ((((Below.refl _ _).alloc (by first | exact Nat.le_refl _ | (simp only [World.size_alloc]; omega)) _).alloc (by first | exact Nat.le_refl _ | (simp only [World.size_alloc]; omega)) _).alloc (by first | exact Nat.le_refl _ | (simp only [World.size_alloc]; omega)) _)
  have hs0 : SB wA (w.heap.size) 130 #[x1, x2, x3, x4, x5, x6] := by rw [← hwA]; exact (((SB.new w _ _).alloc _).alloc _)
  have HS0 := Hid.intro hs0
  have lt0 := hs0.lt
  have K0_0 : Hid (wA.cell? ⟨w.heap.size, 0, none⟩ = some (x1)) := Hid.intro (hs0.cell 0)
  have K0_1 : Hid (wA.cell? ⟨w.heap.size, 1, none⟩ = some (x2)) := Hid.intro (hs0.cell 1)
  have K0_2 : Hid (wA.cell? ⟨w.heap.size, 2, none⟩ = some (x3)) := Hid.intro (hs0.cell 2)
  have K0_3 : Hid (wA.cell? ⟨w.heap.size, 3, none⟩ = some (x4)) := Hid.intro (hs0.cell 3)
  have K0_4 : Hid (wA.cell? ⟨w.heap.size, 4, none⟩ = some (x5)) := Hid.intro (hs0.cell 4)
  have K0_5 : Hid (wA.cell? ⟨w.heap.size, 5, none⟩ = some (x6)) := Hid.intro (hs0.cell 5)
  have hs1 : SB wA (w.heap.size + 1) 130 #[y1, y2, y3, y4, y5, y6] := by rw [← hwA]; exact ((SB.new2 w _ _ _ _).alloc _)
  have HS1 := Hid.intro hs1
  have lt1 := hs1.lt
  have K1_0 : Hid (wA.cell? ⟨w.heap.size + 1, 0, none⟩ = some (y1)) := Hid.intro (hs1.cell 0)
  have K1_1 : Hid (wA.cell? ⟨w.heap.size + 1, 1, none⟩ = some (y2)) := Hid.intro (hs1.cell 1)
  have K1_2 : Hid (wA.cell? ⟨w.heap.size + 1, 2, none⟩ = some (y3)) := Hid.intro (hs1.cell 2)
  have K1_3 : Hid (wA.cell? ⟨w.heap.size + 1, 3, none⟩ = some (y4)) := Hid.intro (hs1.cell 3)
  have K1_4 : Hid (wA.cell? ⟨w.heap.size + 1, 4, none⟩ = some (y5)) := Hid.intro (hs1.cell 4)
  have K1_5 : Hid (wA.cell? ⟨w.heap.size + 1, 5, none⟩ = some (y6)) := Hid.intro (hs1.cell 5)
  have hs2 : SB wA (w.heap.size + 1 + 1) 130 #[.bool false, .slice none 0 0, .slice none 0 0, .bool false, .slice none 0 0, .slice none 0 0] := by rw [← hwA]; exact (SB.new3 w _ _ _ _ _ _)
  have HS2 := Hid.intro hs2
  have lt2 := hs2.lt
  have K2_0 : Hid (wA.cell? ⟨w.heap.size + 1 + 1, 0, none⟩ = some (.bool false)) := Hid.intro (hs2.cell 0)
  have K2_1 : Hid (wA.cell? ⟨w.heap.size + 1 + 1, 1, none⟩ = some (.slice none 0 0)) := Hid.intro (hs2.cell 1)
  have K2_2 : Hid (wA.cell? ⟨w.heap.size + 1 + 1, 2, none⟩ = some (.slice none 0 0)) := Hid.intro (hs2.cell 2)
  have K2_3 : Hid (wA.cell? ⟨w.heap.size + 1 + 1, 3, none⟩ = some (.bool false)) := Hid.intro (hs2.cell 3)
  have K2_4 : Hid (wA.cell? ⟨w.heap.size + 1 + 1, 4, none⟩ = some (.slice none 0 0)) := Hid.intro (hs2.cell 4)
  have K2_5 : Hid (wA.cell? ⟨w.heap.size + 1 + 1, 5, none⟩ = some (.slice none 0 0)) := Hid.intro (hs2.cell 5)
  have ne01 : w.heap.size ≠ w.heap.size + 1 := by omega
  have ne02 : w.heap.size ≠ w.heap.size + 1 + 1 := by omega
  have ne10 : w.heap.size + 1 ≠ w.heap.size := by omega
  have ne12 : w.heap.size + 1 ≠ w.heap.size + 1 + 1 := by omega
  have ne20 : w.heap.size + 1 + 1 ≠ w.heap.size := by omega
  have ne21 : w.heap.size + 1 + 1 ≠ w.heap.size + 1 := by omega
  have HR := Hid.intro (h.below hbA).rebase
  have HGL := Hid.intro h.glob
  have HBA := Hid.intro hbA
  have HWA := Hid.intro hwA
  clear h hbA hwA hs0 hs1 hs2
  go_enter Tryz.func147, Tryz.ntmps147
  have c0_0 := (HR.out.base.cell (p := ⟨w.heap.size, 0, none⟩) lt0).trans K0_0.out
  have c0_1 := (HR.out.base.cell (p := ⟨w.heap.size, 1, none⟩) lt0).trans K0_1.out
  have c0_2 := (HR.out.base.cell (p := ⟨w.heap.size, 2, none⟩) lt0).trans K0_2.out
  have c0_3 := (HR.out.base.cell (p := ⟨w.heap.size, 3, none⟩) lt0).trans K0_3.out
  have c0_4 := (HR.out.base.cell (p := ⟨w.heap.size, 4, none⟩) lt0).trans K0_4.out
  have c0_5 := (HR.out.base.cell (p := ⟨w.heap.size, 5, none⟩) lt0).trans K0_5.out
  have c1_0 := (HR.out.base.cell (p := ⟨w.heap.size + 1, 0, none⟩) lt1).trans K1_0.out
  have c1_1 := (HR.out.base.cell (p := ⟨w.heap.size + 1, 1, none⟩) lt1).trans K1_1.out
  have c1_2 := (HR.out.base.cell (p := ⟨w.heap.size + 1, 2, none⟩) lt1).trans K1_2.out
  have c1_3 := (HR.out.base.cell (p := ⟨w.heap.size + 1, 3, none⟩) lt1).trans K1_3.out
  have c1_4 := (HR.out.base.cell (p := ⟨w.heap.size + 1, 4, none⟩) lt1).trans K1_4.out
  have c1_5 := (HR.out.base.cell (p := ⟨w.heap.size + 1, 5, none⟩) lt1).trans K1_5.out
  have c2_0 := (HR.out.base.cell (p := ⟨w.heap.size + 1 + 1, 0, none⟩) lt2).trans K2_0.out
  have c2_1 := (HR.out.base.cell (p := ⟨w.heap.size + 1 + 1, 1, none⟩) lt2).trans K2_1.out
  have c2_2 := (HR.out.base.cell (p := ⟨w.heap.size + 1 + 1, 2, none⟩) lt2).trans K2_2.out
  have c2_3 := (HR.out.base.cell (p := ⟨w.heap.size + 1 + 1, 3, none⟩) lt2).trans K2_3.out
  have c2_4 := (HR.out.base.cell (p := ⟨w.heap.size + 1 + 1, 4, none⟩) lt2).trans K2_4.out
  have c2_5 := (HR.out.base.cell (p := ⟨w.heap.size + 1 + 1, 5, none⟩) lt2).trans K2_5.out
  have hsr := HS2.out.below HR.out.base HS2.out.lt
  have fr0 := hsr.free 0
  have fr1 := hsr.free 1
  have fr2 := hsr.free 2
  have fr3 := hsr.free 3
  have fr4 := hsr.free 4
  have fr5 := hsr.free 5
  clear hsr
  go_wp2_with fail
  rw [show (((w.alloc (.cells #[x1, x2, x3, x4, x5, x6] 130)).alloc (.cells #[y1, y2, y3, y4, y5, y6] 130)).alloc (.cells #[.bool false, .slice none 0 0, .slice none 0 0, .bool false, .slice none 0 0, .slice none 0 0] 130)) = wA from HWA.out]
  go_region_held3
    (fun w' => w'.cell? ⟨w.heap.size, 0, none⟩ = some (x1) ∧ w'.cell? ⟨w.heap.size, 1, none⟩ = some (x2) ∧ w'.cell? ⟨w.heap.size, 2, none⟩ = some (x3) ∧ w'.cell? ⟨w.heap.size, 3, none⟩ = some (x4) ∧ w'.cell? ⟨w.heap.size, 4, none⟩ = some (x5) ∧ w'.cell? ⟨w.heap.size, 5, none⟩ = some (x6) ∧ w'.cell? ⟨w.heap.size + 1, 0, none⟩ = some (y1) ∧ w'.cell? ⟨w.heap.size + 1, 1, none⟩ = some (y2) ∧ w'.cell? ⟨w.heap.size + 1, 2, none⟩ = some (y3) ∧ w'.cell? ⟨w.heap.size + 1, 3, none⟩ = some (y4) ∧ w'.cell? ⟨w.heap.size + 1, 4, none⟩ = some (y5) ∧ w'.cell? ⟨w.heap.size + 1, 5, none⟩ = some (y6)) ((first | (simp [*]; done) | go_keep))
    (first
    | (go_at_call_of 205 x1
       apply Calls.mono
       apply FBag.minus (w0 := wA)
       (focus (first | exact HR.out | exact HR.out.drew | exact HR.out.drew.drew))
       (focus (repeat (first | exact List.Mem.head _ | apply List.Mem.tail)))
       (focus (repeat (first | exact List.Mem.head _ | apply List.Mem.tail)))
       omega
       rintro e wn ⟨z1, z2, z3, rfl, hb⟩
       clear HR
       have HR := Hid.intro hb
       clear hb
       have o9 := (HR.out.ts _ (List.Mem.head _)).1.one
       have stz1 := store_one Tryz.prog o9.1
       have stz2 := store_one Tryz.prog o9.2.1
       have stz3 := store_one Tryz.prog o9.2.2
       clear o9
       have c0_0 := (HR.out.base.cell (p := ⟨w.heap.size, 0, none⟩) lt0).trans K0_0.out
       have c0_1 := (HR.out.base.cell (p := ⟨w.heap.size, 1, none⟩) lt0).trans K0_1.out
       have c0_2 := (HR.out.base.cell (p := ⟨w.heap.size, 2, none⟩) lt0).trans K0_2.out
       have c0_3 := (HR.out.base.cell (p := ⟨w.heap.size, 3, none⟩) lt0).trans K0_3.out
       have c0_4 := (HR.out.base.cell (p := ⟨w.heap.size, 4, none⟩) lt0).trans K0_4.out
       have c0_5 := (HR.out.base.cell (p := ⟨w.heap.size, 5, none⟩) lt0).trans K0_5.out
       have c1_0 := (HR.out.base.cell (p := ⟨w.heap.size + 1, 0, none⟩) lt1).trans K1_0.out
       have c1_1 := (HR.out.base.cell (p := ⟨w.heap.size + 1, 1, none⟩) lt1).trans K1_1.out
       have c1_2 := (HR.out.base.cell (p := ⟨w.heap.size + 1, 2, none⟩) lt1).trans K1_2.out
       have c1_3 := (HR.out.base.cell (p := ⟨w.heap.size + 1, 3, none⟩) lt1).trans K1_3.out
       have c1_4 := (HR.out.base.cell (p := ⟨w.heap.size + 1, 4, none⟩) lt1).trans K1_4.out
       have c1_5 := (HR.out.base.cell (p := ⟨w.heap.size + 1, 5, none⟩) lt1).trans K1_5.out
       have c2_0 := (HR.out.base.cell (p := ⟨w.heap.size + 1 + 1, 0, none⟩) lt2).trans K2_0.out
       have c2_1 := (HR.out.base.cell (p := ⟨w.heap.size + 1 + 1, 1, none⟩) lt2).trans K2_1.out
       have c2_2 := (HR.out.base.cell (p := ⟨w.heap.size + 1 + 1, 2, none⟩) lt2).trans K2_2.out
       have c2_3 := (HR.out.base.cell (p := ⟨w.heap.size + 1 + 1, 3, none⟩) lt2).trans K2_3.out
       have c2_4 := (HR.out.base.cell (p := ⟨w.heap.size + 1 + 1, 4, none⟩) lt2).trans K2_4.out
       have c2_5 := (HR.out.base.cell (p := ⟨w.heap.size + 1 + 1, 5, none⟩) lt2).trans K2_5.out
       have hsr := HS2.out.below HR.out.base HS2.out.lt
       have fr0 := hsr.free 0
       have fr1 := hsr.free 1
       have fr2 := hsr.free 2
       have fr3 := hsr.free 3
       have fr4 := hsr.free 4
       have fr5 := hsr.free 5
       clear hsr
       skip)
    | (go_at_call_of 205 x4
       apply Calls.mono
       apply FBag.minus (w0 := wA)
       (focus (first | exact HR.out | exact HR.out.drew | exact HR.out.drew.drew))
       (focus (repeat (first | exact List.Mem.head _ | apply List.Mem.tail)))
       (focus (repeat (first | exact List.Mem.head _ | apply List.Mem.tail)))
       omega
       rintro e wn ⟨z4, z5, z6, rfl, hb⟩
       clear HR
       have HR := Hid.intro hb
       clear hb
       have o9 := (HR.out.ts _ (List.Mem.head _)).1.one
       have stz4 := store_one Tryz.prog o9.1
       have stz5 := store_one Tryz.prog o9.2.1
       have stz6 := store_one Tryz.prog o9.2.2
       clear o9
       have c0_0 := (HR.out.base.cell (p := ⟨w.heap.size, 0, none⟩) lt0).trans K0_0.out
       have c0_1 := (HR.out.base.cell (p := ⟨w.heap.size, 1, none⟩) lt0).trans K0_1.out
       have c0_2 := (HR.out.base.cell (p := ⟨w.heap.size, 2, none⟩) lt0).trans K0_2.out
       have c0_3 := (HR.out.base.cell (p := ⟨w.heap.size, 3, none⟩) lt0).trans K0_3.out
       have c0_4 := (HR.out.base.cell (p := ⟨w.heap.size, 4, none⟩) lt0).trans K0_4.out
       have c0_5 := (HR.out.base.cell (p := ⟨w.heap.size, 5, none⟩) lt0).trans K0_5.out
       have c1_0 := (HR.out.base.cell (p := ⟨w.heap.size + 1, 0, none⟩) lt1).trans K1_0.out
       have c1_1 := (HR.out.base.cell (p := ⟨w.heap.size + 1, 1, none⟩) lt1).trans K1_1.out
       have c1_2 := (HR.out.base.cell (p := ⟨w.heap.size + 1, 2, none⟩) lt1).trans K1_2.out
       have c1_3 := (HR.out.base.cell (p := ⟨w.heap.size + 1, 3, none⟩) lt1).trans K1_3.out
       have c1_4 := (HR.out.base.cell (p := ⟨w.heap.size + 1, 4, none⟩) lt1).trans K1_4.out
       have c1_5 := (HR.out.base.cell (p := ⟨w.heap.size + 1, 5, none⟩) lt1).trans K1_5.out
       have c2_0 := (HR.out.base.cell (p := ⟨w.heap.size + 1 + 1, 0, none⟩) lt2).trans K2_0.out
       have c2_1 := (HR.out.base.cell (p := ⟨w.heap.size + 1 + 1, 1, none⟩) lt2).trans K2_1.out
       have c2_2 := (HR.out.base.cell (p := ⟨w.heap.size + 1 + 1, 2, none⟩) lt2).trans K2_2.out
       have c2_3 := (HR.out.base.cell (p := ⟨w.heap.size + 1 + 1, 3, none⟩) lt2).trans K2_3.out
       have c2_4 := (HR.out.base.cell (p := ⟨w.heap.size + 1 + 1, 4, none⟩) lt2).trans K2_4.out
       have c2_5 := (HR.out.base.cell (p := ⟨w.heap.size + 1 + 1, 5, none⟩) lt2).trans K2_5.out
       have hsr := HS2.out.below HR.out.base HS2.out.lt
       have fr0 := hsr.free 0
       have fr1 := hsr.free 1
       have fr2 := hsr.free 2
       have fr3 := hsr.free 3
       have fr4 := hsr.free 4
       have fr5 := hsr.free 5
       clear hsr
       skip)
    )
  all_goals
    go_wp2
    have hs9 := HS2.out.below HR.out.base HS2.out.lt
    refine bodyPost_ret (v := .agg #[z1, z2, z3, z4, z5, z6]) (results_cell_row rfl _ _ (w.heap.size + 1 + 1) 130 #[z1, z2, z3, z4, z5, z6] (0, 0) _ rfl ((((((hs9.set 0 _).set 1 _).set 2 _).set 3 _).set 4 _).set 5 _) Tryz.underlying130 rfl Tryz.vecInfo) rfl ?_
    have ho := (((((((Only.refl (w.heap.size + 1 + 1) wn).setCell 0 (z1)).setCell 1 (z2)).setCell 2 (z3)).setCell 3 (z4)).setCell 4 (z5)).setCell 5 (z6))
    refine ⟨_, _, _, _, _, _, rfl, ((HR.out.from HBA.out HGL.out ?_).only ho hs9 zeroVec_no (by omega))⟩
    intro t ht
    simp only [List.mem_cons, List.not_mem_nil, or_false] at ht
    rcases ht with rfl | rfl
    · exact ⟨_, (by repeat (first | exact List.Mem.head _ | apply List.Mem.tail)), Nat.le_refl _⟩
    · exact ⟨_, (by repeat (first | exact List.Mem.head _ | apply List.Mem.tail)), Nat.le_refl _⟩

set_option maxRecDepth 100000 in
set_option maxHeartbeats 4000000 in
theorem vec_times {w : World} {x1 x2 x3 x4 x5 x6 y1 y2 y3 : Value} {sdum : ByteArray} {j1 j2 k1 : Nat} {p1 p2 q1 : Rat} (h : FBag w w [⟨x1, x2, x3, p1, j1⟩, ⟨x4, x5, x6, p2, j2⟩, ⟨y1, y2, y3, q1, k1⟩]) (h1 : j1 + k1 < 68719476000) (h2 : j2 + k1 < 68719476000) :
    Calls Tryz.prog 154 #[.agg #[x1, x2, x3, x4, x5, x6], .agg #[y1, y2, y3]] w (VNew w (p1 * q1) (j1 + k1) (p2 * q1) (j2 + k1)) := by
  obtain ⟨wA, hwA⟩ : ∃ wA, (((w.alloc (.cells #[x1, x2, x3, x4, x5, x6] 130)).alloc (.cells #[y1, y2, y3] 128)).alloc (.cells #[.bool false, .slice none 0 0, .slice none 0 0, .bool false, .slice none 0 0, .slice none 0 0] 130)) = wA := ⟨_, rfl⟩
  have hbA : Below w.heap.size w wA := by rw [← hwA]; exact ((((Below.refl _ _).alloc (by first | exact Nat.le_refl _ | (simp only [World.size_alloc]; omega)) _).alloc (by first | exact Nat.le_refl _ | (simp only [World.size_alloc]; omega)) _).alloc (by first | exact Nat.le_refl _ | (simp only [World.size_alloc]; omega)) _)
  have hs0 : SB wA (w.heap.size) 130 #[x1, x2, x3, x4, x5, x6] := by rw [← hwA]; exact (((SB.new w _ _).alloc _).alloc _)
  have HS0 := Hid.intro hs0
  have lt0 := hs0.lt
  have K0_0 : Hid (wA.cell? ⟨w.heap.size, 0, none⟩ = some (x1)) := Hid.intro (hs0.cell 0)
  have K0_1 : Hid (wA.cell? ⟨w.heap.size, 1, none⟩ = some (x2)) := Hid.intro (hs0.cell 1)
  have K0_2 : Hid (wA.cell? ⟨w.heap.size, 2, none⟩ = some (x3)) := Hid.intro (hs0.cell 2)
  have K0_3 : Hid (wA.cell? ⟨w.heap.size, 3, none⟩ = some (x4)) := Hid.intro (hs0.cell 3)
  have K0_4 : Hid (wA.cell? ⟨w.heap.size, 4, none⟩ = some (x5)) := Hid.intro (hs0.cell 4)
  have K0_5 : Hid (wA.cell? ⟨w.heap.size, 5, none⟩ = some (x6)) := Hid.intro (hs0.cell 5)
  have hs1 : SB wA (w.heap.size + 1) 128 #[y1, y2, y3] := by rw [← hwA]; exact ((SB.new2 w _ _ _ _).alloc _)
  have HS1 := Hid.intro hs1
  have lt1 := hs1.lt
  have K1_0 : Hid (wA.cell? ⟨w.heap.size + 1, 0, none⟩ = some (y1)) := Hid.intro (hs1.cell 0)
  have K1_1 : Hid (wA.cell? ⟨w.heap.size + 1, 1, none⟩ = some (y2)) := Hid.intro (hs1.cell 1)
  have K1_2 : Hid (wA.cell? ⟨w.heap.size + 1, 2, none⟩ = some (y3)) := Hid.intro (hs1.cell 2)
  have hs2 : SB wA (w.heap.size + 1 + 1) 130 #[.bool false, .slice none 0 0, .slice none 0 0, .bool false, .slice none 0 0, .slice none 0 0] := by rw [← hwA]; exact (SB.new3 w _ _ _ _ _ _)
  have HS2 := Hid.intro hs2
  have lt2 := hs2.lt
  have K2_0 : Hid (wA.cell? ⟨w.heap.size + 1 + 1, 0, none⟩ = some (.bool false)) := Hid.intro (hs2.cell 0)
  have K2_1 : Hid (wA.cell? ⟨w.heap.size + 1 + 1, 1, none⟩ = some (.slice none 0 0)) := Hid.intro (hs2.cell 1)
  have K2_2 : Hid (wA.cell? ⟨w.heap.size + 1 + 1, 2, none⟩ = some (.slice none 0 0)) := Hid.intro (hs2.cell 2)
  have K2_3 : Hid (wA.cell? ⟨w.heap.size + 1 + 1, 3, none⟩ = some (.bool false)) := Hid.intro (hs2.cell 3)
  have K2_4 : Hid (wA.cell? ⟨w.heap.size + 1 + 1, 4, none⟩ = some (.slice none 0 0)) := Hid.intro (hs2.cell 4)
  have K2_5 : Hid (wA.cell? ⟨w.heap.size + 1 + 1, 5, none⟩ = some (.slice none 0 0)) := Hid.intro (hs2.cell 5)
  have ne01 : w.heap.size ≠ w.heap.size + 1 := by omega
  have ne02 : w.heap.size ≠ w.heap.size + 1 + 1 := by omega
  have ne10 : w.heap.size + 1 ≠ w.heap.size := by omega
  have ne12 : w.heap.size + 1 ≠ w.heap.size + 1 + 1 := by omega
  have ne20 : w.heap.size + 1 + 1 ≠ w.heap.size := by omega
  have ne21 : w.heap.size + 1 + 1 ≠ w.heap.size + 1 := by omega
  have HR := Hid.intro (h.below hbA).rebase
  have HGL := Hid.intro h.glob
  have HBA := Hid.intro hbA
  have HWA := Hid.intro hwA
  clear h hbA hwA hs0 hs1 hs2
  go_enter Tryz.func154, Tryz.ntmps154
  have c0_0 := (HR.out.base.cell (p := ⟨w.heap.size, 0, none⟩) lt0).trans K0_0.out
  have c0_1 := (HR.out.base.cell (p := ⟨w.heap.size, 1, none⟩) lt0).trans K0_1.out
  have c0_2 := (HR.out.base.cell (p := ⟨w.heap.size, 2, none⟩) lt0).trans K0_2.out
  have c0_3 := (HR.out.base.cell (p := ⟨w.heap.size, 3, none⟩) lt0).trans K0_3.out
  have c0_4 := (HR.out.base.cell (p := ⟨w.heap.size, 4, none⟩) lt0).trans K0_4.out
  have c0_5 := (HR.out.base.cell (p := ⟨w.heap.size, 5, none⟩) lt0).trans K0_5.out
  have c1_0 := (HR.out.base.cell (p := ⟨w.heap.size + 1, 0, none⟩) lt1).trans K1_0.out
  have c1_1 := (HR.out.base.cell (p := ⟨w.heap.size + 1, 1, none⟩) lt1).trans K1_1.out
  have c1_2 := (HR.out.base.cell (p := ⟨w.heap.size + 1, 2, none⟩) lt1).trans K1_2.out
  have c2_0 := (HR.out.base.cell (p := ⟨w.heap.size + 1 + 1, 0, none⟩) lt2).trans K2_0.out
  have c2_1 := (HR.out.base.cell (p := ⟨w.heap.size + 1 + 1, 1, none⟩) lt2).trans K2_1.out
  have c2_2 := (HR.out.base.cell (p := ⟨w.heap.size + 1 + 1, 2, none⟩) lt2).trans K2_2.out
  have c2_3 := (HR.out.base.cell (p := ⟨w.heap.size + 1 + 1, 3, none⟩) lt2).trans K2_3.out
  have c2_4 := (HR.out.base.cell (p := ⟨w.heap.size + 1 + 1, 4, none⟩) lt2).trans K2_4.out
  have c2_5 := (HR.out.base.cell (p := ⟨w.heap.size + 1 + 1, 5, none⟩) lt2).trans K2_5.out
  have hsr := HS2.out.below HR.out.base HS2.out.lt
  have fr0 := hsr.free 0
  have fr1 := hsr.free 1
  have fr2 := hsr.free 2
  have fr3 := hsr.free 3
  have fr4 := hsr.free 4
  have fr5 := hsr.free 5
  clear hsr
  go_wp2_with fail
  rw [show (((w.alloc (.cells #[x1, x2, x3, x4, x5, x6] 130)).alloc (.cells #[y1, y2, y3] 128)).alloc (.cells #[.bool false, .slice none 0 0, .slice none 0 0, .bool false, .slice none 0 0, .slice none 0 0] 130)) = wA from HWA.out]
  go_region_held3
    (fun w' => w'.cell? ⟨w.heap.size, 0, none⟩ = some (x1) ∧ w'.cell? ⟨w.heap.size, 1, none⟩ = some (x2) ∧ w'.cell? ⟨w.heap.size, 2, none⟩ = some (x3) ∧ w'.cell? ⟨w.heap.size, 3, none⟩ = some (x4) ∧ w'.cell? ⟨w.heap.size, 4, none⟩ = some (x5) ∧ w'.cell? ⟨w.heap.size, 5, none⟩ = some (x6) ∧ w'.cell? ⟨w.heap.size + 1, 0, none⟩ = some (y1) ∧ w'.cell? ⟨w.heap.size + 1, 1, none⟩ = some (y2) ∧ w'.cell? ⟨w.heap.size + 1, 2, none⟩ = some (y3)) ((first | (simp [*]; done) | go_keep))
    (first
    | (go_at_call_of 219 x1
       apply Calls.mono
       apply FBag.times (w0 := wA)
       (focus (first | exact HR.out | exact HR.out.drew | exact HR.out.drew.drew))
       (focus (repeat (first | exact List.Mem.head _ | apply List.Mem.tail)))
       (focus (repeat (first | exact List.Mem.head _ | apply List.Mem.tail)))
       omega
       rintro e wn ⟨z1, z2, z3, rfl, hb⟩
       clear HR
       have HR := Hid.intro hb
       clear hb
       have o9 := (HR.out.ts _ (List.Mem.head _)).1.one
       have stz1 := store_one Tryz.prog o9.1
       have stz2 := store_one Tryz.prog o9.2.1
       have stz3 := store_one Tryz.prog o9.2.2
       clear o9
       have c0_0 := (HR.out.base.cell (p := ⟨w.heap.size, 0, none⟩) lt0).trans K0_0.out
       have c0_1 := (HR.out.base.cell (p := ⟨w.heap.size, 1, none⟩) lt0).trans K0_1.out
       have c0_2 := (HR.out.base.cell (p := ⟨w.heap.size, 2, none⟩) lt0).trans K0_2.out
       have c0_3 := (HR.out.base.cell (p := ⟨w.heap.size, 3, none⟩) lt0).trans K0_3.out
       have c0_4 := (HR.out.base.cell (p := ⟨w.heap.size, 4, none⟩) lt0).trans K0_4.out
       have c0_5 := (HR.out.base.cell (p := ⟨w.heap.size, 5, none⟩) lt0).trans K0_5.out
       have c1_0 := (HR.out.base.cell (p := ⟨w.heap.size + 1, 0, none⟩) lt1).trans K1_0.out
       have c1_1 := (HR.out.base.cell (p := ⟨w.heap.size + 1, 1, none⟩) lt1).trans K1_1.out
       have c1_2 := (HR.out.base.cell (p := ⟨w.heap.size + 1, 2, none⟩) lt1).trans K1_2.out
       have c2_0 := (HR.out.base.cell (p := ⟨w.heap.size + 1 + 1, 0, none⟩) lt2).trans K2_0.out
       have c2_1 := (HR.out.base.cell (p := ⟨w.heap.size + 1 + 1, 1, none⟩) lt2).trans K2_1.out
       have c2_2 := (HR.out.base.cell (p := ⟨w.heap.size + 1 + 1, 2, none⟩) lt2).trans K2_2.out
       have c2_3 := (HR.out.base.cell (p := ⟨w.heap.size + 1 + 1, 3, none⟩) lt2).trans K2_3.out
       have c2_4 := (HR.out.base.cell (p := ⟨w.heap.size + 1 + 1, 4, none⟩) lt2).trans K2_4.out
       have c2_5 := (HR.out.base.cell (p := ⟨w.heap.size + 1 + 1, 5, none⟩) lt2).trans K2_5.out
       have hsr := HS2.out.below HR.out.base HS2.out.lt
       have fr0 := hsr.free 0
       have fr1 := hsr.free 1
       have fr2 := hsr.free 2
       have fr3 := hsr.free 3
       have fr4 := hsr.free 4
       have fr5 := hsr.free 5
       clear hsr
       skip)
    | (go_at_call_of 219 x4
       apply Calls.mono
       apply FBag.times (w0 := wA)
       (focus (first | exact HR.out | exact HR.out.drew | exact HR.out.drew.drew))
       (focus (repeat (first | exact List.Mem.head _ | apply List.Mem.tail)))
       (focus (repeat (first | exact List.Mem.head _ | apply List.Mem.tail)))
       omega
       rintro e wn ⟨z4, z5, z6, rfl, hb⟩
       clear HR
       have HR := Hid.intro hb
       clear hb
       have o9 := (HR.out.ts _ (List.Mem.head _)).1.one
       have stz4 := store_one Tryz.prog o9.1
       have stz5 := store_one Tryz.prog o9.2.1
       have stz6 := store_one Tryz.prog o9.2.2
       clear o9
       have c0_0 := (HR.out.base.cell (p := ⟨w.heap.size, 0, none⟩) lt0).trans K0_0.out
       have c0_1 := (HR.out.base.cell (p := ⟨w.heap.size, 1, none⟩) lt0).trans K0_1.out
       have c0_2 := (HR.out.base.cell (p := ⟨w.heap.size, 2, none⟩) lt0).trans K0_2.out
       have c0_3 := (HR.out.base.cell (p := ⟨w.heap.size, 3, none⟩) lt0).trans K0_3.out
       have c0_4 := (HR.out.base.cell (p := ⟨w.heap.size, 4, none⟩) lt0).trans K0_4.out
       have c0_5 := (HR.out.base.cell (p := ⟨w.heap.size, 5, none⟩) lt0).trans K0_5.out
       have c1_0 := (HR.out.base.cell (p := ⟨w.heap.size + 1, 0, none⟩) lt1).trans K1_0.out
       have c1_1 := (HR.out.base.cell (p := ⟨w.heap.size + 1, 1, none⟩) lt1).trans K1_1.out
       have c1_2 := (HR.out.base.cell (p := ⟨w.heap.size + 1, 2, none⟩) lt1).trans K1_2.out
       have c2_0 := (HR.out.base.cell (p := ⟨w.heap.size + 1 + 1, 0, none⟩) lt2).trans K2_0.out
       have c2_1 := (HR.out.base.cell (p := ⟨w.heap.size + 1 + 1, 1, none⟩) lt2).trans K2_1.out
       have c2_2 := (HR.out.base.cell (p := ⟨w.heap.size + 1 + 1, 2, none⟩) lt2).trans K2_2.out
       have c2_3 := (HR.out.base.cell (p := ⟨w.heap.size + 1 + 1, 3, none⟩) lt2).trans K2_3.out
       have c2_4 := (HR.out.base.cell (p := ⟨w.heap.size + 1 + 1, 4, none⟩) lt2).trans K2_4.out
       have c2_5 := (HR.out.base.cell (p := ⟨w.heap.size + 1 + 1, 5, none⟩) lt2).trans K2_5.out
       have hsr := HS2.out.below HR.out.base HS2.out.lt
       have fr0 := hsr.free 0
       have fr1 := hsr.free 1
       have fr2 := hsr.free 2
       have fr3 := hsr.free 3
       have fr4 := hsr.free 4
       have fr5 := hsr.free 5
       clear hsr
       skip)
    )
  all_goals
    go_wp2
    have hs9 := HS2.out.below HR.out.base HS2.out.lt
    refine bodyPost_ret (v := .agg #[z1, z2, z3, z4, z5, z6]) (results_cell_row rfl _ _ (w.heap.size + 1 + 1) 130 #[z1, z2, z3, z4, z5, z6] (0, 0) _ rfl ((((((hs9.set 0 _).set 1 _).set 2 _).set 3 _).set 4 _).set 5 _) Tryz.underlying130 rfl Tryz.vecInfo) rfl ?_
    have ho := (((((((Only.refl (w.heap.size + 1 + 1) wn).setCell 0 (z1)).setCell 1 (z2)).setCell 2 (z3)).setCell 3 (z4)).setCell 4 (z5)).setCell 5 (z6))
    refine ⟨_, _, _, _, _, _, rfl, ((HR.out.from HBA.out HGL.out ?_).only ho hs9 zeroVec_no (by omega))⟩
    intro t ht
    simp only [List.mem_cons, List.not_mem_nil, or_false] at ht
    rcases ht with rfl | rfl
    · exact ⟨_, (by repeat (first | exact List.Mem.head _ | apply List.Mem.tail)), Nat.le_refl _⟩
    · exact ⟨_, (by repeat (first | exact List.Mem.head _ | apply List.Mem.tail)), Nat.le_refl _⟩

set_option maxRecDepth 100000 in
set_option maxHeartbeats 4000000 in
theorem vec_cross {w : World} {x1 x2 x3 x4 x5 x6 y1 y2 y3 y4 y5 y6 : Value} {sdum : ByteArray} {j1 j2 k1 k2 : Nat} {p1 p2 q1 q2 : Rat} (h : FBag w w [⟨x1, x2, x3, p1, j1⟩, ⟨x4, x5, x6, p2, j2⟩, ⟨y1, y2, y3, q1, k1⟩, ⟨y4, y5, y6, q2, k2⟩]) (h1 : j1 + k2 + (j2 + k1) < 68719476000) :
    Calls Tryz.prog 148 #[.agg #[x1, x2, x3, x4, x5, x6], .agg #[y1, y2, y3, y4, y5, y6]] w (RNew1 w (p1 * q2 - p2 * q1) (j1 + k2 + (j2 + k1) + 1)) := by
  obtain ⟨wA, hwA⟩ : ∃ wA, (((w.alloc (.cells #[x1, x2, x3, x4, x5, x6] 130)).alloc (.cells #[y1, y2, y3, y4, y5, y6] 130)).alloc (.cells #[.bool false, .slice none 0 0, .slice none 0 0] 128)) = wA := ⟨_, rfl⟩
  have hbA : Below w.heap.size w wA := by rw [← hwA]; exact ((((Below.refl _ _).alloc (by first | exact Nat.le_refl _ | (simp only [World.size_alloc]; omega)) _).alloc (by first | exact Nat.le_refl _ | (simp only [World.size_alloc]; omega)) _).alloc (by first | exact Nat.le_refl _ | (simp only [World.size_alloc]; omega)) _)
  have hs0 : SB wA (w.heap.size) 130 #[x1, x2, x3, x4, x5, x6] := by rw [← hwA]; exact (((SB.new w _ _).alloc _).alloc _)
  have HS0 := Hid.intro hs0
  have lt0 := hs0.lt
  have K0_0 : Hid (wA.cell? ⟨w.heap.size, 0, none⟩ = some (x1)) := Hid.intro (hs0.cell 0)
  have K0_1 : Hid (wA.cell? ⟨w.heap.size, 1, none⟩ = some (x2)) := Hid.intro (hs0.cell 1)
  have K0_2 : Hid (wA.cell? ⟨w.heap.size, 2, none⟩ = some (x3)) := Hid.intro (hs0.cell 2)
  have K0_3 : Hid (wA.cell? ⟨w.heap.size, 3, none⟩ = some (x4)) := Hid.intro (hs0.cell 3)
  have K0_4 : Hid (wA.cell? ⟨w.heap.size, 4, none⟩ = some (x5)) := Hid.intro (hs0.cell 4)
  have K0_5 : Hid (wA.cell? ⟨w.heap.size, 5, none⟩ = some (x6)) := Hid.intro (hs0.cell 5)
  have hs1 : SB wA (w.heap.size + 1) 130 #[y1, y2, y3, y4, y5, y6] := by rw [← hwA]; exact ((SB.new2 w _ _ _ _).alloc _)
  have HS1 := Hid.intro hs1
  have lt1 := hs1.lt
  have K1_0 : Hid (wA.cell? ⟨w.heap.size + 1, 0, none⟩ = some (y1)) := Hid.intro (hs1.cell 0)
  have K1_1 : Hid (wA.cell? ⟨w.heap.size + 1, 1, none⟩ = some (y2)) := Hid.intro (hs1.cell 1)
  have K1_2 : Hid (wA.cell? ⟨w.heap.size + 1, 2, none⟩ = some (y3)) := Hid.intro (hs1.cell 2)
  have K1_3 : Hid (wA.cell? ⟨w.heap.size + 1, 3, none⟩ = some (y4)) := Hid.intro (hs1.cell 3)
  have K1_4 : Hid (wA.cell? ⟨w.heap.size + 1, 4, none⟩ = some (y5)) := Hid.intro (hs1.cell 4)
  have K1_5 : Hid (wA.cell? ⟨w.heap.size + 1, 5, none⟩ = some (y6)) := Hid.intro (hs1.cell 5)
  have hs2 : SB wA (w.heap.size + 1 + 1) 128 #[.bool false, .slice none 0 0, .slice none 0 0] := by rw [← hwA]; exact (SB.new3 w _ _ _ _ _ _)
  have HS2 := Hid.intro hs2
  have lt2 := hs2.lt
  have K2_0 : Hid (wA.cell? ⟨w.heap.size + 1 + 1, 0, none⟩ = some (.bool false)) := Hid.intro (hs2.cell 0)
  have K2_1 : Hid (wA.cell? ⟨w.heap.size + 1 + 1, 1, none⟩ = some (.slice none 0 0)) := Hid.intro (hs2.cell 1)
  have K2_2 : Hid (wA.cell? ⟨w.heap.size + 1 + 1, 2, none⟩ = some (.slice none 0 0)) := Hid.intro (hs2.cell 2)
  have ne01 : w.heap.size ≠ w.heap.size + 1 := by omega
  have ne02 : w.heap.size ≠ w.heap.size + 1 + 1 := by omega
  have ne10 : w.heap.size + 1 ≠ w.heap.size := by omega
  have ne12 : w.heap.size + 1 ≠ w.heap.size + 1 + 1 := by omega
  have ne20 : w.heap.size + 1 + 1 ≠ w.heap.size := by omega
  have ne21 : w.heap.size + 1 + 1 ≠ w.heap.size + 1 := by omega
  have HR := Hid.intro (h.below hbA).rebase
  have HGL := Hid.intro h.glob
  have HBA := Hid.intro hbA
  have HWA := Hid.intro hwA
  clear h hbA hwA hs0 hs1 hs2
  go_enter Tryz.func148, Tryz.ntmps148
  have c0_0 := (HR.out.base.cell (p := ⟨w.heap.size, 0, none⟩) lt0).trans K0_0.out
  have c0_1 := (HR.out.base.cell (p := ⟨w.heap.size, 1, none⟩) lt0).trans K0_1.out
  have c0_2 := (HR.out.base.cell (p := ⟨w.heap.size, 2, none⟩) lt0).trans K0_2.out
  have c0_3 := (HR.out.base.cell (p := ⟨w.heap.size, 3, none⟩) lt0).trans K0_3.out
  have c0_4 := (HR.out.base.cell (p := ⟨w.heap.size, 4, none⟩) lt0).trans K0_4.out
  have c0_5 := (HR.out.base.cell (p := ⟨w.heap.size, 5, none⟩) lt0).trans K0_5.out
  have c1_0 := (HR.out.base.cell (p := ⟨w.heap.size + 1, 0, none⟩) lt1).trans K1_0.out
  have c1_1 := (HR.out.base.cell (p := ⟨w.heap.size + 1, 1, none⟩) lt1).trans K1_1.out
  have c1_2 := (HR.out.base.cell (p := ⟨w.heap.size + 1, 2, none⟩) lt1).trans K1_2.out
  have c1_3 := (HR.out.base.cell (p := ⟨w.heap.size + 1, 3, none⟩) lt1).trans K1_3.out
  have c1_4 := (HR.out.base.cell (p := ⟨w.heap.size + 1, 4, none⟩) lt1).trans K1_4.out
  have c1_5 := (HR.out.base.cell (p := ⟨w.heap.size + 1, 5, none⟩) lt1).trans K1_5.out
  have c2_0 := (HR.out.base.cell (p := ⟨w.heap.size + 1 + 1, 0, none⟩) lt2).trans K2_0.out
  have c2_1 := (HR.out.base.cell (p := ⟨w.heap.size + 1 + 1, 1, none⟩) lt2).trans K2_1.out
  have c2_2 := (HR.out.base.cell (p := ⟨w.heap.size + 1 + 1, 2, none⟩) lt2).trans K2_2.out
  have hsr := HS2.out.below HR.out.base HS2.out.lt
  have fr0 := hsr.free 0
  have fr1 := hsr.free 1
  have fr2 := hsr.free 2
  clear hsr
  go_wp2_with fail
  rw [show (((w.alloc (.cells #[x1, x2, x3, x4, x5, x6] 130)).alloc (.cells #[y1, y2, y3, y4, y5, y6] 130)).alloc (.cells #[.bool false, .slice none 0 0, .slice none 0 0] 128)) = wA from HWA.out]
  go_region_held3
    (fun w' => w'.cell? ⟨w.heap.size, 0, none⟩ = some (x1) ∧ w'.cell? ⟨w.heap.size, 1, none⟩ = some (x2) ∧ w'.cell? ⟨w.heap.size, 2, none⟩ = some (x3) ∧ w'.cell? ⟨w.heap.size, 3, none⟩ = some (x4) ∧ w'.cell? ⟨w.heap.size, 4, none⟩ = some (x5) ∧ w'.cell? ⟨w.heap.size, 5, none⟩ = some (x6) ∧ w'.cell? ⟨w.heap.size + 1, 0, none⟩ = some (y1) ∧ w'.cell? ⟨w.heap.size + 1, 1, none⟩ = some (y2) ∧ w'.cell? ⟨w.heap.size + 1, 2, none⟩ = some (y3) ∧ w'.cell? ⟨w.heap.size + 1, 3, none⟩ = some (y4) ∧ w'.cell? ⟨w.heap.size + 1, 4, none⟩ = some (y5) ∧ w'.cell? ⟨w.heap.size + 1, 5, none⟩ = some (y6)) ((first | (simp [*]; done) | go_keep))
    (first
    | (go_at_call_of 219 x1
       apply Calls.mono
       apply FBag.times (w0 := wA)
       (focus (first | exact HR.out | exact HR.out.drew | exact HR.out.drew.drew))
       (focus (repeat (first | exact List.Mem.head _ | apply List.Mem.tail)))
       (focus (repeat (first | exact List.Mem.head _ | apply List.Mem.tail)))
       omega
       rintro e wn ⟨z1, z2, z3, rfl, hb⟩
       clear HR
       have HR := Hid.intro hb
       clear hb
       have o9 := (HR.out.ts _ (List.Mem.head _)).1.one
       have stz1 := store_one Tryz.prog o9.1
       have stz2 := store_one Tryz.prog o9.2.1
       have stz3 := store_one Tryz.prog o9.2.2
       clear o9
       have c0_0 := (HR.out.base.cell (p := ⟨w.heap.size, 0, none⟩) lt0).trans K0_0.out
       have c0_1 := (HR.out.base.cell (p := ⟨w.heap.size, 1, none⟩) lt0).trans K0_1.out
       have c0_2 := (HR.out.base.cell (p := ⟨w.heap.size, 2, none⟩) lt0).trans K0_2.out
       have c0_3 := (HR.out.base.cell (p := ⟨w.heap.size, 3, none⟩) lt0).trans K0_3.out
       have c0_4 := (HR.out.base.cell (p := ⟨w.heap.size, 4, none⟩) lt0).trans K0_4.out
       have c0_5 := (HR.out.base.cell (p := ⟨w.heap.size, 5, none⟩) lt0).trans K0_5.out
       have c1_0 := (HR.out.base.cell (p := ⟨w.heap.size + 1, 0, none⟩) lt1).trans K1_0.out
       have c1_1 := (HR.out.base.cell (p := ⟨w.heap.size + 1, 1, none⟩) lt1).trans K1_1.out
       have c1_2 := (HR.out.base.cell (p := ⟨w.heap.size + 1, 2, none⟩) lt1).trans K1_2.out
       have c1_3 := (HR.out.base.cell (p := ⟨w.heap.size + 1, 3, none⟩) lt1).trans K1_3.out
       have c1_4 := (HR.out.base.cell (p := ⟨w.heap.size + 1, 4, none⟩) lt1).trans K1_4.out
       have c1_5 := (HR.out.base.cell (p := ⟨w.heap.size + 1, 5, none⟩) lt1).trans K1_5.out
       have c2_0 := (HR.out.base.cell (p := ⟨w.heap.size + 1 + 1, 0, none⟩) lt2).trans K2_0.out
       have c2_1 := (HR.out.base.cell (p := ⟨w.heap.size + 1 + 1, 1, none⟩) lt2).trans K2_1.out
       have c2_2 := (HR.out.base.cell (p := ⟨w.heap.size + 1 + 1, 2, none⟩) lt2).trans K2_2.out
       have hsr := HS2.out.below HR.out.base HS2.out.lt
       have fr0 := hsr.free 0
       have fr1 := hsr.free 1
       have fr2 := hsr.free 2
       clear hsr
       skip)
    | (go_at_call_of 219 x4
       apply Calls.mono
       apply FBag.times (w0 := wA)
       (focus (first | exact HR.out | exact HR.out.drew | exact HR.out.drew.drew))
       (focus (repeat (first | exact List.Mem.head _ | apply List.Mem.tail)))
       (focus (repeat (first | exact List.Mem.head _ | apply List.Mem.tail)))
       omega
       rintro e wn ⟨z4, z5, z6, rfl, hb⟩
       clear HR
       have HR := Hid.intro hb
       clear hb
       have o9 := (HR.out.ts _ (List.Mem.head _)).1.one
       have stz4 := store_one Tryz.prog o9.1
       have stz5 := store_one Tryz.prog o9.2.1
       have stz6 := store_one Tryz.prog o9.2.2
       clear o9
       have c0_0 := (HR.out.base.cell (p := ⟨w.heap.size, 0, none⟩) lt0).trans K0_0.out
       have c0_1 := (HR.out.base.cell (p := ⟨w.heap.size, 1, none⟩) lt0).trans K0_1.out
       have c0_2 := (HR.out.base.cell (p := ⟨w.heap.size, 2, none⟩) lt0).trans K0_2.out
       have c0_3 := (HR.out.base.cell (p := ⟨w.heap.size, 3, none⟩) lt0).trans K0_3.out
       have c0_4 := (HR.out.base.cell (p := ⟨w.heap.size, 4, none⟩) lt0).trans K0_4.out
       have c0_5 := (HR.out.base.cell (p := ⟨w.heap.size, 5, none⟩) lt0).trans K0_5.out
       have c1_0 := (HR.out.base.cell (p := ⟨w.heap.size + 1, 0, none⟩) lt1).trans K1_0.out
       have c1_1 := (HR.out.base.cell (p := ⟨w.heap.size + 1, 1, none⟩) lt1).trans K1_1.out
       have c1_2 := (HR.out.base.cell (p := ⟨w.heap.size + 1, 2, none⟩) lt1).trans K1_2.out
       have c1_3 := (HR.out.base.cell (p := ⟨w.heap.size + 1, 3, none⟩) lt1).trans K1_3.out
       have c1_4 := (HR.out.base.cell (p := ⟨w.heap.size + 1, 4, none⟩) lt1).trans K1_4.out
       have c1_5 := (HR.out.base.cell (p := ⟨w.heap.size + 1, 5, none⟩) lt1).trans K1_5.out
       have c2_0 := (HR.out.base.cell (p := ⟨w.heap.size + 1 + 1, 0, none⟩) lt2).trans K2_0.out
       have c2_1 := (HR.out.base.cell (p := ⟨w.heap.size + 1 + 1, 1, none⟩) lt2).trans K2_1.out
       have c2_2 := (HR.out.base.cell (p := ⟨w.heap.size + 1 + 1, 2, none⟩) lt2).trans K2_2.out
       have hsr := HS2.out.below HR.out.base HS2.out.lt
       have fr0 := hsr.free 0
       have fr1 := hsr.free 1
       have fr2 := hsr.free 2
       clear hsr
       skip)
    | (go_at_call_of 205 z1
       apply Calls.mono
       apply FBag.minus (w0 := wA)
       (focus (first | exact HR.out | exact HR.out.drew | exact HR.out.drew.drew))
       (focus (repeat (first | exact List.Mem.head _ | apply List.Mem.tail)))
       (focus (repeat (first | exact List.Mem.head _ | apply List.Mem.tail)))
       omega
       rintro e wn ⟨r1, r2, r3, rfl, hb⟩
       clear HR
       have HR := Hid.intro hb
       clear hb
       have o9 := (HR.out.ts _ (List.Mem.head _)).1.one
       have str1 := store_one Tryz.prog o9.1
       have str2 := store_one Tryz.prog o9.2.1
       have str3 := store_one Tryz.prog o9.2.2
       clear o9
       have c0_0 := (HR.out.base.cell (p := ⟨w.heap.size, 0, none⟩) lt0).trans K0_0.out
       have c0_1 := (HR.out.base.cell (p := ⟨w.heap.size, 1, none⟩) lt0).trans K0_1.out
       have c0_2 := (HR.out.base.cell (p := ⟨w.heap.size, 2, none⟩) lt0).trans K0_2.out
       have c0_3 := (HR.out.base.cell (p := ⟨w.heap.size, 3, none⟩) lt0).trans K0_3.out
       have c0_4 := (HR.out.base.cell (p := ⟨w.heap.size, 4, none⟩) lt0).trans K0_4.out
       have c0_5 := (HR.out.base.cell (p := ⟨w.heap.size, 5, none⟩) lt0).trans K0_5.out
       have c1_0 := (HR.out.base.cell (p := ⟨w.heap.size + 1, 0, none⟩) lt1).trans K1_0.out
       have c1_1 := (HR.out.base.cell (p := ⟨w.heap.size + 1, 1, none⟩) lt1).trans K1_1.out
       have c1_2 := (HR.out.base.cell (p := ⟨w.heap.size + 1, 2, none⟩) lt1).trans K1_2.out
       have c1_3 := (HR.out.base.cell (p := ⟨w.heap.size + 1, 3, none⟩) lt1).trans K1_3.out
       have c1_4 := (HR.out.base.cell (p := ⟨w.heap.size + 1, 4, none⟩) lt1).trans K1_4.out
       have c1_5 := (HR.out.base.cell (p := ⟨w.heap.size + 1, 5, none⟩) lt1).trans K1_5.out
       have c2_0 := (HR.out.base.cell (p := ⟨w.heap.size + 1 + 1, 0, none⟩) lt2).trans K2_0.out
       have c2_1 := (HR.out.base.cell (p := ⟨w.heap.size + 1 + 1, 1, none⟩) lt2).trans K2_1.out
       have c2_2 := (HR.out.base.cell (p := ⟨w.heap.size + 1 + 1, 2, none⟩) lt2).trans K2_2.out
       have hsr := HS2.out.below HR.out.base HS2.out.lt
       have fr0 := hsr.free 0
       have fr1 := hsr.free 1
       have fr2 := hsr.free 2
       clear hsr
       skip)
    )
  all_goals
    go_wp2
    have hs9 := HS2.out.below HR.out.base HS2.out.lt
    refine bodyPost_ret (v := .agg #[r1, r2, r3]) (results_cell_row rfl _ _ (w.heap.size + 1 + 1) 128 #[r1, r2, r3] (0, 0) _ rfl (((hs9.set 0 _).set 1 _).set 2 _) Tryz.underlying128 rfl Tryz.fracInfo) rfl ?_
    have ho := ((((Only.refl (w.heap.size + 1 + 1) wn).setCell 0 (r1)).setCell 1 (r2)).setCell 2 (r3))
    refine ⟨_, _, _, rfl, ((HR.out.from HBA.out HGL.out ?_).only ho hs9 zeroFrac_no (by omega))⟩
    intro t ht
    simp only [List.mem_cons, List.not_mem_nil, or_false] at ht
    subst ht
    exact ⟨_, (by repeat (first | exact List.Mem.head _ | apply List.Mem.tail)), Nat.le_refl _⟩

set_option maxRecDepth 100000 in
set_option maxHeartbeats 4000000 in
theorem vec_square {w : World} {x1 x2 x3 x4 x5 x6 : Value} {sdum : ByteArray} {j1 j2 : Nat} {p1 p2 : Rat} (h : FBag w w [⟨x1, x2, x3, p1, j1⟩, ⟨x4, x5, x6, p2, j2⟩]) (h1 : j1 + j1 + (j2 + j2) < 68719476000) :
    Calls Tryz.prog 156 #[.agg #[x1, x2, x3, x4, x5, x6]] w (RNew1 w (p1 * p1 + p2 * p2) (j1 + j1 + (j2 + j2) + 1)) := by
  obtain ⟨wA, hwA⟩ : ∃ wA, ((w.alloc (.cells #[x1, x2, x3, x4, x5, x6] 130)).alloc (.cells #[.bool false, .slice none 0 0, .slice none 0 0] 128)) = wA := ⟨_, rfl⟩
  have hbA : Below w.heap.size w wA := by rw [← hwA]; exact (((Below.refl _ _).alloc (by first | exact Nat.le_refl _ | (simp only [World.size_alloc]; omega)) _).alloc (by first | exact Nat.le_refl _ | (simp only [World.size_alloc]; omega)) _)
  have hs0 : SB wA (w.heap.size) 130 #[x1, x2, x3, x4, x5, x6] := by rw [← hwA]; exact ((SB.new w _ _).alloc _)
  have HS0 := Hid.intro hs0
  have lt0 := hs0.lt
  have K0_0 : Hid (wA.cell? ⟨w.heap.size, 0, none⟩ = some (x1)) := Hid.intro (hs0.cell 0)
  have K0_1 : Hid (wA.cell? ⟨w.heap.size, 1, none⟩ = some (x2)) := Hid.intro (hs0.cell 1)
  have K0_2 : Hid (wA.cell? ⟨w.heap.size, 2, none⟩ = some (x3)) := Hid.intro (hs0.cell 2)
  have K0_3 : Hid (wA.cell? ⟨w.heap.size, 3, none⟩ = some (x4)) := Hid.intro (hs0.cell 3)
  have K0_4 : Hid (wA.cell? ⟨w.heap.size, 4, none⟩ = some (x5)) := Hid.intro (hs0.cell 4)
  have K0_5 : Hid (wA.cell? ⟨w.heap.size, 5, none⟩ = some (x6)) := Hid.intro (hs0.cell 5)
  have hs1 : SB wA (w.heap.size + 1) 128 #[.bool false, .slice none 0 0, .slice none 0 0] := by rw [← hwA]; exact (SB.new2 w _ _ _ _)
  have HS1 := Hid.intro hs1
  have lt1 := hs1.lt
  have K1_0 : Hid (wA.cell? ⟨w.heap.size + 1, 0, none⟩ = some (.bool false)) := Hid.intro (hs1.cell 0)
  have K1_1 : Hid (wA.cell? ⟨w.heap.size + 1, 1, none⟩ = some (.slice none 0 0)) := Hid.intro (hs1.cell 1)
  have K1_2 : Hid (wA.cell? ⟨w.heap.size + 1, 2, none⟩ = some (.slice none 0 0)) := Hid.intro (hs1.cell 2)
  have ne01 : w.heap.size ≠ w.heap.size + 1 := by omega
  have ne10 : w.heap.size + 1 ≠ w.heap.size := by omega
  have HR := Hid.intro (h.below hbA).rebase
  have HGL := Hid.intro h.glob
  have HBA := Hid.intro hbA
  have HWA := Hid.intro hwA
  clear h hbA hwA hs0 hs1
  go_enter Tryz.func156, Tryz.ntmps156
  have c0_0 := (HR.out.base.cell (p := ⟨w.heap.size, 0, none⟩) lt0).trans K0_0.out
  have c0_1 := (HR.out.base.cell (p := ⟨w.heap.size, 1, none⟩) lt0).trans K0_1.out
  have c0_2 := (HR.out.base.cell (p := ⟨w.heap.size, 2, none⟩) lt0).trans K0_2.out
  have c0_3 := (HR.out.base.cell (p := ⟨w.heap.size, 3, none⟩) lt0).trans K0_3.out
  have c0_4 := (HR.out.base.cell (p := ⟨w.heap.size, 4, none⟩) lt0).trans K0_4.out
  have c0_5 := (HR.out.base.cell (p := ⟨w.heap.size, 5, none⟩) lt0).trans K0_5.out
  have c1_0 := (HR.out.base.cell (p := ⟨w.heap.size + 1, 0, none⟩) lt1).trans K1_0.out
  have c1_1 := (HR.out.base.cell (p := ⟨w.heap.size + 1, 1, none⟩) lt1).trans K1_1.out
  have c1_2 := (HR.out.base.cell (p := ⟨w.heap.size + 1, 2, none⟩) lt1).trans K1_2.out
  have hsr := HS1.out.below HR.out.base HS1.out.lt
  have fr0 := hsr.free 0
  have fr1 := hsr.free 1
  have fr2 := hsr.free 2
  clear hsr
  go_wp2_with fail
  rw [show ((w.alloc (.cells #[x1, x2, x3, x4, x5, x6] 130)).alloc (.cells #[.bool false, .slice none 0 0, .slice none 0 0] 128)) = wA from HWA.out]
  go_region_held3
    (fun w' => w'.cell? ⟨w.heap.size, 0, none⟩ = some (x1) ∧ w'.cell? ⟨w.heap.size, 1, none⟩ = some (x2) ∧ w'.cell? ⟨w.heap.size, 2, none⟩ = some (x3) ∧ w'.cell? ⟨w.heap.size, 3, none⟩ = some (x4) ∧ w'.cell? ⟨w.heap.size, 4, none⟩ = some (x5) ∧ w'.cell? ⟨w.heap.size, 5, none⟩ = some (x6)) ((first | (simp [*]; done) | go_keep))
    (first
    | (go_at_call_of 219 x1
       apply Calls.mono
       apply FBag.times (w0 := wA)
       (focus (first | exact HR.out | exact HR.out.drew | exact HR.out.drew.drew))
       (focus (repeat (first | exact List.Mem.head _ | apply List.Mem.tail)))
       (focus (repeat (first | exact List.Mem.head _ | apply List.Mem.tail)))
       omega
       rintro e wn ⟨z1, z2, z3, rfl, hb⟩
       clear HR
       have HR := Hid.intro hb
       clear hb
       have o9 := (HR.out.ts _ (List.Mem.head _)).1.one
       have stz1 := store_one Tryz.prog o9.1
       have stz2 := store_one Tryz.prog o9.2.1
       have stz3 := store_one Tryz.prog o9.2.2
       clear o9
       have c0_0 := (HR.out.base.cell (p := ⟨w.heap.size, 0, none⟩) lt0).trans K0_0.out
       have c0_1 := (HR.out.base.cell (p := ⟨w.heap.size, 1, none⟩) lt0).trans K0_1.out
       have c0_2 := (HR.out.base.cell (p := ⟨w.heap.size, 2, none⟩) lt0).trans K0_2.out
       have c0_3 := (HR.out.base.cell (p := ⟨w.heap.size, 3, none⟩) lt0).trans K0_3.out
       have c0_4 := (HR.out.base.cell (p := ⟨w.heap.size, 4, none⟩) lt0).trans K0_4.out
       have c0_5 := (HR.out.base.cell (p := ⟨w.heap.size, 5, none⟩) lt0).trans K0_5.out
       have c1_0 := (HR.out.base.cell (p := ⟨w.heap.size + 1, 0, none⟩) lt1).trans K1_0.out
       have c1_1 := (HR.out.base.cell (p := ⟨w.heap.size + 1, 1, none⟩) lt1).trans K1_1.out
       have c1_2 := (HR.out.base.cell (p := ⟨w.heap.size + 1, 2, none⟩) lt1).trans K1_2.out
       have hsr := HS1.out.below HR.out.base HS1.out.lt
       have fr0 := hsr.free 0
       have fr1 := hsr.free 1
       have fr2 := hsr.free 2
       clear hsr
       skip)
    | (go_at_call_of 219 x4
       apply Calls.mono
       apply FBag.times (w0 := wA)
       (focus (first | exact HR.out | exact HR.out.drew | exact HR.out.drew.drew))
       (focus (repeat (first | exact List.Mem.head _ | apply List.Mem.tail)))
       (focus (repeat (first | exact List.Mem.head _ | apply List.Mem.tail)))
       omega
       rintro e wn ⟨z4, z5, z6, rfl, hb⟩
       clear HR
       have HR := Hid.intro hb
       clear hb
       have o9 := (HR.out.ts _ (List.Mem.head _)).1.one
       have stz4 := store_one Tryz.prog o9.1
       have stz5 := store_one Tryz.prog o9.2.1
       have stz6 := store_one Tryz.prog o9.2.2
       clear o9
       have c0_0 := (HR.out.base.cell (p := ⟨w.heap.size, 0, none⟩) lt0).trans K0_0.out
       have c0_1 := (HR.out.base.cell (p := ⟨w.heap.size, 1, none⟩) lt0).trans K0_1.out
       have c0_2 := (HR.out.base.cell (p := ⟨w.heap.size, 2, none⟩) lt0).trans K0_2.out
       have c0_3 := (HR.out.base.cell (p := ⟨w.heap.size, 3, none⟩) lt0).trans K0_3.out
       have c0_4 := (HR.out.base.cell (p := ⟨w.heap.size, 4, none⟩) lt0).trans K0_4.out
       have c0_5 := (HR.out.base.cell (p := ⟨w.heap.size, 5, none⟩) lt0).trans K0_5.out
       have c1_0 := (HR.out.base.cell (p := ⟨w.heap.size + 1, 0, none⟩) lt1).trans K1_0.out
       have c1_1 := (HR.out.base.cell (p := ⟨w.heap.size + 1, 1, none⟩) lt1).trans K1_1.out
       have c1_2 := (HR.out.base.cell (p := ⟨w.heap.size + 1, 2, none⟩) lt1).trans K1_2.out
       have hsr := HS1.out.below HR.out.base HS1.out.lt
       have fr0 := hsr.free 0
       have fr1 := hsr.free 1
       have fr2 := hsr.free 2
       clear hsr
       skip)
    | (go_at_call_of 146 z1
       apply Calls.mono
       apply FBag.plus (w0 := wA)
       (focus (first | exact HR.out | exact HR.out.drew | exact HR.out.drew.drew))
       (focus (repeat (first | exact List.Mem.head _ | apply List.Mem.tail)))
       (focus (repeat (first | exact List.Mem.head _ | apply List.Mem.tail)))
       omega
       rintro e wn ⟨r1, r2, r3, rfl, hb⟩
       clear HR
       have HR := Hid.intro hb
       clear hb
       have o9 := (HR.out.ts _ (List.Mem.head _)).1.one
       have str1 := store_one Tryz.prog o9.1
       have str2 := store_one Tryz.prog o9.2.1
       have str3 := store_one Tryz.prog o9.2.2
       clear o9
       have c0_0 := (HR.out.base.cell (p := ⟨w.heap.size, 0, none⟩) lt0).trans K0_0.out
       have c0_1 := (HR.out.base.cell (p := ⟨w.heap.size, 1, none⟩) lt0).trans K0_1.out
       have c0_2 := (HR.out.base.cell (p := ⟨w.heap.size, 2, none⟩) lt0).trans K0_2.out
       have c0_3 := (HR.out.base.cell (p := ⟨w.heap.size, 3, none⟩) lt0).trans K0_3.out
       have c0_4 := (HR.out.base.cell (p := ⟨w.heap.size, 4, none⟩) lt0).trans K0_4.out
       have c0_5 := (HR.out.base.cell (p := ⟨w.heap.size, 5, none⟩) lt0).trans K0_5.out
       have c1_0 := (HR.out.base.cell (p := ⟨w.heap.size + 1, 0, none⟩) lt1).trans K1_0.out
       have c1_1 := (HR.out.base.cell (p := ⟨w.heap.size + 1, 1, none⟩) lt1).trans K1_1.out
       have c1_2 := (HR.out.base.cell (p := ⟨w.heap.size + 1, 2, none⟩) lt1).trans K1_2.out
       have hsr := HS1.out.below HR.out.base HS1.out.lt
       have fr0 := hsr.free 0
       have fr1 := hsr.free 1
       have fr2 := hsr.free 2
       clear hsr
       skip)
    )
  all_goals
    go_wp2
    have hs9 := HS1.out.below HR.out.base HS1.out.lt
    refine bodyPost_ret (v := .agg #[r1, r2, r3]) (results_cell_row rfl _ _ (w.heap.size + 1) 128 #[r1, r2, r3] (0, 0) _ rfl (((hs9.set 0 _).set 1 _).set 2 _) Tryz.underlying128 rfl Tryz.fracInfo) rfl ?_
    have ho := ((((Only.refl (w.heap.size + 1) wn).setCell 0 (r1)).setCell 1 (r2)).setCell 2 (r3))
    refine ⟨_, _, _, rfl, ((HR.out.from HBA.out HGL.out ?_).only ho hs9 zeroFrac_no (by omega))⟩
    intro t ht
    simp only [List.mem_cons, List.not_mem_nil, or_false] at ht
    subst ht
    exact ⟨_, (by repeat (first | exact List.Mem.head _ | apply List.Mem.tail)), Nat.le_refl _⟩

set_option maxRecDepth 100000 in
set_option maxHeartbeats 4000000 in
theorem vec_turnedBack {w : World} {x1 x2 x3 x4 x5 x6 : Value} {sdum : ByteArray} {j1 j2 : Nat} {p1 p2 : Rat} (h : FBag w w [⟨x1, x2, x3, p1, j1⟩, ⟨x4, x5, x6, p2, j2⟩])  :
    Calls Tryz.prog 153 #[.agg #[x1, x2, x3, x4, x5, x6]] w (VNew w p2 j2 (-p1) j1) := by
  obtain ⟨wA, hwA⟩ : ∃ wA, ((w.alloc (.cells #[x1, x2, x3, x4, x5, x6] 130)).alloc (.cells #[.bool false, .slice none 0 0, .slice none 0 0, .bool false, .slice none 0 0, .slice none 0 0] 130)) = wA := ⟨_, rfl⟩
  have hbA : Below w.heap.size w wA := by rw [← hwA]; exact (((Below.refl _ _).alloc (by first | exact Nat.le_refl _ | (simp only [World.size_alloc]; omega)) _).alloc (by first | exact Nat.le_refl _ | (simp only [World.size_alloc]; omega)) _)
  have hs0 : SB wA (w.heap.size) 130 #[x1, x2, x3, x4, x5, x6] := by rw [← hwA]; exact ((SB.new w _ _).alloc _)
  have HS0 := Hid.intro hs0
  have lt0 := hs0.lt
  have K0_0 : Hid (wA.cell? ⟨w.heap.size, 0, none⟩ = some (x1)) := Hid.intro (hs0.cell 0)
  have K0_1 : Hid (wA.cell? ⟨w.heap.size, 1, none⟩ = some (x2)) := Hid.intro (hs0.cell 1)
  have K0_2 : Hid (wA.cell? ⟨w.heap.size, 2, none⟩ = some (x3)) := Hid.intro (hs0.cell 2)
  have K0_3 : Hid (wA.cell? ⟨w.heap.size, 3, none⟩ = some (x4)) := Hid.intro (hs0.cell 3)
  have K0_4 : Hid (wA.cell? ⟨w.heap.size, 4, none⟩ = some (x5)) := Hid.intro (hs0.cell 4)
  have K0_5 : Hid (wA.cell? ⟨w.heap.size, 5, none⟩ = some (x6)) := Hid.intro (hs0.cell 5)
  have hs1 : SB wA (w.heap.size + 1) 130 #[.bool false, .slice none 0 0, .slice none 0 0, .bool false, .slice none 0 0, .slice none 0 0] := by rw [← hwA]; exact (SB.new2 w _ _ _ _)
  have HS1 := Hid.intro hs1
  have lt1 := hs1.lt
  have K1_0 : Hid (wA.cell? ⟨w.heap.size + 1, 0, none⟩ = some (.bool false)) := Hid.intro (hs1.cell 0)
  have K1_1 : Hid (wA.cell? ⟨w.heap.size + 1, 1, none⟩ = some (.slice none 0 0)) := Hid.intro (hs1.cell 1)
  have K1_2 : Hid (wA.cell? ⟨w.heap.size + 1, 2, none⟩ = some (.slice none 0 0)) := Hid.intro (hs1.cell 2)
  have K1_3 : Hid (wA.cell? ⟨w.heap.size + 1, 3, none⟩ = some (.bool false)) := Hid.intro (hs1.cell 3)
  have K1_4 : Hid (wA.cell? ⟨w.heap.size + 1, 4, none⟩ = some (.slice none 0 0)) := Hid.intro (hs1.cell 4)
  have K1_5 : Hid (wA.cell? ⟨w.heap.size + 1, 5, none⟩ = some (.slice none 0 0)) := Hid.intro (hs1.cell 5)
  have ne01 : w.heap.size ≠ w.heap.size + 1 := by omega
  have ne10 : w.heap.size + 1 ≠ w.heap.size := by omega
  have HR := Hid.intro (h.below hbA).rebase
  have HGL := Hid.intro h.glob
  have HBA := Hid.intro hbA
  have HWA := Hid.intro hwA
  clear h hbA hwA hs0 hs1
  have o8 := (HR.out.ts _ (List.Mem.tail _ (List.Mem.head _))).1.one
  have stx4 := store_one Tryz.prog o8.1
  have stx5 := store_one Tryz.prog o8.2.1
  have stx6 := store_one Tryz.prog o8.2.2
  clear o8
  go_enter Tryz.func153, Tryz.ntmps153
  have c0_0 := (HR.out.base.cell (p := ⟨w.heap.size, 0, none⟩) lt0).trans K0_0.out
  have c0_1 := (HR.out.base.cell (p := ⟨w.heap.size, 1, none⟩) lt0).trans K0_1.out
  have c0_2 := (HR.out.base.cell (p := ⟨w.heap.size, 2, none⟩) lt0).trans K0_2.out
  have c0_3 := (HR.out.base.cell (p := ⟨w.heap.size, 3, none⟩) lt0).trans K0_3.out
  have c0_4 := (HR.out.base.cell (p := ⟨w.heap.size, 4, none⟩) lt0).trans K0_4.out
  have c0_5 := (HR.out.base.cell (p := ⟨w.heap.size, 5, none⟩) lt0).trans K0_5.out
  have c1_0 := (HR.out.base.cell (p := ⟨w.heap.size + 1, 0, none⟩) lt1).trans K1_0.out
  have c1_1 := (HR.out.base.cell (p := ⟨w.heap.size + 1, 1, none⟩) lt1).trans K1_1.out
  have c1_2 := (HR.out.base.cell (p := ⟨w.heap.size + 1, 2, none⟩) lt1).trans K1_2.out
  have c1_3 := (HR.out.base.cell (p := ⟨w.heap.size + 1, 3, none⟩) lt1).trans K1_3.out
  have c1_4 := (HR.out.base.cell (p := ⟨w.heap.size + 1, 4, none⟩) lt1).trans K1_4.out
  have c1_5 := (HR.out.base.cell (p := ⟨w.heap.size + 1, 5, none⟩) lt1).trans K1_5.out
  have hsr := HS1.out.below HR.out.base HS1.out.lt
  have fr0 := hsr.free 0
  have fr1 := hsr.free 1
  have fr2 := hsr.free 2
  have fr3 := hsr.free 3
  have fr4 := hsr.free 4
  have fr5 := hsr.free 5
  clear hsr
  go_wp2_with fail
  rw [show ((w.alloc (.cells #[x1, x2, x3, x4, x5, x6] 130)).alloc (.cells #[.bool false, .slice none 0 0, .slice none 0 0, .bool false, .slice none 0 0, .slice none 0 0] 130)) = wA from HWA.out]
  go_region_held3
    (fun w' => w'.cell? ⟨w.heap.size, 0, none⟩ = some (x1) ∧ w'.cell? ⟨w.heap.size, 1, none⟩ = some (x2) ∧ w'.cell? ⟨w.heap.size, 2, none⟩ = some (x3) ∧ w'.cell? ⟨w.heap.size, 3, none⟩ = some (x4) ∧ w'.cell? ⟨w.heap.size, 4, none⟩ = some (x5) ∧ w'.cell? ⟨w.heap.size, 5, none⟩ = some (x6)) ((first | (simp [*]; done) | go_keep))
    (first
    | (go_at_call_of 196 x1
       apply Calls.mono
       apply FBag.neg (w0 := wA)
       (focus (first | exact HR.out | exact HR.out.drew | exact HR.out.drew.drew))
       (focus (repeat (first | exact List.Mem.head _ | apply List.Mem.tail)))
       rintro e wn ⟨z1, z2, z3, rfl, hb⟩
       clear HR
       have HR := Hid.intro hb
       clear hb
       have o9 := (HR.out.ts _ (List.Mem.head _)).1.one
       have stz1 := store_one Tryz.prog o9.1
       have stz2 := store_one Tryz.prog o9.2.1
       have stz3 := store_one Tryz.prog o9.2.2
       clear o9
       have c0_0 := (HR.out.base.cell (p := ⟨w.heap.size, 0, none⟩) lt0).trans K0_0.out
       have c0_1 := (HR.out.base.cell (p := ⟨w.heap.size, 1, none⟩) lt0).trans K0_1.out
       have c0_2 := (HR.out.base.cell (p := ⟨w.heap.size, 2, none⟩) lt0).trans K0_2.out
       have c0_3 := (HR.out.base.cell (p := ⟨w.heap.size, 3, none⟩) lt0).trans K0_3.out
       have c0_4 := (HR.out.base.cell (p := ⟨w.heap.size, 4, none⟩) lt0).trans K0_4.out
       have c0_5 := (HR.out.base.cell (p := ⟨w.heap.size, 5, none⟩) lt0).trans K0_5.out
       have c1_0 := (HR.out.base.cell (p := ⟨w.heap.size + 1, 0, none⟩) lt1).trans K1_0.out
       have c1_1 := (HR.out.base.cell (p := ⟨w.heap.size + 1, 1, none⟩) lt1).trans K1_1.out
       have c1_2 := (HR.out.base.cell (p := ⟨w.heap.size + 1, 2, none⟩) lt1).trans K1_2.out
       have c1_3 := (HR.out.base.cell (p := ⟨w.heap.size + 1, 3, none⟩) lt1).trans K1_3.out
       have c1_4 := (HR.out.base.cell (p := ⟨w.heap.size + 1, 4, none⟩) lt1).trans K1_4.out
       have c1_5 := (HR.out.base.cell (p := ⟨w.heap.size + 1, 5, none⟩) lt1).trans K1_5.out
       have hsr := HS1.out.below HR.out.base HS1.out.lt
       have fr0 := hsr.free 0
       have fr1 := hsr.free 1
       have fr2 := hsr.free 2
       have fr3 := hsr.free 3
       have fr4 := hsr.free 4
       have fr5 := hsr.free 5
       clear hsr
       skip)
    )
  all_goals
    go_wp2
    have hs9 := HS1.out.below HR.out.base HS1.out.lt
    refine bodyPost_ret (v := .agg #[x4, x5, x6, z1, z2, z3]) (results_cell_row rfl _ _ (w.heap.size + 1) 130 #[x4, x5, x6, z1, z2, z3] (0, 0) _ rfl ((((((hs9.set 0 _).set 1 _).set 2 _).set 3 _).set 4 _).set 5 _) Tryz.underlying130 rfl Tryz.vecInfo) rfl ?_
    have ho := (((((((Only.refl (w.heap.size + 1) wn).setCell 0 (x4)).setCell 1 (x5)).setCell 2 (x6)).setCell 3 (z1)).setCell 4 (z2)).setCell 5 (z3))
    refine ⟨_, _, _, _, _, _, rfl, ((HR.out.from HBA.out HGL.out ?_).only ho hs9 zeroVec_no (by omega))⟩
    intro t ht
    simp only [List.mem_cons, List.not_mem_nil, or_false] at ht
    rcases ht with rfl | rfl
    · exact ⟨_, (by repeat (first | exact List.Mem.head _ | apply List.Mem.tail)), Nat.le_refl _⟩
    · exact ⟨_, (by repeat (first | exact List.Mem.head _ | apply List.Mem.tail)), Nat.le_refl _⟩

end Go.Proofs.YtgnmjaponiclhaaGreatDoor
