/- The walk of 'rafterlaw.Names': slices.Equal over two rows of numbers that read alike answers true; Names answers true, in whatever world. No condition. -/
import Derived.Test.YthngbnfapflnpaaRows
import Derived.WalkKit
import Derived.ProofKit
import Derived.OpenShut
import Derived.Below
import Derived.RegionTactic
import Derived.ChangeAlike
import Derived.Outline
namespace Go.Proofs.Ythngbnfapflnpaa
open Go.ChangeShapes Go.WideShapes Go.ChangeAt Go.RowKit
set_option linter.unusedVariables false

theorem equal_yes (b1 b2 n c1 c2 : Nat) (zs : List Int) (w : World) (hn : n ≤ 100) (hb1 : b1 < w.heap.size) (hb2 : b2 < w.heap.size)
    (h1 : ∀ i, i < n → w.cell? ⟨b1, i, none⟩ = some (.int .i64 (zs.getD i 0)))
    (h2 : ∀ i, i < n → w.cell? ⟨b2, i, none⟩ = some (.int .i64 (zs.getD i 0))) :
    Calls Try.prog 4 #[.slice (some ⟨b1, 0, none⟩) n c1, .slice (some ⟨b2, 0, none⟩) n c2] w fun e w' => e = .returned (.bool true) ∧ Below w.heap.size w w' := by
  have hnn : ((n : Int) != (n : Int)) = false := by simp
  go_enter Try.func4, Try.ntmps4
  go_wp2
  go_loopw [13] (fun i wr => ∃ k : Nat, k ≤ n ∧ i = .int .i64 k ∧ Below w.heap.size w wr) (fun i _ => n - (intOf i).toNat)
  case atStart => exact ⟨0, Nat.zero_le _, rfl, Below.refl _ _⟩
  case round =>
    obtain ⟨k, hk, rfl, hg⟩ := hrel
    by_cases hlt : k < n
    · have e1 : wr.cell? ⟨b1, k, none⟩ = some (.int .i64 (zs.getD k 0)) := (hg.cell (p := ⟨b1, k, none⟩) hb1).trans (h1 k hlt)
      have e2 : wr.cell? ⟨b2, k, none⟩ = some (.int .i64 (zs.getD k 0)) := (hg.cell (p := ⟨b2, k, none⟩) hb2).trans (h2 k hlt)
      go_wp2
      go_region
      all_goals
        go_wp2
        go_roundw
        case rel => exact ⟨k + 1, by omega, by go_num, hg.drew⟩
        case measure => simp [intOf]; omega
    · go_wp2
      go_ret
      exact ⟨rfl, hg⟩

theorem row_at (w : World) (zs : List Int) (t : TypeId) (b i : Nat) (hb : b = w.heap.size) (hi : i < zs.length) : (w.alloc (.cells (zs.map (Value.int .i64)).toArray t)).cell? ⟨b, i, none⟩ = some (.int .i64 (zs.getD i 0)) := by
  rw [World.cell?_alloc_at _ _ _ _ hb]
  simp [hi]

def zE : List Int := [0, 1, 2, 3, 4, 5, 6, 7, 8, 9, 10]
def zL : List Int := [4000, 60, 10, 24, 20, 20, 10, 45, 6, 8, 10, 60, 20]
def zK : List Int := [1, 2, 3, 1, 2, 1, 2, 3, 1, 2, 3]
theorem zE_at (k : Nat) (h : k < 11) : zE.getD k 0 = k := by
  match k, h with
  | 0, _ | 1, _ | 2, _ | 3, _ | 4, _ | 5, _ | 6, _ | 7, _ | 8, _ | 9, _ | 10, _ => rfl
  | k + 11, hl => omega

theorem names_any (w : World) : Calls Try.prog 3 #[] w fun e w' => e = .returned (.bool true) ∧ Below w.heap.size w w' := by
  go_enter Try.func3, Try.ntmps3
  go_wp2
  go_loopw [9] (fun i wr => ∃ k : Nat, k ≤ 11 ∧ i = .int .i64 k ∧ (∀ j : Nat, j < 11 → wr.cell? ⟨w.heap.size, j, none⟩ = some (.int .i64 j)) ∧ Below w.heap.size w wr) (fun i _ => 11 - (intOf i).toNat)
  case atStart => exact ⟨0, by omega, rfl, fun j hj => (row_at w zE 22 _ j rfl hj).trans (by rw [zE_at j hj]), (Below.refl _ _).alloc (Nat.le_refl _) _⟩
  case round =>
    obtain ⟨k, hk, rfl, hh, hg⟩ := hrel
    by_cases hlt : k < 11
    · have e2 := hh k hlt
      have hh' : Hid (∀ j : Nat, j < 11 → wr.cell? ⟨w.heap.size, j, none⟩ = some (.int .i64 j)) := hh
      clear hh
      have hne : ((k : Int) != (k : Int)) = false := by simp
      go_wp2
      go_roundw
      case rel => exact ⟨k + 1, by omega, by go_num, hh'.out, hg⟩
      case measure => simp [intOf]; omega
    · clear hh
      have hsz := hg.size
      go_wp2_with fail
      refine (equal_yes wr.heap.size (wr.heap.size + 1 + 1) 13 13 13 zL _ (by omega) (by simp; omega) (by simp) (fun i hi => ?_) (fun i hi => ?_)).mono ?_
      · refine (World.cell?_alloc_past _ _ _ (by simp; omega)).trans ((World.cell?_alloc_past _ _ _ (by simp)).trans ?_)
        exact row_at wr zL 3 _ i rfl hi
      · exact row_at _ zL 3 _ i (by simp) hi
      rintro e w1 ⟨rfl, hb1⟩
      have hs1 := hb1.size
      simp only [World.size_alloc] at hs1
      have hk1 : ∀ i, i < 11 → w1.cell? ⟨wr.heap.size + 1, i, none⟩ = some (.int .i64 (zK.getD i 0)) := fun i hi =>
        (hb1.cell (p := ⟨wr.heap.size + 1, i, none⟩) (by simp)).trans ((World.cell?_alloc_past _ _ _ (by simp)).trans (row_at _ zK 3 _ i (by simp) hi))
      have hb2 : Below w.heap.size w w1 := (((hg.alloc hsz _).alloc (by simp; omega) _).alloc (by simp; omega) _).trans (hb1.mono (by simp; omega))
      have HK : Hid (∀ i, i < 11 → w1.cell? ⟨wr.heap.size + 1, i, none⟩ = some (.int .i64 (zK.getD i 0))) := hk1
      clear hk1 hb1
      go_wp2_with fail
      refine (equal_yes (wr.heap.size + 1) w1.heap.size 11 11 11 zK _ (by omega) (by simp; omega) (by simp) (fun i hi => ?_) (fun i hi => ?_)).mono ?_
      · exact (World.cell?_alloc_past _ _ _ (by omega)).trans (HK.out i hi)
      · exact row_at _ zK 3 _ i rfl hi
      rintro e w2 ⟨rfl, hb3⟩
      go_wp2
      go_ret
      exact ⟨rfl, (hb2.alloc (by omega) _).trans (hb3.mono (by simp; omega))⟩
end Go.Proofs.Ythngbnfapflnpaa
