/- For every world that holds the tables, and all forces and places that together are of bulk at most 1048576: ForceTurns answers true; the row's statement and its card. -/
import Derived.Test.YtgnmjaponiclhaaGreatDoorC41RowA
import Derived.Test.YtgnmjaponiclhaaGreatDoorCards
import Derived.Test.YtgnmjaponiclhaaGreatDoorTie
import Derived.Deep.DeepHandedRow
namespace Go.Proofs.YtgnmjaponiclhaaGreatDoor
namespace forceTurns
open Go.ChangeShapes Go.WideShapes Go.ChangeAt Go.RowKit
set_option linter.unusedVariables false
set_option linter.unusedSimpArgs false

set_option maxRecDepth 100000 in
set_option maxHeartbeats 1000000 in
theorem contract (H : Type) (enc : TypeId × Value → H) (W : World) (base : Nat) (args : Array Value) (ds gs : List (DataW H)) (before : List MemPlace)
    (hval : ∀ (j : Nat) t v, Tryz.f4.params[j]? = some t → args[j]? = some v → Value.okWide Tryz.prog W .any base t v)
    (hW : DataW.Whole enc Tryz.prog Tryz.f4.params.toList Rows.forceTurnsSpec.vars false W args.toList ds gs before) (hk : Rows.uptoSmall H (ds ++ gs) = true) (hG : Glob W) :
    Calls Tryz.prog 4 args W fun e W' => ∃ v, e = .returned v ∧ Rows.forceTurnsSpec.post enc Tryz.prog Tryz.f4 false true false false W args v W' := by
  have hW' := hW
  obtain ⟨p, q, hA0, hV, rfl, hfz, hnd⟩ := hW
  have hA : DataW.TrodAll enc Tryz.prog W 0 (fun _ => true) true Tryz.f4.params.toList args.toList ds p := hA0
  rw [Tryz.params4] at hA hval
  obtain ⟨v0, v1, v2, d0, d1, d2, p0, p1, p2, rfl, rfl, rfl, h0, h1, h2⟩ := trodAll_three hA
  obtain ⟨rfl, rfl⟩ := trodVars_none hV
  clear hA0
  obtain ⟨a0, l0, c0, rfl⟩ := okWide_slice Tryz.underlying22 (hval 0 22 v0 rfl rfl)
  obtain ⟨a1, l1, c1, rfl⟩ := okWide_slice Tryz.underlying22 (hval 1 22 v1 rfl rfl)
  obtain ⟨cs, rfl, hcs⟩ := okWide_struct Tryz.underlying25 (hval 2 25 v2 rfl rfl)
  unfold Rows.uptoSmall at hk
  have hb := of_decide_eq_true hk
  rw [List.append_nil] at hb
  obtain ⟨fs, rfl, hf, hs, _, _⟩ := forces_in (Nat.le_trans (bulk_part (by simp)) hb) h0
  obtain ⟨gs', rfl, hf2, hs2, _, _⟩ := forces_in (Nat.le_trans (bulk_part (by simp)) hb) h1
  obtain ⟨sx, sy, rfl, hx, hy⟩ := spot_in (Nat.le_trans (bulk_part (by simp)) hb) h2
  have hlt : ∀ x ∈ p0 ++ p1 ++ p2 ++ [], x.block < W.heap.size := fun x hx => hW'.lt x hx
  refine (law_ForceTurns a0 a1 c0 c1 fs gs' sx sy W hG hf hf2 hs hs2 hx hy).mono ?_
  rintro e W' ⟨rfl, hbel⟩
  refine ⟨_, rfl, [d0, d1, d2], [], p0 ++ p1 ++ p2 ++ [], [], p0 ++ (p1 ++ (p2 ++ [])), [], hW', trodAll_cons_mk (shut_bool Tryz.underlying4 _) trodAll_mk0, ?_, rfl, hbel.frame _, fun h => by cases h⟩
  show DataW.TrodAll enc Tryz.prog W' 0 (fun b => decide (b < W.heap.size)) true Tryz.f4.params.toList _ [d0, d1, d2] _
  rw [Tryz.params4]
  exact trodAll_cons_mk (Below.trod laidOut readForces manyTypes.1 h0 hbel (fun x hx => hlt x (by simp [hx])))
    (trodAll_cons_mk (Below.trod laidOut readForces manyTypes.1 h1 hbel (fun x hx => hlt x (by simp [hx]))) (trodAll_cons_mk (Below.trod laidOut readSpot manyTypes.2 h2 hbel (fun x hx => hlt x (by simp [hx]))) trodAll_mk0))

theorem glob {W : World} (hL : laidMetH Tryz.prog Rows.forceTurnsUptoRow.laid W) (hsh : W.ShapedOpen Tryz.prog) : Glob W :=
  ⟨most_of hsh, tab_of (laid_tail (laid_tail (show laidMet Tryz.prog Rows.forceTurnsUptoRow.laid W from hL)))⟩
end forceTurns
end Go.Proofs.YtgnmjaponiclhaaGreatDoor
