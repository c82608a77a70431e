/- For every world that holds the tables, and all forces and places that together are of bulk at most 1048576: ForceSays answers true; the row's statement and its card. -/
import Derived.Test.YtmgebbnmcgfnjaaGreatDoorC41RowA
import Derived.Test.YtmgebbnmcgfnjaaGreatDoorC48SaysD
import Derived.Test.YtmgebbnmcgfnjaaGreatDoorCards
import Derived.Test.YtmgebbnmcgfnjaaGreatDoorTie
import Derived.Deep.DeepHandedRow
namespace Go.Proofs.YtmgebbnmcgfnjaaGreatDoor
namespace forceSays
open Go.ChangeShapes Go.WideShapes Go.ChangeAt Go.RowKit
set_option linter.unusedVariables false
set_option linter.unusedSimpArgs false

set_option maxRecDepth 100000 in
set_option maxHeartbeats 1000000 in
theorem contract (H : Type) (enc : TypeId × Value → H) (W : World) (base : Nat) (args : Array Value) (ds gs : List (DataW H)) (before : List MemPlace)
    (hval : ∀ (j : Nat) t v, Tryz.f3.params[j]? = some t → args[j]? = some v → Value.okWide Tryz.prog W .any base t v)
    (hW : DataW.Whole enc Tryz.prog Tryz.f3.params.toList Rows.forceSaysSpec.vars false W args.toList ds gs before) (hk : Rows.uptoSmall H (ds ++ gs) = true) (hG : Glob W) (hM : Marked W) :
    Calls Tryz.prog 3 args W fun e W' => ∃ v, e = .returned v ∧ Rows.forceSaysSpec.post enc Tryz.prog Tryz.f3 false true false false W args v W' := by
  have hW' := hW
  obtain ⟨p, q, hA0, hV, rfl, hfz, hnd⟩ := hW
  have hA : DataW.TrodAll enc Tryz.prog W 0 (fun _ => true) true Tryz.f3.params.toList args.toList ds p := hA0
  rw [Tryz.params3] at hA hval
  obtain ⟨v0, v1, v2, d0, d1, d2, p0, p1, p2, rfl, rfl, rfl, h0, h1, h2⟩ := trodAll_three hA
  obtain ⟨rfl, rfl⟩ := trodVars_none hV
  clear hA0
  obtain ⟨a0, l0, c0, rfl⟩ := okWide_slice Tryz.underlying22 (hval 0 22 v0 rfl rfl)
  obtain ⟨a1, l1, c1, rfl⟩ := okWide_slice Tryz.underlying22 (hval 1 22 v1 rfl rfl)
  obtain ⟨cs, rfl, hcs⟩ := okWide_struct Tryz.underlying25 (hval 2 25 v2 rfl rfl)
  unfold Rows.uptoSmall at hk
  have hb := of_decide_eq_true hk
  rw [List.append_nil] at hb
  obtain ⟨fs, rfl, hf, hs, hn, _⟩ := forces_in (Nat.le_trans (bulk_part (by simp)) hb) h0
  obtain ⟨gs', rfl, hf2, hs2, _, _⟩ := forces_in (Nat.le_trans (bulk_part (by simp)) hb) h1
  obtain ⟨sx, sy, rfl, hx, hy⟩ := spot_in (Nat.le_trans (bulk_part (by simp)) hb) h2
  have hlt : ∀ x ∈ p0 ++ p1 ++ p2 ++ [], x.block < W.heap.size := fun x hx => hW'.lt x hx
  refine (law_ForceSays a0 a1 c0 c1 fs gs' sx sy W hG hM hf hf2 hn hs hs2 hx hy).mono ?_
  rintro e W' ⟨rfl, hbel⟩
  refine ⟨_, rfl, [d0, d1, d2], [], p0 ++ p1 ++ p2 ++ [], [], p0 ++ (p1 ++ (p2 ++ [])), [], hW', trodAll_cons_mk (shut_bool Tryz.underlying4 _) trodAll_mk0, ?_, rfl, hbel.frame _, fun h => by cases h⟩
  show DataW.TrodAll enc Tryz.prog W' 0 (fun b => decide (b < W.heap.size)) true Tryz.f3.params.toList _ [d0, d1, d2] _
  rw [Tryz.params3]
  exact trodAll_cons_mk (Below.trod laidOut readForces manyTypes.1 h0 hbel (fun x hx => hlt x (by simp [hx])))
    (trodAll_cons_mk (Below.trod laidOut readForces manyTypes.1 h1 hbel (fun x hx => hlt x (by simp [hx]))) (trodAll_cons_mk (Below.trod laidOut readSpot manyTypes.2 h2 hbel (fun x hx => hlt x (by simp [hx]))) trodAll_mk0))

theorem glob {W : World} (hL : laidMetH Tryz.prog Rows.forceSaysUptoRow.laid W) (hsh : W.ShapedOpen Tryz.prog) : Glob W :=
  ⟨most_of hsh, tab_of (laid_tail (laid_tail (show laidMet Tryz.prog Rows.forceSaysUptoRow.laid W from hL)))⟩
theorem gForce : Tryz.prog.globalNamed "rafter/raftersame.Force" = some 0 := by kernel_rfl
theorem gForceType : (Tryz.prog.globals[0]?).map (·.type) = some 29 := by kernel_rfl
theorem mark_of {W : World} {rest : List (String × DataW Unit)} (h : laidMet Tryz.prog (("rafter/raftersame.Force", Rows.laid_rafter_raftersame_Force) :: rest) W) : Marked W := by
  obtain ⟨ps, ⟨g, t, cs, fuel, p, q, hg, ht, hvar, hd, _, _⟩, _⟩ := h
  obtain rfl := Option.some.inj (gForce.symm.trans hg)
  obtain rfl := Option.some.inj (gForceType.symm.trans ht)
  obtain ⟨f, hcs, hx, _⟩ := force_read Tryz.underlying29 Tryz.underlying25 Tryz.underlying23 cellsForce cellsSpot cellsQ rfl rfl rfl rfl rfl rfl rfl rfl hd
  simp only [Rows.laid_rafter_raftersame_Force, forceD, DataW.agg.injEq, List.cons.injEq, DataW.lit.injEq, Lit.string.injEq, and_true] at hx
  obtain ⟨⟨h0, h1⟩, h2, h3⟩ := hx
  have c : ∀ i, W.cell? ⟨0, i, none⟩ = cs.toList[i]? := fun i => by rw [World.var?_cell gForce hvar i]; simp
  rw [hcs] at c
  refine ⟨?_, ?_, ?_, ?_⟩
  · rw [c 0, ← bytes_eq h0.symm]; rfl
  · rw [c 1, ← bytes_eq h1.symm]; rfl
  · rw [c 2, ← bytes_eq h2.symm]; rfl
  · rw [c 3, ← bytes_eq h3.symm]; rfl
theorem mark {W : World} (hL : laidMetH Tryz.prog Rows.forceSaysUptoRow.laid W) : Marked W :=
  mark_of (laid_tail (laid_tail (laid_tail (laid_tail (show laidMet Tryz.prog Rows.forceSaysUptoRow.laid W from hL)))))
end forceSays
end Go.Proofs.YtmgebbnmcgfnjaaGreatDoor
