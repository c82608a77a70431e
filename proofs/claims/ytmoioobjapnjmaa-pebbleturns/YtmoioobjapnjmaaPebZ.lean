/- Proved: for every number of points, every list of edges and every list of turns, in whatever memory, 'rafterlaw.PebbleTurns' returns true and what came in reads as it did. No condition. -/
import Derived.Test.YtmoioobjapnjmaaPebY
import Derived.Test.YtmoioobjapnjmaaRows
import Derived.WalkKit
import Derived.ProofKit
import Derived.OpenShut
import Derived.ChangeOld
import Derived.Below
import Derived.Deep.Slices
import Derived.Carry
namespace Go.Proofs.Ytmoioobjapnjmaa
open Go.ChangeShapes Go.WideShapes Go.ChangeAt Go.RowKit
set_option linter.unusedVariables false
set_option linter.unusedSimpArgs false

section
variable {H : Type} {enc : TypeId × Value → H} {P : Program} {w : World} {base : Nat} {spare : Nat → Bool} {held : Bool} {fuel : Nat} {cs : List Value} {x : DataW H × List MemPlace} {tE t : TypeId}
theorem pair_read (u : P.underlying tE = some (.array 2 t)) (uI : P.underlying t = some (.int .i64)) (cE : P.cellsOf tE = 2) (cI : P.cellsOf t = 1)
    (h : DataW.trod enc P w base spare held fuel tE cs = some x) : ∃ e : Int × Int, cs = eCells e := by
  obtain ⟨xs, m, rfl, rfl, hl, hxl, hf⟩ := DataW.trod_array u h
  rw [cE] at hl
  clear h
  have h0 := hf 0 (by decide)
  have h1 := hf 1 (by decide)
  rw [cI] at h0 h1
  match cs, hl, xs, hxl with
  | [v0, v1], _, [y0, y1], _ =>
    simp only [List.drop_zero, Nat.zero_mul, Nat.one_mul, List.drop_succ_cons, List.take_succ_cons, List.take_zero, List.getElem?_cons_zero, List.getElem?_cons_succ] at h0 h1
    obtain ⟨a, e0, rfl, _⟩ := DataW.trod_int uI h0
    obtain ⟨b, e1, rfl, _⟩ := DataW.trod_int uI h1
    obtain rfl : v0 = _ := by simpa using e0
    obtain rfl : v1 = _ := by simpa using e1
    exact ⟨(a, b), rfl⟩
theorem one_read (uI : P.underlying t = some (.int .i64)) (h : DataW.trod enc P w base spare held fuel t cs = some x) : ∃ z : Int, cs = [.int .i64 z] := by
  obtain ⟨a, e0, _⟩ := DataW.trod_int uI h
  exact ⟨a, e0⟩
/-- a row of things, read -/
theorem row_read {α : Type} {c : α → List Value} {sz : Nat} (dflt : α) (hsz : 0 < sz) (hc : ∀ e, (c e).length = sz) (ut : P.underlying t = some (.slice tE)) (cE : P.cellsOf tE = sz)
    (each : ∀ (fuel : Nat) (cs : List Value) (x : DataW H × List MemPlace), DataW.trod enc P w base spare held fuel tE cs = some x → ∃ e, cs = c e)
    (h : DataW.trod enc P w base spare held fuel t cs = some x) :
    ∃ (a : Option Addr) (cap : Nat) (es : List α), cs = [.slice a es.length cap] ∧ es.length ≤ cap ∧ es.length ≤ maxLen ∧ ∀ i e, es[i]? = some e → ∃ b off, a = some ⟨b, off, none⟩ ∧ b < w.heap.size ∧ ∀ j u, (c e)[j]? = some u → w.cell? ⟨b, off + i * sz + j, none⟩ = some u := by
  rcases Deep.open_slice ut h with ⟨rfl, rfl⟩ | ⟨a, len, cap, m, n, D, Pl, rfl, hb, hlc, hcm, hm, rfl, hD⟩
  · exact ⟨none, 0, [], rfl, by simp, by simp, fun i e hi => by simp at hi⟩
  have hlm : len ≤ m := by rw [hm]; split <;> omega
  have eachI : ∀ i, ∃ f : α, i < len → w.cells? base (a.add (i * sz)) sz = some (c f) := by
    intro i
    by_cases hi : i < len
    · obtain ⟨cs', h1, h2⟩ := hD i (by omega)
      obtain ⟨f, rfl⟩ := each _ _ _ h2
      rw [cE] at h1
      exact ⟨f, fun _ => h1⟩
    · exact ⟨dflt, fun h => absurd h hi⟩
  obtain ⟨F, hF⟩ := Classical.axiomOfChoice eachI
  refine ⟨some a, cap, (List.range len).map F, by simp, by simpa using hlc, by simp; exact Nat.le_trans hlc hcm, fun i e hi => ?_⟩
  have hil : i < len := by simpa using (List.getElem?_eq_some_iff.1 hi).1
  obtain rfl : F i = e := by simpa [hil] using hi
  obtain ⟨_, _, hcell⟩ := World.cells?_some (hF i hil)
  obtain ⟨b, off, sp⟩ := a
  have z := (World.cells?_some (hF 0 (by omega))).2.2 0 hsz
  have hsp : sp = none := by
    cases sp with
    | none => rfl
    | some v =>
      exfalso
      obtain ⟨z0, hz0⟩ : ∃ z0, (c (F 0))[0]? = some z0 := ⟨_, List.getElem?_eq_getElem (by rw [hc]; exact hsz)⟩
      rw [hz0] at z
      simp only [Nat.zero_mul, Addr.add, if_true, World.cell?] at z
      split at z <;> simp at z
  subst hsp
  have ea : ∀ j k, (Addr.add ⟨b, off, none⟩ j).add k = ⟨b, off + j + k, none⟩ := by
    intro j k
    unfold Addr.add
    by_cases hj : j = 0 <;> by_cases hk : k = 0 <;> simp [hj, hk]
  have hall : ∀ j u, (c (F i))[j]? = some u → w.cell? ⟨b, off + i * sz + j, none⟩ = some u := fun j u hj => by
    have hjl := (List.getElem?_eq_some_iff.1 hj).1
    rw [hc] at hjl
    have := hcell j hjl
    rw [ea, hj] at this
    exact this
  obtain ⟨u0, hu0⟩ : ∃ u0, (c (F i))[0]? = some u0 := ⟨_, List.getElem?_eq_getElem (by rw [hc]; exact hsz)⟩
  exact ⟨b, off, rfl, World.block_lt_of_cell? _ _ (hall 0 u0 hu0), hall⟩
end
theorem cellsPair : Try.prog.cellsOf 29 = 2 := by kernel_rfl
theorem edges_in {H : Type} {enc : TypeId × Value → H} {W : World} {a : Option Addr} {len cap : Nat} {d : DataW H} {ps : List MemPlace} (h : DataW.Trod enc Try.prog W 0 (fun _ => true) true 27 (.slice a len cap) d ps) :
    ∃ es : List (Int × Int), len = es.length ∧ ERow W a cap es ∧ es.length ≤ maxLen := by
  obtain ⟨fuel, h⟩ := h
  obtain ⟨a', cap', es, e, h1, h2, h3⟩ := row_read (c := eCells) (sz := 2) (0, 0) (by decide) (fun _ => rfl) Try.underlying27 cellsPair (fun f cs x hx => pair_read Try.underlying29 Try.underlying3 cellsPair cellsInt hx) h
  have e' : [Value.slice a len cap] = [Value.slice a' es.length cap'] := e
  simp only [List.cons.injEq, and_true, Value.slice.injEq] at e'
  obtain ⟨rfl, rfl, rfl⟩ := e'
  refine ⟨es, rfl, ⟨h1, fun i e hi => ?_⟩, h2⟩
  obtain ⟨b, off, ha, hb, hc⟩ := h3 i e hi
  exact ⟨b, off, ha, hb, hc 0 _ rfl, hc 1 _ rfl⟩
theorem ints_in {H : Type} {enc : TypeId × Value → H} {W : World} {a : Option Addr} {len cap : Nat} {d : DataW H} {ps : List MemPlace} (h : DataW.Trod enc Try.prog W 0 (fun _ => true) true 24 (.slice a len cap) d ps) :
    ∃ ts : List Int, len = ts.length ∧ IRow W a cap ts ∧ ts.length ≤ maxLen := by
  obtain ⟨fuel, h⟩ := h
  obtain ⟨a', cap', es, e, h1, h2, h3⟩ := row_read (c := fun z : Int => [Value.int .i64 z]) (sz := 1) 0 (by decide) (fun _ => rfl) Try.underlying24 cellsInt (fun f cs x hx => one_read Try.underlying3 hx) h
  have e' : [Value.slice a len cap] = [Value.slice a' es.length cap'] := e
  simp only [List.cons.injEq, and_true, Value.slice.injEq] at e'
  obtain ⟨rfl, rfl, rfl⟩ := e'
  refine ⟨es, rfl, ⟨h1, fun i e hi => ?_⟩, h2⟩
  obtain ⟨b, off, ha, hb, hc⟩ := h3 i e hi
  have := hc 0 _ rfl
  rw [Nat.mul_one, Nat.add_zero] at this
  exact ⟨b, off, ha, hb, this⟩

theorem own : ownKnob Try.prog.godebug = none := by kernel_rfl
theorem readInt : Try.prog.readableRec 3 = true := by kernel_rfl
theorem readInts : Try.prog.readableRec 24 = true := by kernel_rfl
theorem readEdges : Try.prog.readableRec 27 = true := by kernel_rfl
theorem manyTypes : 3 < Try.prog.types.size ∧ 27 < Try.prog.types.size ∧ 24 < Try.prog.types.size := by
  refine ⟨?_, ?_, ?_⟩ <;> (refine of_decide_eq_true ?_; kernel_rfl)
theorem laidOut : laidOutB Try.prog = true := by kernel_rfl
set_option maxRecDepth 100000 in
theorem lifted_Turns (os : Os) (started : os.Started) (H : Type) (enc : TypeId × Value → H) :
    ReturnsInHanded {} Try.checked os 5 .any (Rows.pebbleTurnsSpec.pre6 enc Try.prog Try.f5 Rows.pebbleTurnsRow.domain false) (Rows.pebbleTurnsSpec.post enc Try.prog Try.f5 false true false false) := by
  refine returnsInHanded_of_change (C := Try.checked) own started (by kernel_rfl) Try.func5
    (ChangeSpec.witness6 (enc := enc) (C := Try.checked) false ⟨#[], #[.int .i64 0, .slice none 0 0, .slice none 0 0], []⟩ 8 (by kernel_rfl) (by kernel_rfl) (by kernel_rfl) (by kernel_rfl)) ?_
  intro W base args ds gs before hval0 hW hcnd _
  have hval : ∀ (j : Nat) t v, Try.f5.params[j]? = some t → args[j]? = some v → Value.okWide Try.prog W .any base t v := hval0
  have hW' := hW
  obtain ⟨p, q, hA0, hV, rfl, hfz, hnd⟩ := hW
  have hA : DataW.TrodAll enc Try.prog W 0 (fun _ => true) true Try.f5.params.toList args.toList ds p := hA0
  rw [Try.params5] at hA hval
  obtain ⟨v0, v1, v2, d0, d1, d2, p0, p1, p2, rfl, rfl, rfl, h0, h1, h2⟩ := trodAll_three hA
  obtain ⟨rfl, rfl⟩ := trodVars_none hV
  clear hA0 hval0
  obtain ⟨n, rfl⟩ := okWide_int Try.underlying3 (hval 0 3 v0 rfl rfl)
  obtain ⟨a1, l1, c1, rfl⟩ := okWide_slice Try.underlying27 (hval 1 27 v1 rfl rfl)
  obtain ⟨a2, l2, c2, rfl⟩ := okWide_slice Try.underlying24 (hval 2 24 v2 rfl rfl)
  obtain ⟨es, rfl, he, hel⟩ := edges_in h1
  obtain ⟨ts, rfl, ht, htl⟩ := ints_in h2
  have hlt : ∀ x ∈ p0 ++ p1 ++ p2 ++ [], x.block < W.heap.size := fun x hx => hW'.lt x hx
  refine (law_Turns n a1 a2 c1 c2 es ts W he hel ht htl).mono ?_
  rintro e W' ⟨rfl, hbel⟩
  refine ⟨_, rfl, [d0, d1, d2], [], p0 ++ p1 ++ p2 ++ [], [], p0 ++ (p1 ++ (p2 ++ [])), [], hW', trodAll_cons_mk (shut_bool Try.underlying4 _) trodAll_mk0, ?_, rfl, hbel.frame _, fun h => by cases h⟩
  show DataW.TrodAll enc Try.prog W' 0 (fun b => decide (b < W.heap.size)) true Try.f5.params.toList _ [d0, d1, d2] _
  rw [Try.params5]
  exact trodAll_cons_mk (Below.trod laidOut readInt manyTypes.1 h0 hbel (fun x hx => hlt x (by simp [hx])))
    (trodAll_cons_mk (Below.trod laidOut readEdges manyTypes.2.1 h1 hbel (fun x hx => hlt x (by simp [hx]))) (trodAll_cons_mk (Below.trod laidOut readInts manyTypes.2.2 h2 hbel (fun x hx => hlt x (by simp [hx]))) trodAll_mk0))
theorem over_Turns : Rows.pebbleTurnsRow.holds Try.pinned (OpenSpec.ofChange Rows.pebbleTurnsSpec) :=
  OpenClaim.holds_of_wide 5 Try.f5 rfl rfl rfl rfl rfl rfl rfl ⟨rfl, rfl, rfl, rfl, rfl⟩ rfl rfl rfl rfl rfl (by kernel_rfl) Try.func5 (by kernel_rfl)
    (of_decide_eq_true (by kernel_rfl)) (by unfold Func.isWrapper; first | (rw [if_pos (by decide +kernel)]; kernel_rfl) | (rw [if_neg (by decide +kernel)]; exact ⟨rfl, rfl⟩))
    (fun os started H enc _ => lifted_Turns os started H enc)
theorem pebbleTurns_holds : Rows.PebbleTurnsSaid :=
  over_Turns
#print axioms pebbleTurns_holds
end Go.Proofs.Ytmoioobjapnjmaa
