/- Proved: for every number of points and every list of edges, in whatever memory, 'rafterlaw.PebbleSays' returns true and what came in reads as it did. No condition. -/
import Derived.Test.YtgnmjaponiclhaaPebSb
import Derived.Test.YtgnmjaponiclhaaRows
import Derived.WalkKit
import Derived.ProofKit
import Derived.OpenShut
import Derived.ChangeOld
import Derived.Below
import Derived.Deep.Slices
import Derived.Carry
import Derived.SizedLaws
namespace Go.Proofs.Ytgnmjaponiclhaa
open Go.ChangeShapes Go.WideShapes Go.ChangeAt Go.RowKit
set_option linter.unusedVariables false
set_option linter.unusedSimpArgs false

section
variable {H : Type} {enc : TypeId × Value → H} {P : Program} {w : World} {base : Nat} {spare : Nat → Bool} {held : Bool} {fuel : Nat} {cs : List Value} {x : DataW H × List MemPlace} {tE t : TypeId}
theorem pair_read (u : P.underlying tE = some (.array 2 t)) (uI : P.underlying t = some (.int .i64)) (cE : P.cellsOf tE = 2) (cI : P.cellsOf t = 1)
    (h : DataW.trod enc P w base spare held fuel tE cs = some x) : ∃ e : Int × Int, cs = eCells e := by
  obtain ⟨xs, m, rfl, rfl, hl, hxl, hf⟩ := DataW.trod_array u h
  rw [cE] at hl
  clear h
  have h0 := hf 0 (by decide)
  have h1 := hf 1 (by decide)
  rw [cI] at h0 h1
  match cs, hl, xs, hxl with
  | [v0, v1], _, [y0, y1], _ =>
    simp only [List.drop_zero, Nat.zero_mul, Nat.one_mul, List.drop_succ_cons, List.take_succ_cons, List.take_zero, List.getElem?_cons_zero, List.getElem?_cons_succ] at h0 h1
    obtain ⟨a, e0, rfl, _⟩ := DataW.trod_int uI h0
    obtain ⟨b, e1, rfl, _⟩ := DataW.trod_int uI h1
    obtain rfl : v0 = _ := by simpa using e0
    obtain rfl : v1 = _ := by simpa using e1
    exact ⟨(a, b), rfl⟩
/-- a row of things, read -/
theorem row_read {α : Type} {c : α → List Value} {sz : Nat} (dflt : α) (hsz : 0 < sz) (hc : ∀ e, (c e).length = sz) (ut : P.underlying t = some (.slice tE)) (cE : P.cellsOf tE = sz)
    (each : ∀ (fuel : Nat) (cs : List Value) (x : DataW H × List MemPlace), DataW.trod enc P w base spare held fuel tE cs = some x → ∃ e, cs = c e)
    (h : DataW.trod enc P w base spare held fuel t cs = some x) :
    ∃ (a : Option Addr) (cap : Nat) (es : List α), cs = [.slice a es.length cap] ∧ es.length ≤ cap ∧ es.length ≤ maxLen ∧ ∀ i e, es[i]? = some e → ∃ b off, a = some ⟨b, off, none⟩ ∧ b < w.heap.size ∧ ∀ j u, (c e)[j]? = some u → w.cell? ⟨b, off + i * sz + j, none⟩ = some u := by
  rcases Deep.open_slice ut h with ⟨rfl, rfl⟩ | ⟨a, len, cap, m, n, D, Pl, rfl, hb, hlc, hcm, hm, rfl, hD⟩
  · exact ⟨none, 0, [], rfl, by simp, by simp, fun i e hi => by simp at hi⟩
  have hlm : len ≤ m := by rw [hm]; split <;> omega
  have eachI : ∀ i, ∃ f : α, i < len → w.cells? base (a.add (i * sz)) sz = some (c f) := by
    intro i
    by_cases hi : i < len
    · obtain ⟨cs', h1, h2⟩ := hD i (by omega)
      obtain ⟨f, rfl⟩ := each _ _ _ h2
      rw [cE] at h1
      exact ⟨f, fun _ => h1⟩
    · exact ⟨dflt, fun h => absurd h hi⟩
  obtain ⟨F, hF⟩ := Classical.axiomOfChoice eachI
  refine ⟨some a, cap, (List.range len).map F, by simp, by simpa using hlc, by simp; exact Nat.le_trans hlc hcm, fun i e hi => ?_⟩
  have hil : i < len := by simpa using (List.getElem?_eq_some_iff.1 hi).1
  obtain rfl : F i = e := by simpa [hil] using hi
  obtain ⟨_, _, hcell⟩ := World.cells?_some (hF i hil)
  obtain ⟨b, off, sp⟩ := a
  have z := (World.cells?_some (hF 0 (by omega))).2.2 0 hsz
  have hsp : sp = none := by
    cases sp with
    | none => rfl
    | some v =>
      exfalso
      obtain ⟨z0, hz0⟩ : ∃ z0, (c (F 0))[0]? = some z0 := ⟨_, List.getElem?_eq_getElem (by rw [hc]; exact hsz)⟩
      rw [hz0] at z
      simp only [Nat.zero_mul, Addr.add, if_true, World.cell?] at z
      split at z <;> simp at z
  subst hsp
  have ea : ∀ j k, (Addr.add ⟨b, off, none⟩ j).add k = ⟨b, off + j + k, none⟩ := by
    intro j k
    unfold Addr.add
    by_cases hj : j = 0 <;> by_cases hk : k = 0 <;> simp [hj, hk]
  have hall : ∀ j u, (c (F i))[j]? = some u → w.cell? ⟨b, off + i * sz + j, none⟩ = some u := fun j u hj => by
    have hjl := (List.getElem?_eq_some_iff.1 hj).1
    rw [hc] at hjl
    have := hcell j hjl
    rw [ea, hj] at this
    exact this
  obtain ⟨u0, hu0⟩ : ∃ u0, (c (F i))[0]? = some u0 := ⟨_, List.getElem?_eq_getElem (by rw [hc]; exact hsz)⟩
  exact ⟨b, off, rfl, World.block_lt_of_cell? _ _ (hall 0 u0 hu0), hall⟩
end
theorem cellsPair : Try.prog.cellsOf 29 = 2 := by kernel_rfl
theorem edges_in {H : Type} {enc : TypeId × Value → H} {W : World} {a : Option Addr} {len cap : Nat} {d : DataW H} {ps : List MemPlace} (h : DataW.Trod enc Try.prog W 0 (fun _ => true) true 27 (.slice a len cap) d ps) :
    ∃ es : List (Int × Int), len = es.length ∧ ERow W a cap es ∧ es.length ≤ maxLen := by
  obtain ⟨fuel, h⟩ := h
  obtain ⟨a', cap', es, e, h1, h2, h3⟩ := row_read (c := eCells) (sz := 2) (0, 0) (by decide) (fun _ => rfl) Try.underlying27 cellsPair (fun f cs x hx => pair_read Try.underlying29 Try.underlying3 cellsPair cellsInt hx) h
  have e' : [Value.slice a len cap] = [Value.slice a' es.length cap'] := e
  simp only [List.cons.injEq, and_true, Value.slice.injEq] at e'
  obtain ⟨rfl, rfl, rfl⟩ := e'
  refine ⟨es, rfl, ⟨h1, fun i e hi => ?_⟩, h2⟩
  obtain ⟨b, off, ha, hb, hc⟩ := h3 i e hi
  exact ⟨b, off, ha, hb, hc 0 _ rfl, hc 1 _ rfl⟩
theorem bytesPair : Try.prog.bytesOf 29 = 16 := by kernel_rfl
theorem edges_len {H : Type} {enc : TypeId × Value → H} {W : World} {a : Option Addr} {len cap : Nat} {d : DataW H} {ps : List MemPlace} (h : DataW.Trod enc Try.prog W 0 (fun _ => true) true 27 (.slice a len cap) d ps) :
    len = 0 ∨ ∃ el sp, d = .slice el sp ∧ el.length = len := by
  obtain ⟨fuel, h⟩ := h
  rcases Deep.open_slice Try.underlying27 h with ⟨e, _⟩ | ⟨a', len', cap', m, n, D, Pl, e, _, _, _, _, e2, _⟩
  · have e' : [Value.slice a len cap] = [Value.slice none 0 0] := e
    simp only [List.cons.injEq, and_true, Value.slice.injEq] at e'
    exact .inl e'.2.1
  · have e' : [Value.slice a len cap] = [Value.slice (some a') len' cap'] := e
    simp only [List.cons.injEq, and_true, Value.slice.injEq] at e'
    obtain ⟨_, rfl, _⟩ := e'
    simp only [Prod.mk.injEq] at e2
    exact .inr ⟨_, _, e2.1, by simp⟩
theorem own : ownKnob Try.prog.godebug = none := by kernel_rfl
theorem readInt : Try.prog.readableRec 3 = true := by kernel_rfl
theorem readEdges : Try.prog.readableRec 27 = true := by kernel_rfl
theorem manyTypes : 3 < Try.prog.types.size ∧ 27 < Try.prog.types.size := by
  refine ⟨?_, ?_⟩ <;> (refine of_decide_eq_true ?_; kernel_rfl)
theorem laidOut : laidOutB Try.prog = true := by kernel_rfl
set_option maxRecDepth 100000 in
theorem lifted_Says (os : Os) (started : os.Started) (H : Type) (enc : TypeId × Value → H) :
    ReturnsInHanded {} Try.checked os 4 .any (Rows.pebbleSaysSpec.pre6 enc Try.prog Try.f4 Rows.pebbleSaysRow.domain false) (Rows.pebbleSaysSpec.post enc Try.prog Try.f4 false true false false) := by
  refine returnsInHanded_of_change_sized (C := Try.checked) own started (by kernel_rfl) Try.func4
    (ChangeSpec.witness6 (enc := enc) (C := Try.checked) false ⟨#[], #[.int .i64 0, .slice none 0 0], []⟩ 8 (by kernel_rfl) (by kernel_rfl) (by kernel_rfl) (by kernel_rfl)) ?_
  intro W base args ds gs before hval0 hW hcnd hsz0 _
  have hval : ∀ (j : Nat) t v, Try.f4.params[j]? = some t → args[j]? = some v → Value.okWide Try.prog W .any base t v := hval0
  have hsz : (DataW.weightsEach Try.prog (Try.f4.params.toList ++ Rows.pebbleSaysSpec.plain.varTypes Try.prog) (ds ++ gs)).all (· ≤ reachBytes) = true := hsz0
  have hW' := hW
  obtain ⟨p, q, hA0, hV, rfl, hfz, hnd⟩ := hW
  have hA : DataW.TrodAll enc Try.prog W 0 (fun _ => true) true Try.f4.params.toList args.toList ds p := hA0
  rw [Try.params4] at hA hval hsz
  obtain ⟨v0, v1, d0, d1, p0, p1, rfl, rfl, rfl, h0, h1⟩ := trodAll_two hA
  obtain ⟨rfl, rfl⟩ := trodVars_none hV
  clear hA0 hval0 hsz0
  obtain ⟨n, rfl⟩ := okWide_int Try.underlying3 (hval 0 3 v0 rfl rfl)
  obtain ⟨a1, l1, c1, rfl⟩ := okWide_slice Try.underlying27 (hval 1 27 v1 rfl rfl)
  have hl1 : l1 ≤ 8796093021952 := by
    rcases edges_len h1 with h | ⟨el, sp, hd, hl⟩
    · omega
    · have := sized_slice hsz (j := 1) (t := 27) (elems := el) (spare := sp) rfl (by rw [hd]; rfl) Try.underlying27
      rw [bytesPair, hl] at this
      unfold reachBytes at this
      omega
  obtain ⟨es, rfl, he, hel⟩ := edges_in h1
  have hlt : ∀ x ∈ p0 ++ p1 ++ [], x.block < W.heap.size := fun x hx => hW'.lt x hx
  refine (law_Says n a1 c1 es W he hl1).mono ?_
  rintro e W' ⟨rfl, hbel⟩
  refine ⟨_, rfl, [d0, d1], [], p0 ++ p1 ++ [], [], p0 ++ (p1 ++ []), [], hW', trodAll_cons_mk (shut_bool Try.underlying4 _) trodAll_mk0, ?_, rfl, hbel.frame _, fun h => by cases h⟩
  show DataW.TrodAll enc Try.prog W' 0 (fun b => decide (b < W.heap.size)) true Try.f4.params.toList _ [d0, d1] _
  rw [Try.params4]
  exact trodAll_cons_mk (Below.trod laidOut readInt manyTypes.1 h0 hbel (fun x hx => hlt x (by simp [hx])))
    (trodAll_cons_mk (Below.trod laidOut readEdges manyTypes.2 h1 hbel (fun x hx => hlt x (by simp [hx]))) trodAll_mk0)
theorem over_Says : Rows.pebbleSaysRow.holds Try.pinned (OpenSpec.ofChange Rows.pebbleSaysSpec) :=
  OpenClaim.holds_of_wide 4 Try.f4 rfl rfl rfl rfl rfl rfl rfl ⟨rfl, rfl, rfl, rfl, rfl⟩ rfl rfl rfl rfl rfl (by kernel_rfl) Try.func4 (by kernel_rfl)
    (of_decide_eq_true (by kernel_rfl)) (by unfold Func.isWrapper; first | (rw [if_pos (by decide +kernel)]; kernel_rfl) | (rw [if_neg (by decide +kernel)]; exact ⟨rfl, rfl⟩))
    (fun os started H enc _ => lifted_Says os started H enc)
theorem pebbleSays_holds : Rows.PebbleSaysSaid :=
  over_Says
#print axioms pebbleSays_holds
end Go.Proofs.Ytgnmjaponiclhaa
