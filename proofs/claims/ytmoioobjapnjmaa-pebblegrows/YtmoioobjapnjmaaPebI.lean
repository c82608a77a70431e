/- Proved: for every list of steps, in whatever memory, 'rafterlaw.PebbleGrows' returns true and what came in reads as it did. No condition. -/
import Derived.Test.YtmoioobjapnjmaaPebK
import Derived.Test.YtmoioobjapnjmaaRows
import Derived.WalkKit
import Derived.ProofKit
import Derived.OpenShut
import Derived.ChangeOld
import Derived.Below
import Derived.Deep.Slices
import Derived.Carry
namespace Go.Proofs.Ytmoioobjapnjmaa
open Go.ChangeShapes Go.WideShapes Go.ChangeAt Go.RowKit
set_option linter.unusedVariables false
set_option linter.unusedSimpArgs false

section
variable {H : Type} {enc : TypeId × Value → H} {P : Program} {w : World} {base : Nat} {spare : Nat → Bool} {held : Bool} {fuel : Nat} {cs : List Value} {x : DataW H × List MemPlace} {tE t : TypeId}
def St.cells (s : St) : List Value := [.int .i64 s.p, .int .i64 s.q, .int .i64 s.r, .int .i64 s.t]
theorem wf_bounds {n : Int} (h : (Lit.int .i64 n).wf = true) : -9223372036854775808 ≤ n ∧ n ≤ 9223372036854775807 := by
  simp only [Lit.wf, IntKind.min, IntKind.max, IntKind.signed, IntKind.bits, Bool.and_eq_true, decide_eq_true_eq, if_true] at h
  omega
theorem four_read (u : P.underlying tE = some (.array 4 t)) (uI : P.underlying t = some (.int .i64)) (cE : P.cellsOf tE = 4) (cI : P.cellsOf t = 1)
    (h : DataW.trod enc P w base spare held fuel tE cs = some x) : ∃ e : { s : St // s.ok }, cs = e.1.cells := by
  obtain ⟨xs, m, rfl, rfl, hl, hxl, hf⟩ := DataW.trod_array u h
  rw [cE] at hl
  clear h
  have h0 := hf 0 (by decide)
  have h1 := hf 1 (by decide)
  have h2 := hf 2 (by decide)
  have h3 := hf 3 (by decide)
  rw [cI] at h0 h1 h2 h3
  match cs, hl, xs, hxl with
  | [v0, v1, v2, v3], _, [y0, y1, y2, y3], _ =>
    simp only [List.drop_zero, Nat.zero_mul, Nat.one_mul, Nat.mul_one, List.drop_succ_cons, List.take_succ_cons, List.take_zero, List.getElem?_cons_zero, List.getElem?_cons_succ] at h0 h1 h2 h3
    obtain ⟨a, e0, rfl, k0⟩ := DataW.trod_int uI h0
    obtain ⟨b, e1, rfl, k1⟩ := DataW.trod_int uI h1
    obtain ⟨c, e2, rfl, k2⟩ := DataW.trod_int uI h2
    obtain ⟨d, e3, rfl, k3⟩ := DataW.trod_int uI h3
    obtain rfl : v0 = _ := by simpa using e0
    obtain rfl : v1 = _ := by simpa using e1
    obtain rfl : v2 = _ := by simpa using e2
    obtain rfl : v3 = _ := by simpa using e3
    exact ⟨⟨⟨a, b, c, d⟩, wf_bounds k0, wf_bounds k1, wf_bounds k2, wf_bounds k3⟩, rfl⟩
/-- a row of things, read -/
theorem row_read {α : Type} {c : α → List Value} {sz : Nat} (dflt : α) (hsz : 0 < sz) (hc : ∀ e, (c e).length = sz) (ut : P.underlying t = some (.slice tE)) (cE : P.cellsOf tE = sz)
    (each : ∀ (fuel : Nat) (cs : List Value) (x : DataW H × List MemPlace), DataW.trod enc P w base spare held fuel tE cs = some x → ∃ e, cs = c e)
    (h : DataW.trod enc P w base spare held fuel t cs = some x) :
    ∃ (a : Option Addr) (cap : Nat) (es : List α), cs = [.slice a es.length cap] ∧ es.length ≤ cap ∧ es.length ≤ maxLen ∧ ∀ i e, es[i]? = some e → ∃ b off, a = some ⟨b, off, none⟩ ∧ b < w.heap.size ∧ ∀ j u, (c e)[j]? = some u → w.cell? ⟨b, off + i * sz + j, none⟩ = some u := by
  rcases Deep.open_slice ut h with ⟨rfl, rfl⟩ | ⟨a, len, cap, m, n, D, Pl, rfl, hb, hlc, hcm, hm, rfl, hD⟩
  · exact ⟨none, 0, [], rfl, by simp, by simp, fun i e hi => by simp at hi⟩
  have hlm : len ≤ m := by rw [hm]; split <;> omega
  have eachI : ∀ i, ∃ f : α, i < len → w.cells? base (a.add (i * sz)) sz = some (c f) := by
    intro i
    by_cases hi : i < len
    · obtain ⟨cs', h1, h2⟩ := hD i (by omega)
      obtain ⟨f, rfl⟩ := each _ _ _ h2
      rw [cE] at h1
      exact ⟨f, fun _ => h1⟩
    · exact ⟨dflt, fun h => absurd h hi⟩
  obtain ⟨F, hF⟩ := Classical.axiomOfChoice eachI
  refine ⟨some a, cap, (List.range len).map F, by simp, by simpa using hlc, by simp; exact Nat.le_trans hlc hcm, fun i e hi => ?_⟩
  have hil : i < len := by simpa using (List.getElem?_eq_some_iff.1 hi).1
  obtain rfl : F i = e := by simpa [hil] using hi
  obtain ⟨_, _, hcell⟩ := World.cells?_some (hF i hil)
  obtain ⟨b, off, sp⟩ := a
  have z := (World.cells?_some (hF 0 (by omega))).2.2 0 hsz
  have hsp : sp = none := by
    cases sp with
    | none => rfl
    | some v =>
      exfalso
      obtain ⟨z0, hz0⟩ : ∃ z0, (c (F 0))[0]? = some z0 := ⟨_, List.getElem?_eq_getElem (by rw [hc]; exact hsz)⟩
      rw [hz0] at z
      simp only [Nat.zero_mul, Addr.add, if_true, World.cell?] at z
      split at z <;> simp at z
  subst hsp
  have ea : ∀ j k, (Addr.add ⟨b, off, none⟩ j).add k = ⟨b, off + j + k, none⟩ := by
    intro j k
    unfold Addr.add
    by_cases hj : j = 0 <;> by_cases hk : k = 0 <;> simp [hj, hk]
  have hall : ∀ j u, (c (F i))[j]? = some u → w.cell? ⟨b, off + i * sz + j, none⟩ = some u := fun j u hj => by
    have hjl := (List.getElem?_eq_some_iff.1 hj).1
    rw [hc] at hjl
    have := hcell j hjl
    rw [ea, hj] at this
    exact this
  obtain ⟨u0, hu0⟩ : ∃ u0, (c (F i))[0]? = some u0 := ⟨_, List.getElem?_eq_getElem (by rw [hc]; exact hsz)⟩
  exact ⟨b, off, rfl, World.block_lt_of_cell? _ _ (hall 0 u0 hu0), hall⟩
end
theorem cellsFour : Try.prog.cellsOf 47 = 4 := by kernel_rfl
theorem cellsOne : Try.prog.cellsOf 3 = 1 := by kernel_rfl
theorem steps_in {H : Type} {enc : TypeId × Value → H} {W : World} {a : Option Addr} {len cap : Nat} {d : DataW H} {ps : List MemPlace} (h : DataW.Trod enc Try.prog W 0 (fun _ => true) true 45 (.slice a len cap) d ps) :
    ∃ ss : List St, len = ss.length ∧ SRow W a cap ss ∧ ss.length ≤ maxLen := by
  obtain ⟨fuel, h⟩ := h
  obtain ⟨a', cap', es, e, h1, h2, h3⟩ := row_read (α := { s : St // s.ok }) (c := fun e => e.1.cells) (sz := 4) ⟨⟨0, 0, 0, 0⟩, ⟨by decide, by decide⟩, ⟨by decide, by decide⟩, ⟨by decide, by decide⟩, ⟨by decide, by decide⟩⟩ (by decide) (fun _ => rfl) Try.underlying45 cellsFour (fun f cs x hx => four_read Try.underlying47 Try.underlying3 cellsFour cellsOne hx) h
  have e' : [Value.slice a len cap] = [Value.slice a' es.length cap'] := e
  simp only [List.cons.injEq, and_true, Value.slice.injEq] at e'
  obtain ⟨rfl, rfl, rfl⟩ := e'
  refine ⟨es.map (·.1), by rw [List.length_map], ⟨by rw [List.length_map]; exact h1, fun i s hi => ?_⟩, by rw [List.length_map]; exact h2⟩
  rw [List.getElem?_map] at hi
  obtain ⟨e, he, rfl⟩ := Option.map_eq_some_iff.1 hi
  obtain ⟨b, off, ha, hb, hc⟩ := h3 i e he
  exact ⟨e.2, b, off, ha, hb, hc 0 _ rfl, hc 1 _ rfl, hc 2 _ rfl, hc 3 _ rfl⟩
theorem own : ownKnob Try.prog.godebug = none := by kernel_rfl
theorem readSteps : Try.prog.readableRec 45 = true := by kernel_rfl
theorem manySteps : 45 < Try.prog.types.size := by
  refine of_decide_eq_true ?_
  kernel_rfl
theorem laidOut : laidOutB Try.prog = true := by kernel_rfl
set_option maxRecDepth 100000 in
theorem lifted_Grows (os : Os) (started : os.Started) (H : Type) (enc : TypeId × Value → H) :
    ReturnsInHanded {} Try.checked os 6 .any (Rows.pebbleGrowsSpec.pre6 enc Try.prog Try.f6 Rows.pebbleGrowsRow.domain false) (Rows.pebbleGrowsSpec.post enc Try.prog Try.f6 false true false false) := by
  refine returnsInHanded_of_change (C := Try.checked) own started (by kernel_rfl) Try.func6
    (ChangeSpec.witness6 (enc := enc) (C := Try.checked) false ⟨#[], #[.slice none 0 0], []⟩ 8 (by kernel_rfl) (by kernel_rfl) (by kernel_rfl) (by kernel_rfl)) ?_
  intro W base args ds gs before hval0 hW hcnd _
  have hval : ∀ (j : Nat) t v, Try.f6.params[j]? = some t → args[j]? = some v → Value.okWide Try.prog W .any base t v := hval0
  have hW' := hW
  obtain ⟨p, q, hA0, hV, rfl, hfz, hnd⟩ := hW
  have hA : DataW.TrodAll enc Try.prog W 0 (fun _ => true) true Try.f6.params.toList args.toList ds p := hA0
  rw [Try.params6] at hA hval
  obtain ⟨v0, d0, rfl, rfl, h0⟩ := trodAll_one hA
  obtain ⟨rfl, rfl⟩ := trodVars_none hV
  clear hA0 hval0
  obtain ⟨a1, l1, c1, rfl⟩ := okWide_slice Try.underlying45 (hval 0 45 v0 rfl rfl)
  obtain ⟨ss, rfl, hs, hsl⟩ := steps_in h0
  have hlt : ∀ x ∈ p ++ [], x.block < W.heap.size := fun x hx => hW'.lt x hx
  refine (law_Grows a1 c1 ss W hs hsl).mono ?_
  rintro e W' ⟨rfl, hbel⟩
  refine ⟨_, rfl, [d0], [], p ++ [], [], p ++ [], [], hW', trodAll_cons_mk (shut_bool Try.underlying4 _) trodAll_mk0, ?_, rfl, hbel.frame _, fun h => by cases h⟩
  show DataW.TrodAll enc Try.prog W' 0 (fun b => decide (b < W.heap.size)) true Try.f6.params.toList _ [d0] _
  rw [Try.params6]
  exact trodAll_cons_mk (Below.trod laidOut readSteps manySteps h0 hbel (fun x hx => hlt x (by simp [hx]))) trodAll_mk0
theorem over_Grows : Rows.pebbleGrowsRow.holds Try.pinned (OpenSpec.ofChange Rows.pebbleGrowsSpec) :=
  OpenClaim.holds_of_wide 6 Try.f6 rfl rfl rfl rfl rfl rfl rfl ⟨rfl, rfl, rfl, rfl, rfl⟩ rfl rfl rfl rfl rfl (by kernel_rfl) Try.func6 (by kernel_rfl)
    (of_decide_eq_true (by kernel_rfl)) (by unfold Func.isWrapper; first | (rw [if_pos (by decide +kernel)]; kernel_rfl) | (rw [if_neg (by decide +kernel)]; exact ⟨rfl, rfl⟩))
    (fun os started H enc _ => lifted_Grows os started H enc)
theorem pebbleGrows_holds : Rows.PebbleGrowsSaid :=
  over_Grows
#print axioms pebbleGrows_holds
end Go.Proofs.Ytmoioobjapnjmaa
