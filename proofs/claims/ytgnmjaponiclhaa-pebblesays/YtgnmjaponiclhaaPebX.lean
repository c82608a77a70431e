/- the law PebbleTurns. -/
import Derived.Test.YtgnmjaponiclhaaPebQ
import Derived.Lib.SliceRun
namespace Go.Proofs.Ytgnmjaponiclhaa
open Go.RowKit Go.MapKept
set_option linter.unusedVariables false
set_option linter.unusedSimpArgs false

set_option maxRecDepth 100000 in
theorem sl_Clone (a : Option Addr) (cap : Nat) (es : List (Int × Int)) (w : World) (he : ERow w a cap es) (hl : es.length ≤ 45) :
    Calls Try.prog 19 #[.slice a es.length cap] w fun e w' => ∃ v, e = .returned v ∧ EOwn w' w.heap.size v es ∧ Below w.heap.size w w' := by
  have hq : ∀ (w : World) (a : Option Addr) (n c n' c' : Nat), (binOp .eql 27 (.slice a n c) (.slice none n' c')).run Try.prog w = .ok (.bool a.isNone) w := fun w a n c n' c' => Lib.run_eql_slice_nil w _ _ a n c n' c' Try.underlying27
  cases a with
  | none =>
    have hnil : es = [] := by
      cases es with
      | nil => rfl
      | cons x l =>
        obtain ⟨b, off, h, _⟩ := he.cell 0 x rfl
        cases h
    subst hnil
    clear he hl
    go_enter Try.func19, Try.ntmps19
    go_wp2
    go_ret
    exact ⟨_, rfl, EOwn.nil _ _, Below.refl _ _⟩
  | some ad =>
    obtain ⟨X, hX⟩ : ∃ X, w.alloc (.cells #[] 29) = X := ⟨_, rfl⟩
    have hbX : Below w.heap.size w X := by rw [← hX]; exact (Below.refl _ _).alloc (Nat.le_refl _) _
    have hsX : SB X w.heap.size 29 #[] := by rw [← hX]; exact SB.new w _ _
    have hE : EOwn X w.heap.size (.slice (some ⟨w.heap.size, 0, none⟩) 0 0) [] := ⟨rfl, .inr ⟨w.heap.size, 0, _, rfl, Nat.le_refl _, hsX, Nat.le_refl _, Nat.zero_le _, rfl, rfl⟩⟩
    have hx : ∀ j u, (es.flatMap eCells)[j]? = some u → X.cell? (ad.add j) = some u := fun j u hj => by
      have hjl := (List.getElem?_eq_some_iff.1 hj).1
      rw [eFlat_len] at hjl
      obtain ⟨e, hee⟩ : ∃ e, es[j / 2]? = some e := ⟨es[j / 2]'(by omega), List.getElem?_eq_getElem (by omega)⟩
      obtain ⟨b, off, h1, h2, h3, h4⟩ := (he.below hbX).cell (j / 2) e hee
      obtain ⟨k1, k2⟩ := eFlat_at es (j / 2) e hee
      injection h1 with h1
      rw [h1, add_at]
      rcases (by omega : j = j / 2 * 2 ∨ j = j / 2 * 2 + 1) with e1 | e1
      · rw [← e1] at k1 h3
        rw [k1] at hj
        rw [h3, hj]
      · rw [← e1] at k2
        rw [show off + j = off + j / 2 * 2 + 1 by omega, h4]
        rw [k2] at hj
        exact hj
    obtain ⟨v', w', happ, hE2, hg, _⟩ := hE.app ad es hx (by simp; omega) hbX.size cap
    have HB : Hid (Below w.heap.size w w') := Hid.intro (hbX.trans ⟨hg.os, hg.tape, hg.output, hg.size, fun k hk => hg.block k (by have := hbX.size; omega) (fun e => by simp [Value.ownBlock] at e; omega)⟩)
    have HE2 := Hid.intro hE2
    rw [← hX] at happ
    clear hX hbX hsX hE hx he hE2 hg
    go_enter Try.func19, Try.ntmps19
    go_wp2
    go_ret
    exact ⟨v', rfl, HE2.out, HB.out⟩
/-- a list of ints in memory -/
structure IRow (w : World) (a : Option Addr) (cap : Nat) (ts : List Int) : Prop where
  fit : ts.length ≤ cap
  cell : ∀ i t, ts[i]? = some t → ∃ b off, a = some ⟨b, off, none⟩ ∧ b < w.heap.size ∧ w.cell? ⟨b, off + i, none⟩ = some (.int .i64 t)
theorem IRow.below {w w' : World} {a : Option Addr} {cap : Nat} {ts : List Int} (h : IRow w a cap ts) (hb : Below w.heap.size w w') : IRow w' a cap ts := by
  refine ⟨h.fit, fun i e hi => ?_⟩
  obtain ⟨b, off, h1, h2, h3⟩ := h.cell i e hi
  exact ⟨b, off, h1, Nat.lt_of_lt_of_le h2 hb.size, (hb.cell (p := ⟨b, off + i, none⟩) h2).trans h3⟩
/-- an edge, written -/
theorem EOwn.set {w : World} {B g cap : Nat} {es : List (Int × Int)} (h : EOwn w B (.slice (some ⟨g, 0, none⟩) es.length cap) es) (i : Nat) (x y : Int) (hi : i < es.length) :
    EOwn ((w.setCell ⟨g, i * 2, none⟩ (.int .i64 x)).setCell ⟨g, i * 2 + 1, none⟩ (.int .i64 y)) B (.slice (some ⟨g, 0, none⟩) (es.set i (x, y)).length cap) (es.set i (x, y)) := by
  rcases h.2 with ⟨h1, _⟩ | ⟨g', c, cur, hv, hB, hg, hnc, hcm, hcs, htake⟩
  · cases h1
  · injection hv with e1 e2 e3
    injection e1 with e1
    injection e1 with e1 _ _
    subst e1
    subst e3
    have hs : SB w g 29 cur := hg
    refine ⟨eFlat_len _, .inr ⟨g, cap, _, by rw [List.length_set], hB, ((hs.set (i * 2) _).set (i * 2 + 1) _), by rw [List.length_set]; exact hnc, hcm, by simp [hcs], ?_⟩⟩
    apply List.ext_getElem?
    intro k
    rw [List.length_set]
    by_cases hk : k < es.length * 2
    · rw [List.getElem?_take_of_lt hk, Array.getElem?_toList, Array.getElem?_setIfInBounds, Array.getElem?_setIfInBounds]
      obtain ⟨e, hee⟩ : ∃ e, (es.set i (x, y))[k / 2]? = some e := ⟨(es.set i (x, y))[k / 2]'(by rw [List.length_set]; omega), List.getElem?_eq_getElem _⟩
      obtain ⟨k1, k2⟩ := eFlat_at _ (k / 2) e hee
      rw [List.getElem?_set] at hee
      have hcur : ∀ d, es[k / 2]? = some d → cur[k]? = (if k = k / 2 * 2 then some (Value.int .i64 d.1) else some (.int .i64 d.2)) := fun d hd => by
        obtain ⟨m1, m2⟩ := eFlat_at es (k / 2) d hd
        have := congrArg (fun l => l[k]?) htake
        rw [List.getElem?_take_of_lt hk, Array.getElem?_toList] at this
        rw [this]
        by_cases e1 : k = k / 2 * 2
        · rw [if_pos e1, ← m1, ← e1]
        · rw [if_neg e1, ← m2, show k / 2 * 2 + 1 = k by omega]
      by_cases hik : i = k / 2
      · rw [if_pos hik, if_pos (by omega)] at hee
        injection hee with hee
        subst hee
        by_cases e1 : k = k / 2 * 2
        · rw [if_neg (by omega), if_pos (by omega), if_pos (by omega), ← k1, ← e1]
        · rw [if_pos (by omega), if_pos (by simp; omega), ← k2, show k / 2 * 2 + 1 = k by omega]
      · rw [if_neg hik] at hee
        rw [if_neg (by omega), if_neg (by omega), hcur e hee]
        by_cases e1 : k = k / 2 * 2
        · rw [if_pos e1, ← k1, ← e1]
        · rw [if_neg e1, ← k2, show k / 2 * 2 + 1 = k by omega]
    · rw [List.getElem?_eq_none (by rw [List.length_take]; omega), List.getElem?_eq_none (by rw [eFlat_len, List.length_set]; omega)]

/-- kept edges, in their order -/
def keptF : List (Int × Int) → List Bool → List (Int × Int)
  | e :: E, b :: l => if b then e :: keptF E l else keptF E l
  | _, _ => []
theorem keptF_snoc : ∀ (E : List (Int × Int)) (l : List Bool) (e : Int × Int) (b : Bool), l.length = E.length → keptF (E ++ [e]) (l ++ [b]) = if b then keptF E l ++ [e] else keptF E l
  | [], [], e, b, _ => by cases b <;> rfl
  | [], _ :: _, _, _, h => by simp at h
  | _ :: _, [], _, _, h => by simp at h
  | x :: E, c :: l, e, b, h => by
    have := keptF_snoc E l e b (by simpa using h)
    simp only [List.cons_append, keptF]
    rw [this]
    cases c <;> cases b <;> simp
theorem keptR_snoc : ∀ (E : List Edge) (l : List Bool) (e : Edge) (b : Bool), l.length = E.length → (keptR (E ++ [e]) (l ++ [b])) = if b then keptR E l ++ [e] else keptR E l
  | [], [], e, b, _ => by cases b <;> rfl
  | [], _ :: _, _, _, h => by simp at h
  | _ :: _, [], _, _, h => by simp at h
  | x :: E, c :: l, e, b, h => by
    have := keptR_snoc E l e b (by simpa using h)
    simp only [List.cons_append, keptR]
    rw [this]
    cases c <;> cases b <;> simp
theorem kept_both : ∀ (E : List (Int × Int)) (l : List Bool), l.length = E.length → keptR (E.map toE).reverse l.reverse = ((keptF E l).map toE).reverse
  | [], [], _ => rfl
  | [], _ :: _, h => by simp at h
  | _ :: _, [], h => by simp at h
  | e :: E, b :: l, h => by
    have ih := kept_both E l (by simpa using h)
    rw [List.map_cons, List.reverse_cons, List.reverse_cons, keptR_snoc _ _ _ _ (by simp; simpa using h), ih]
    cases b <;> simp [keptF]
theorem keptF_take {es : List (Int × Int)} {l : List Bool} {k : Nat} {f : Int × Int} {b : Bool} (hl : l.length = es.length) (hf : es[k]? = some f) (hb : l[k]? = some b) : keptF (es.take (k + 1)) (l.take (k + 1)) = if b then keptF (es.take k) (l.take k) ++ [f] else keptF (es.take k) (l.take k) := by
  rw [List.take_add_one, List.take_add_one, hf, hb]
  exact keptF_snoc _ _ _ _ (by rw [List.length_take, List.length_take, hl])
theorem keptF_sub : ∀ (E : List (Int × Int)) (l : List Bool), (keptF E l).length ≤ E.length ∧ ∀ e ∈ keptF E l, e ∈ E
  | [], [] => ⟨Nat.le_refl _, fun _ h => h⟩
  | [], _ :: _ => ⟨Nat.le_refl _, fun _ h => h⟩
  | _ :: _, [] => ⟨Nat.zero_le _, fun e h => by cases h⟩
  | x :: E, b :: l => by
    obtain ⟨h1, h2⟩ := keptF_sub E l
    cases b with
    | true =>
      simp only [keptF, if_true]
      refine ⟨by simp; exact h1, fun e he => ?_⟩
      rcases List.mem_cons.1 he with rfl | he
      · exact List.mem_cons_self
      · exact List.mem_cons_of_mem _ (h2 e he)
    | false =>
      simp only [keptF, Bool.false_eq_true, if_false]
      exact ⟨Nat.le_succ_of_le h1, fun e he => List.mem_cons_of_mem _ (h2 e he)⟩
theorem kept_sparse {n : Nat} {es : List (Int × Int)} {l : List Bool} (hg : Good n es) (h : RunR n (es.map toE).reverse l.reverse) (hl : l.length = es.length) : Sparse n ((keptF es l).map toE) := by
  have := (kept_facts (by rw [← revE_all]; exact hg.graph _) h).1
  rw [kept_both es l hl] at this
  exact this.perm (List.reverse_perm _)
theorem count_perm {n : Nat} {es fs : List (Int × Int)} {l k : List Bool} (hg : Good n es) (hp : fs.Perm es) (h : RunR n (es.map toE).reverse l.reverse) (h' : RunR n (fs.map toE).reverse k.reverse) : l.countP id = k.countP id := by
  have hg' : Good n fs := fun e he => hg e (hp.mem_iff.1 he)
  have := kept_same (by rw [← revE_all]; exact hg.graph _) (by rw [← revE_all]; exact hg'.graph _) h h' (fun e => by
    rw [List.mem_reverse, List.mem_reverse]
    exact (hp.map toE).mem_iff.symm)
  simpa using this
theorem edgeC_zero {n : Int} {es : List (Int × Int)} (h : ∀ i x, es[i]? = some x → edgeC n es i x = 0) : (∀ e ∈ es, (0 ≤ e.1 ∧ e.1 < n) ∧ (0 ≤ e.2 ∧ e.2 < n) ∧ e.1 ≠ e.2) ∧ (es.map lesser).Nodup := by
  have hx : ∀ i x, es[i]? = some x → ((0 ≤ x.1 ∧ x.1 < n) ∧ (0 ≤ x.2 ∧ x.2 < n) ∧ x.1 ≠ x.2) ∧ lesser x ∉ (es.take i).map lesser := fun i x hi => by
    have := h i x hi
    unfold edgeC at this
    split at this
    · rename_i hc
      split at this
      · cases this
      · rename_i hm
        exact ⟨hc, hm⟩
    · cases this
  refine ⟨fun e he => ?_, ?_⟩
  · obtain ⟨i, hi⟩ := List.mem_iff_getElem?.1 he
    exact (hx i e hi).1
  · rw [List.nodup_iff_pairwise_ne, List.pairwise_iff_getElem]
    intro i j hi hj hij he
    rw [List.length_map] at hi hj
    refine (hx j es[j] (List.getElem?_eq_getElem hj)).2 ?_
    rw [List.getElem_map, List.getElem_map] at he
    rw [← he]
    exact List.mem_map.2 ⟨es[i], List.mem_of_getElem? (i := i) (by rw [List.getElem?_take_of_lt hij]; exact List.getElem?_eq_getElem hi), rfl⟩
theorem edgeC_of {n : Int} {es : List (Int × Int)} (h1 : ∀ e ∈ es, (0 ≤ e.1 ∧ e.1 < n) ∧ (0 ≤ e.2 ∧ e.2 < n) ∧ e.1 ≠ e.2) (h2 : (es.map lesser).Nodup) : ∀ i x, es[i]? = some x → edgeC n es i x = 0 := by
  intro i x hi
  have hil : i < es.length := (List.getElem?_eq_some_iff.1 hi).1
  unfold edgeC
  rw [if_pos (h1 x (List.mem_of_getElem? hi)), if_neg]
  intro hm
  rw [List.mem_map] at hm
  obtain ⟨y, hy, he⟩ := hm
  obtain ⟨j, hj⟩ := List.mem_iff_getElem?.1 hy
  have hjl := (List.getElem?_eq_some_iff.1 hj).1
  rw [List.length_take] at hjl
  rw [List.getElem?_take_of_lt (by omega)] at hj
  rw [List.nodup_iff_pairwise_ne, List.pairwise_iff_getElem] at h2
  have hjl' : j < es.length := by omega
  have ex : es[i] = x := Option.some.inj ((List.getElem?_eq_getElem hil).symm.trans hi)
  have ey : es[j] = y := Option.some.inj ((List.getElem?_eq_getElem hjl').symm.trans hj)
  exact h2 j i (by simpa using hjl') (by simpa using hil) (by omega) (by rw [List.getElem_map, List.getElem_map, ex, ey]; exact he)
theorem chk_perm {n : Int} {es fs : List (Int × Int)} (h : ∀ i x, es[i]? = some x → edgeC n es i x = 0) (hp : fs.Perm es) : ∀ i x, fs[i]? = some x → edgeC n fs i x = 0 := by
  obtain ⟨h1, h2⟩ := edgeC_zero h
  exact edgeC_of (fun e he => h1 e (hp.mem_iff.1 he)) ((hp.map lesser).nodup_iff.2 h2)
end Go.Proofs.Ytgnmjaponiclhaa
