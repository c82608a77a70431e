/- the law PebbleGrows: its pick; Henneberg's steps. -/
import Derived.Test.YtgnmjaponiclhaaPebV
import Derived.Test.YtgnmjaponiclhaaPebX
namespace Go.Proofs.Ytgnmjaponiclhaa
open Go.RowKit Go.MapKept
set_option linter.unusedVariables false
set_option linter.unusedSimpArgs false

theorem law_pick (c : Int) (n : Nat) (hn : 0 < n) (hn2 : n ≤ 1000) (h1 : -9223372036854775808 ≤ c) (h2 : c ≤ 9223372036854775807) (w : World) : Calls Try.prog 21 #[.int .i64 c, .int .i64 (n : Int)] w fun e w' => ∃ r : Nat, r < n ∧ e = .returned (.int .i64 (r : Int)) ∧ w' = w := by
  have hn0 : ((n : Int) == 0) = false := by simp; omega
  have hnn : (n : Int) ≠ 0 := by omega
  by_cases hc : c < 0
  · obtain ⟨m, hm⟩ : ∃ m : Nat, -(c + 1) = (m : Int) := ⟨(-(c + 1)).toNat, by omega⟩
    have e1 : wrap64 (c + 1) = c + 1 := by unfold wrap64; omega
    have e2 : wrap64 (-(c + 1)) = (m : Int) := by rw [hm]; unfold wrap64; omega
    have e5 : -(c + 1) = (m : Int) := hm
    obtain ⟨r, hr⟩ : ∃ r : Nat, m % n = r := ⟨_, rfl⟩
    have e3 : (m : Int).tmod (n : Int) = (r : Int) := by rw [← hr]; rfl
    have e4 : (m : Int) % (n : Int) = (r : Int) := by rw [← hr]; rfl
    have HR : Hid (r < n) := Hid.intro (by rw [← hr]; exact Nat.mod_lt _ hn)
    clear hr
    go_enter Try.func21, Try.ntmps21
    go_wp2
    go_ret
    exact ⟨r, HR.out, rfl, rfl⟩
  · obtain ⟨m, rfl⟩ : ∃ m : Nat, c = (m : Int) := ⟨c.toNat, by omega⟩
    obtain ⟨r, hr⟩ : ∃ r : Nat, m % n = r := ⟨_, rfl⟩
    have e3 : (m : Int).tmod (n : Int) = (r : Int) := by rw [← hr]; rfl
    have e4 : (m : Int) % (n : Int) = (r : Int) := by rw [← hr]; rfl
    have HR : Hid (r < n) := Hid.intro (by rw [← hr]; exact Nat.mod_lt _ hn)
    clear hr
    go_enter Try.func21, Try.ntmps21
    go_wp2
    go_ret
    exact ⟨r, HR.out, rfl, rfl⟩

/-- what Henneberg's steps keep -/
def Hen (n : Nat) (E : List (Int × Int)) : Prop := 2 ≤ n ∧ n ≤ 10 ∧ E.length + 3 = 2 * n ∧ Good n E ∧ Sparse n (E.map toE)
theorem Hen.first : Hen 2 [(0, 1)] := ⟨by decide, by decide, by decide, by intro e he; rw [List.mem_singleton.1 he]; decide, sparse_first⟩
theorem lesser_pair {x y : Int × Int} (h : lesser x = lesser y) : (x.1 = y.1 ∧ x.2 = y.2) ∨ (x.1 = y.2 ∧ x.2 = y.1) := by
  unfold lesser at h
  simp only [Prod.mk.injEq] at h
  omega
theorem sparse_nodup {n : Nat} : ∀ (E : List (Int × Int)), Good n E → Sparse n (E.map toE) → (E.map lesser).Nodup
  | [], _, _ => List.nodup_nil
  | x :: E, hg, hs => by
    have hs' : Sparse n (toE x :: E.map toE) := hs
    rw [List.map_cons, List.nodup_cons]
    refine ⟨fun hm => ?_, sparse_nodup E (fun e he => hg e (List.mem_cons_of_mem _ he)) hs'.less⟩
    obtain ⟨y, hy, he⟩ := List.mem_map.1 hm
    obtain ⟨h1, h2, h3⟩ := hg x List.mem_cons_self
    have hab : x.1.toNat ≠ x.2.toNat := by omega
    have h5 := hs' (pair x.1.toNat x.2.toNat) (two_le_sz (by omega) (by omega) hab (by simp [pair]) (by simp [pair]))
    have h6 := sz_pair n x.1.toNat x.2.toNat hab
    rw [cntE_cons] at h5
    have h7 : inE (pair x.1.toNat x.2.toNat) (toE x) = true := by simp [inE, pair, toE]
    have h8 : 0 < cntE (pair x.1.toNat x.2.toNat) (E.map toE) := List.countP_pos_iff.2 ⟨toE y, List.mem_map.2 ⟨y, hy, rfl⟩, by
      rcases lesser_pair he with ⟨e1, e2⟩ | ⟨e1, e2⟩ <;> simp [inE, pair, toE, e1, e2]⟩
    rw [h7] at h5
    simp at h5
    omega
theorem Hen.ok {n : Nat} {E : List (Int × Int)} (h : Hen n E) : ∀ i x, E[i]? = some x → edgeC (n : Int) E i x = 0 := edgeC_of h.2.2.2.1 (sparse_nodup E h.2.2.2.1 h.2.2.2.2)
theorem Hen.two {n a b : Nat} {E : List (Int × Int)} (h : Hen n E) (hn : n < 10) (ha : a < n) (hb : b < n) (hab : a ≠ b) : Hen (n + 1) (E ++ [((n : Int), (a : Int)), ((b : Int), (n : Int))]) := by
  obtain ⟨h1, h2, h3, h4, h5⟩ := h
  refine ⟨by omega, by omega, by simp; omega, fun e he => ?_, ?_⟩
  · rcases List.mem_append.1 he with he | he
    · obtain ⟨k1, k2, k3⟩ := h4 e he
      exact ⟨by omega, by omega, k3⟩
    · simp only [List.mem_cons, List.not_mem_nil, or_false] at he
      rcases he with rfl | rfl
      · exact ⟨by simp only; omega, by simp only; omega, by simp only; omega⟩
      · exact ⟨by simp only; omega, by simp only; omega, by simp only; omega⟩
  · have gE : GraphE n (E.map toE) := fun e he => by
      have := Good.graph h4 E.length e
      rw [revE_all, List.mem_reverse] at this
      exact this he
    have := henn_two h5 gE ha hb hab
    rw [List.map_append]
    refine this.perm ?_
    exact (List.perm_append_comm (l₁ := [((n, a) : Edge), (b, n)]) (l₂ := E.map toE))
theorem Hen.three {n k a : Nat} {e : Int × Int} {E : List (Int × Int)} (h : Hen n E) (hn : n < 10) (hk : E[k]? = some e) (ha : a < n) (hau : (a : Int) ≠ e.1) (hav : (a : Int) ≠ e.2) : Hen (n + 1) ((E.take k ++ E.drop (k + 1)) ++ [(e.1, (n : Int)), ((n : Int), e.2), ((a : Int), (n : Int))]) := by
  obtain ⟨h1, h2, h3, h4, h5⟩ := h
  obtain ⟨x, y, rfl, hx, hy, hne, hte⟩ := h4.at hk
  have hkl := (List.getElem?_eq_some_iff.1 hk).1
  have hE : E = E.take k ++ ((x : Int), (y : Int)) :: E.drop (k + 1) := by
    have hd : E.drop k = ((x : Int), (y : Int)) :: E.drop (k + 1) := by
      rw [List.drop_eq_getElem_cons hkl]
      congr 1
      exact Option.some.inj ((List.getElem?_eq_getElem hkl).symm.trans hk)
    rw [← hd, List.take_append_drop]
  have hp : E.Perm (((x : Int), (y : Int)) :: (E.take k ++ E.drop (k + 1))) := (List.Perm.of_eq hE).trans List.perm_middle
  have hg' : Good n (E.take k ++ E.drop (k + 1)) := fun d hd => h4 d (by
    rcases List.mem_append.1 hd with hd | hd
    · exact List.mem_of_mem_take hd
    · exact List.mem_of_mem_drop hd)
  refine ⟨by omega, by omega, by simp; omega, fun d hd => ?_, ?_⟩
  · rcases List.mem_append.1 hd with hd | hd
    · obtain ⟨k1, k2, k3⟩ := hg' d hd
      exact ⟨by omega, by omega, k3⟩
    · simp only [List.mem_cons, List.not_mem_nil, or_false] at hd
      rcases hd with rfl | rfl | rfl
      · exact ⟨by simp only; omega, by simp only; omega, by simp only; omega⟩
      · exact ⟨by simp only; omega, by simp only; omega, by simp only; omega⟩
      · exact ⟨by simp only; omega, by simp only; omega, by simp only; omega⟩
  · have hs := h5.perm (hp.map toE)
    have gE : GraphE n ((E.take k ++ E.drop (k + 1)).map toE) := fun d hd => by
      have := Good.graph hg' (E.take k ++ E.drop (k + 1)).length d
      rw [revE_all, List.mem_reverse] at this
      exact this hd
    have hs' : Sparse n ((x, y) :: (E.take k ++ E.drop (k + 1)).map toE) := hs
    have := henn_three (a := a) hs' (fun d hd => by
      rcases List.mem_cons.1 hd with rfl | hd
      · exact ⟨hx, hy, hne⟩
      · exact gE d hd) ha (fun e => hau (by simp only; omega)) (fun e => hav (by simp only; omega))
    rw [List.map_append]
    refine this.perm ?_
    exact (List.perm_append_comm (l₁ := [((x, n) : Edge), (n, y), (a, n)]) (l₂ := (E.take k ++ E.drop (k + 1)).map toE))
/-- how far a point is from one that is free of both -/
def farOf (n : Nat) (u v : Int) (a : Nat) : Nat := if (a : Int) ≠ u ∧ (a : Int) ≠ v then 0 else if (((a + 1) % n : Nat) : Int) ≠ u ∧ (((a + 1) % n : Nat) : Int) ≠ v then 1 else 2
theorem far_less {n a : Nat} {u v : Int} (hn : 3 ≤ n) (ha : a < n) (hb : (a : Int) = u ∨ (a : Int) = v) : farOf n u v ((a + 1) % n) < farOf n u v a := by
  unfold farOf
  rw [if_neg (by omega : ¬ ((a : Int) ≠ u ∧ (a : Int) ≠ v))]
  by_cases h1 : (((a + 1) % n : Nat) : Int) ≠ u ∧ (((a + 1) % n : Nat) : Int) ≠ v
  · rw [if_pos h1, if_pos h1]; omega
  · rw [if_neg h1, if_neg h1]
    have e1 : (a + 1) % n = if a + 1 < n then a + 1 else 0 := by
      by_cases h : a + 1 < n
      · rw [if_pos h]; exact Nat.mod_eq_of_lt h
      · rw [if_neg h]
        have : a + 1 = n := by omega
        rw [this]; exact Nat.mod_self _
    have e2 : ((a + 1) % n + 1) % n = if (a + 1) % n + 1 < n then (a + 1) % n + 1 else 0 := by
      have hlt := Nat.mod_lt (a + 1) (show 0 < n by omega)
      by_cases h : (a + 1) % n + 1 < n
      · rw [if_pos h]; exact Nat.mod_eq_of_lt h
      · rw [if_neg h]
        have : (a + 1) % n + 1 = n := by omega
        rw [this]; exact Nat.mod_self _
    rw [if_pos]
    · omega
    · rw [e2]
      rw [e1] at h1 ⊢
      split at h1 <;> rename_i hc
      · simp only [hc, if_true]
        split <;> omega
      · simp only [hc, if_false] at h1 ⊢
        split <;> omega
theorem EOwn.mono {w : World} {B B' : Nat} {v : Value} {l : List (Int × Int)} (h : EOwn w B v l) (hB : B' ≤ B) : EOwn w B' v l := by
  refine ⟨h.1, ?_⟩
  rcases h.2 with h1 | ⟨g, cap, cur, e, hb, h2⟩
  · exact .inl h1
  · exact .inr ⟨g, cap, cur, e, Nat.le_trans hB hb, h2⟩
theorem grown_below {u w w' : World} {B : Nat} {v : Value} {l : List (Int × Int)} (hb : Below B u w) (ho : EOwn w B v l) (hu : B ≤ u.heap.size) (hg : w.grownBy w' v.ownBlock) : Below B u w' :=
  hb.trans ⟨hg.os, hg.tape, hg.output, hg.size, fun b hbb => hg.block b (by have := hb.size; omega) (fun e => by have := (ho.block e.symm).1; omega)⟩
theorem src_new (w : World) (C : Array Value) (fs : List (Int × Int)) (hC : C.toList = fs.flatMap eCells) {v : World} (hb : Below (w.heap.size + 1) (w.alloc (.cells C 29)) v) : ESrc v ⟨w.heap.size, 0, none⟩ fs := fun j u hj => by
  have hs := SB.new w 29 C
  rw [add_at, Nat.zero_add]
  have h1 := (hs.below hb (by omega)).cell j
  rw [h1, ← Array.getElem?_toList, hC]
  exact hj
/-- an append that finds no room -/
theorem app_grow {w : World} {B0 : Nat} (hB : B0 ≤ w.heap.size) (A B : Addr) (xs ys : List (Int × Int)) (k m c : Nat) (hk : xs.length = k) (hm : ys.length = m) (hm0 : 0 < m) (hx : ESrc w A xs) (hy : ESrc w B ys) (hl : k + m ≤ 1000) :
    ∃ v' w', appRun Try.prog 27 27 (.slice (some A) k k) (.slice (some B) m c) w = .ok v' w' ∧ EOwn w' B0 v' (xs ++ ys) ∧ Below w.heap.size w w' := by
  obtain ⟨i0, hi, hz0, hz1, hz2⟩ := info_parts infoPairs
  have h4 := run_append_grow (P := Try.prog) w 27 27 29 i0 (.agg #[.int .i64 0, .int .i64 0]) Try.underlying27 hi hz0 A k k (xs.flatMap eCells) (by rw [hz1, eFlat_len, hk]) hx B m c (ys.flatMap eCells) (by rw [hz1, eFlat_len, hm]) hy (by omega) (by omega) (by rw [hz2]; exact growslice_fits (by omega) (by omega))
  have hge := grownCap_ge w (k + m) k 29
  have hle := grownCap_le_maxLen w (k + m) k 29 (by unfold maxLen; omega)
  refine ⟨_, _, h4, ⟨by rw [List.length_append, List.flatMap_append, List.length_append, eFlat_len, eFlat_len]; omega, .inr ⟨w.heap.size, _, _, by rw [List.length_append, hk, hm], hB, SB.new w.drew _ _, by rw [List.length_append, hk, hm]; exact hge, hle, ?_, ?_⟩⟩, ((Below.refl _ _).drew).alloc (Nat.le_refl _) _⟩
  · have hc2 : (Value.agg #[.int .i64 0, .int .i64 0]).cells.size = 2 := rfl
    simp only [Array.size_append, List.size_toArray, size_zeroCells, hc2, eFlat_len, hk, hm]
    omega
  · rw [Array.toList_append, Array.toList_append, List.flatMap_append]
    have e1 : (xs ++ ys).length * 2 = (xs.flatMap eCells ++ ys.flatMap eCells).length := by rw [List.length_append, List.length_append, eFlat_len, eFlat_len]; omega
    rw [e1]
    exact List.take_left
theorem app_none (w : World) (A B : Addr) (k c : Nat) : appRun Try.prog 27 27 (.slice (some A) k k) (.slice (some B) 0 c) w = .ok (.slice (some A) k k) w := by
  obtain ⟨i0, hi, hz0, hz1, hz2⟩ := info_parts infoPairs
  unfold appRun
  simp [Builtin.append_, run_underlying Try.underlying27, sizeOf, typeInfo, hi, Builtin.lenOf, Builtin.firstCells, loadCells, loadCellsFrom, storeCells]
theorem Hen.run {n : Nat} {E : List (Int × Int)} (h : Hen n E) {l : List Bool} (hr : RunR n (E.map toE).reverse l) : l.countP id = E.length ∧ l.length = E.length := by
  obtain ⟨_, h2, h3⟩ := run_all hr (h.2.2.2.2.perm (List.reverse_perm _).symm)
  rw [List.length_reverse, List.length_map] at h2 h3
  exact ⟨h2, h3⟩
theorem rigid_hen {n : Nat} {E : List (Int × Int)} (h : Hen n E) (a : Option Addr) (cap : Nat) (w : World) (he : ERow w a cap E) : Calls Try.prog 12 #[.int .i64 (n : Int), .slice a E.length cap] w fun e w' => e = .returned (.tuple #[.bool true, .agg #[.int .i64 0, .int .i64 0]]) ∧ Below w.heap.size w w' := by
  have h1 := h.1
  have h2 := h.2.1
  have h3 := h.2.2.1
  refine Calls.mono (peb_Rigid n a cap E w he (by unfold maxLen; omega)) ?_
  rintro e w' ⟨c, at_, b, rfl, hck, hb, hres⟩
  obtain ⟨rfl, rfl⟩ := Chk_zero hck (by omega) (by omega) (by omega) h.ok
  rcases hres with ⟨hc, _⟩ | ⟨_, l, hr, rfl⟩
  · exact absurd rfl hc
  · rw [Int.toNat_natCast] at hr ⊢
    have := (h.run hr).1
    rw [if_neg (by omega), decide_eq_true (by omega)]
    exact ⟨rfl, hb⟩
theorem free_hen {n : Nat} {E : List (Int × Int)} (h : Hen n E) (a : Option Addr) (cap : Nat) (w : World) (he : ERow w a cap E) : Calls Try.prog 11 #[.int .i64 (n : Int), .slice a E.length cap] w fun e w' => ∃ v l, e = .returned (.tuple #[v, .agg #[.int .i64 0, .int .i64 0]]) ∧ BLst w' v l ∧ l.countP id = E.length ∧ l.length = E.length ∧ Below w.heap.size w w' := by
  have h1 := h.1
  have h2 := h.2.1
  have h3 := h.2.2.1
  refine Calls.mono (peb_Free n a cap E w he (by unfold maxLen; omega)) ?_
  rintro e w' ⟨c, at_, v, rfl, hck, hb, hres⟩
  obtain ⟨rfl, rfl⟩ := Chk_zero hck (by omega) (by omega) (by omega) h.ok
  rcases hres with ⟨hc, _⟩ | ⟨_, l, hbr, hr⟩
  · exact absurd rfl hc
  · rw [Int.toNat_natCast] at hr
    obtain ⟨k1, k2⟩ := h.run hr
    exact ⟨v, l, rfl, hbr.lst, by simpa using k1, by simpa using k2, hb⟩
theorem over_hen {n : Nat} {E : List (Int × Int)} (h : Hen n E) (a : Option Addr) (cap : Nat) (w : World) (he : ERow w a cap E) : Calls Try.prog 13 #[.int .i64 (n : Int), .slice a E.length cap] w fun e w' => ∃ v l, e = .returned (.tuple #[v, .agg #[.int .i64 0, .int .i64 0]]) ∧ BLst w' v l ∧ l.countP id = 0 ∧ l.length = E.length ∧ Below w.heap.size w w' := by
  have h1 := h.1
  have h2 := h.2.1
  have h3 := h.2.2.1
  refine Calls.mono (peb_Over n a cap E w he (by unfold maxLen; omega)) ?_
  rintro e w' ⟨c, at_, v, rfl, hck, hb, hres⟩
  obtain ⟨rfl, rfl⟩ := Chk_zero hck (by omega) (by omega) (by omega) h.ok
  rcases hres with ⟨hc, _⟩ | ⟨_, lo, la, hbr, hll, hrla, hall⟩
  · exact absurd rfl hc
  · rw [Int.toNat_natCast] at hrla hall
    have k1 := (h.run hrla).1
    refine ⟨v, lo, rfl, hbr.lst, ?_, hll, hb⟩
    rw [List.countP_eq_zero]
    intro q hq hqt
    obtain ⟨i, hi⟩ := List.mem_iff_getElem?.1 hq
    have hil : i < E.length := by rw [← hll]; exact (List.getElem?_eq_some_iff.1 hi).1
    obtain ⟨li, hrli, rfl⟩ := hall i q hi
    have hsp : Sparse n ((E.eraseIdx i).map toE).reverse := (h.2.2.2.2.sub ((List.eraseIdx_sublist E i).map toE)).perm (List.reverse_perm _).symm
    obtain ⟨_, k2, _⟩ := run_all hrli hsp
    rw [List.length_reverse, List.length_map, List.length_eraseIdx, if_pos hil] at k2
    have := of_decide_eq_true (show decide (li.countP id = la.countP id) = true from hqt)
    omega
end Go.Proofs.Ytgnmjaponiclhaa
