/- what the law PebbleSays asks of its calls, plainly. -/
import Derived.Test.YtgnmjaponiclhaaPebLw
import Derived.Test.YtgnmjaponiclhaaPebS
namespace Go.Proofs.Ytgnmjaponiclhaa
open Go.RowKit Go.MapKept
set_option linter.unusedVariables false
set_option linter.unusedSimpArgs false

theorem ERow.front {w : World} {a : Option Addr} {cap : Nat} {es fs : List (Int × Int)} (h : ERow w a cap (es ++ fs)) : ERow w a cap es := by
  refine ⟨by have := h.fit; rw [List.length_append] at this; omega, fun i x hi => h.cell i x ?_⟩
  rw [List.getElem?_append_left (List.getElem?_eq_some_iff.1 hi).1]
  exact hi
theorem same_lent (a : Option Addr) (cap : Nat) (es : List (Int × Int)) (mk : Int × Int) (w : World) (h : ERow w a cap es) (hlen : es.length ≤ 8796093021952) :
    Calls Try.prog 9 #[.slice a es.length cap, .agg #[.int .i64 mk.1, .int .i64 mk.2]] w fun e w' => ∃ g cap', e = .returned (.slice (some ⟨g, 0, none⟩) es.length cap') ∧ ERow w' (some ⟨g, 0, none⟩) cap' (es ++ [mk, mk, mk]) ∧ Below w.heap.size w w' := by
  refine Calls.mono (same_Lend a cap es mk w h hlen) ?_
  rintro e w' ⟨g, cap', rfl, ho, hb⟩
  obtain ⟨a', c', e', hr, _⟩ := ho.row
  injection e' with e1 e2 e3
  subst e1
  subst e3
  exact ⟨g, cap', rfl, hr, hb⟩
theorem free_as {n : Int} {es : List (Int × Int)} {c at_ : Int} (hck : ChkSays n es c at_) (a : Option Addr) (cap : Nat) (w : World) (he : ERow w a cap es) (hlen : es.length ≤ maxLen) :
    Calls Try.prog 11 #[.int .i64 n, .slice a es.length cap] w fun e w' => ∃ v, e = .returned (.tuple #[v, .agg #[.int .i64 c, .int .i64 at_]]) ∧ Below w.heap.size w w' ∧ ((c ≠ 0 ∧ v = .slice none 0 0) ∨ (c = 0 ∧ ∃ l, BLst w' v l ∧ RunR n.toNat (es.map toE).reverse l.reverse)) := by
  refine Calls.mono (peb_Free n a cap es w he hlen) ?_
  rintro e w' ⟨c', at', v, rfl, hck', hb, h⟩
  obtain ⟨rfl, rfl⟩ := hck'.inj hck
  refine ⟨v, rfl, hb, ?_⟩
  rcases h with h | ⟨h0, l, hl, hr⟩
  · exact .inl h
  · exact .inr ⟨h0, l, hl.lst, hr⟩
theorem rigid_as {n : Int} {es : List (Int × Int)} {c at_ : Int} (hck : ChkSays n es c at_) (a : Option Addr) (cap : Nat) (w : World) (he : ERow w a cap es) (hlen : es.length ≤ maxLen) :
    Calls Try.prog 12 #[.int .i64 n, .slice a es.length cap] w fun e w' => ∃ b, e = .returned (.tuple #[.bool b, .agg #[.int .i64 c, .int .i64 at_]]) ∧ Below w.heap.size w w' ∧ ((c ≠ 0 ∧ b = false) ∨ (c = 0 ∧ ∃ l, RunR n.toNat (es.map toE).reverse l ∧ b = decide (l.countP id = if n.toNat = 1 then 0 else 2 * n.toNat - 3))) := by
  refine Calls.mono (peb_Rigid n a cap es w he hlen) ?_
  rintro e w' ⟨c', at', b, rfl, hck', hb, h⟩
  obtain ⟨rfl, rfl⟩ := hck'.inj hck
  exact ⟨b, rfl, hb, h⟩
theorem over_as {n : Int} {es : List (Int × Int)} {c at_ : Int} (hck : ChkSays n es c at_) (a : Option Addr) (cap : Nat) (w : World) (he : ERow w a cap es) (hlen : es.length ≤ maxLen) :
    Calls Try.prog 13 #[.int .i64 n, .slice a es.length cap] w fun e w' => ∃ v, e = .returned (.tuple #[v, .agg #[.int .i64 c, .int .i64 at_]]) ∧ Below w.heap.size w w' ∧ ((c ≠ 0 ∧ v = .slice none 0 0) ∨ (c = 0 ∧ ∃ lo la, BLst w' v lo ∧ lo.length = es.length ∧ RunR n.toNat (es.map toE).reverse la ∧ ∀ i q, lo[i]? = some q → ∃ li, RunR n.toNat ((es.eraseIdx i).map toE).reverse li ∧ q = decide (li.countP id = la.countP id))) := by
  refine Calls.mono (peb_Over n a cap es w he hlen) ?_
  rintro e w' ⟨c', at', v, rfl, hck', hb, h⟩
  obtain ⟨rfl, rfl⟩ := hck'.inj hck
  refine ⟨v, rfl, hb, ?_⟩
  rcases h with h | ⟨h0, lo, la, hl, hr⟩
  · exact .inl h
  · exact .inr ⟨h0, lo, la, hl.lst, hr⟩
theorem check_as {n : Int} {es : List (Int × Int)} {c at_ : Int} (hck : ChkSays n es c at_) (a : Option Addr) (cap : Nat) (w : World) (he : ERow w a cap es) (hlen : es.length ≤ maxLen) :
    Calls Try.prog 14 #[.int .i64 n, .slice a es.length cap] w fun e w' => e = .returned (.agg #[.int .i64 c, .int .i64 at_]) ∧ Below w.heap.size w w' := by
  refine Calls.mono (peb_Check n a cap es w he hlen) ?_
  rintro e w' ⟨c', at', rfl, hck', hb⟩
  obtain ⟨rfl, rfl⟩ := hck'.inj hck
  exact ⟨rfl, hb⟩
theorem want_as {m : Nat} {es : List (Int × Int)} {l : List Bool} (hr : RunR m (es.map toE).reverse l.reverse) (h1 : 1 ≤ m) (h2 : m ≤ 10) (a : Option Addr) (cap : Nat) (w : World) (he : ERow w a cap es) (hg : Good m es) (hlen : es.length ≤ 45) :
    Calls Try.prog 16 #[.int .i64 (m : Int), .slice a es.length cap, .int .i64 (-1)] w fun e w' => ∃ v, e = .returned v ∧ BLst w' v l ∧ Below w.heap.size w w' := by
  refine Calls.mono (ref_FreeOf m h1 h2 a cap es (-1) w he hg hlen) ?_
  rintro e w' ⟨v, l', rfl, hb, hw, hbel⟩
  have := run_one (hw.run (by decide)) hr
  rw [List.reverse_inj] at this
  subst this
  exact ⟨v, rfl, hb, hbel⟩
theorem map_erase {α β : Type} (f : α → β) : ∀ (l : List α) (k : Nat), (l.eraseIdx k).map f = (l.map f).eraseIdx k
  | [], k => by simp
  | x :: l, 0 => by simp
  | x :: l, k + 1 => by simp [map_erase f l k]
theorem over_bit {m : Nat} {es : List (Int × Int)} {lo la lk : List Bool} {k : Nat} {q : Bool} (hov : ∀ i q, lo[i]? = some q → ∃ li, RunR m ((es.eraseIdx i).map toE).reverse li ∧ q = decide (li.countP id = la.countP id))
    (hk : k < es.length) (hq : lo[k]? = some q) (hw : RunW m (k : Int) (es.map toE).reverse lk.reverse) : q = decide (lk.countP id = la.countP id) := by
  obtain ⟨li, hli, rfl⟩ := hov k q hq
  obtain ⟨l', h1, _, h3⟩ := hw.out (by simpa using hk)
  have e : ((es.eraseIdx k).map toE).reverse = (es.map toE).reverse.eraseIdx ((es.map toE).reverse.length - 1 - k) := by
    rw [map_erase, reverse_erase _ _ (by simpa using hk), List.length_reverse]
  rw [e] at hli
  obtain rfl := run_one hli h1
  rw [h3, List.countP_reverse]
theorem outof_as {m : Nat} {es : List (Int × Int)} {lo la : List Bool} {k : Nat} {q : Bool} (hov : ∀ i q, lo[i]? = some q → ∃ li, RunR m ((es.eraseIdx i).map toE).reverse li ∧ q = decide (li.countP id = la.countP id))
    (hk : k < es.length) (hq : lo[k]? = some q) (h1 : 1 ≤ m) (h2 : m ≤ 10) (a : Option Addr) (cap : Nat) (w : World) (he : ERow w a cap es) (hg : Good m es) (hlen : es.length ≤ 45) :
    Calls Try.prog 16 #[.int .i64 (m : Int), .slice a es.length cap, .int .i64 (k : Int)] w fun e w' => ∃ v lk, e = .returned v ∧ BLst w' v lk ∧ lk.length = es.length ∧ q = decide (lk.countP id = la.countP id) ∧ Below w.heap.size w w' := by
  refine Calls.mono (ref_FreeOf m h1 h2 a cap es (k : Int) w he hg hlen) ?_
  rintro e w' ⟨v, lk, rfl, hb, hw, hbel⟩
  exact ⟨v, lk, rfl, hb, by simpa using hw.len, over_bit hov hk hq hw, hbel⟩
end Go.Proofs.Ytgnmjaponiclhaa
