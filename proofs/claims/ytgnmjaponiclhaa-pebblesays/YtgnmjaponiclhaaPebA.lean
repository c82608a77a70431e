/- rafterref: FreeOf. -/
import Derived.Test.YtgnmjaponiclhaaPebE
import Derived.Test.YtgnmjaponiclhaaPebP
namespace Go.Proofs.Ytgnmjaponiclhaa
open Go.RowKit Go.MapKept
set_option linter.unusedVariables false
set_option linter.unusedSimpArgs false
/-- free edges, one of them left out: the last one first -/
def RunW (n : Nat) (wo : Int) : List Edge → List Bool → Prop
  | [], [] => True
  | e :: E, b :: l => RunW n wo E l ∧ (((E.length : Int) = wo → b = false) ∧ ((E.length : Int) ≠ wo → (b = true ↔ Sparse n (e :: keptR E l))))
  | _, _ => False
theorem RunW.run {n : Nat} {wo : Int} (h : wo < 0) : ∀ {E : List Edge} {l : List Bool}, RunW n wo E l → RunR n E l
  | [], [], _ => trivial
  | [], _ :: _, h2 => h2.elim
  | _ :: _, [], h2 => h2.elim
  | e :: E, b :: l, h2 => ⟨RunW.run h h2.1, h2.2.2 (by omega)⟩
theorem RunW.len {n : Nat} {wo : Int} : ∀ {E : List Edge} {l : List Bool}, RunW n wo E l → l.length = E.length
  | [], [], _ => rfl
  | [], _ :: _, h2 => h2.elim
  | _ :: _, [], h2 => h2.elim
  | e :: E, b :: l, h2 => by rw [List.length_cons, List.length_cons, RunW.len h2.1]
theorem RunW.low {n : Nat} {wo : Int} : ∀ {E : List Edge} {l : List Bool}, (E.length : Int) ≤ wo → RunW n wo E l → RunR n E l
  | [], [], _, _ => trivial
  | [], _ :: _, _, h2 => h2.elim
  | _ :: _, [], _, h2 => h2.elim
  | e :: E, b :: l, h, h2 => by
    rw [List.length_cons] at h
    exact ⟨RunW.low (by omega) h2.1, h2.2.2 (by omega)⟩
theorem RunW.out {n k : Nat} : ∀ {E : List Edge} {l : List Bool}, k < E.length → RunW n (k : Int) E l → ∃ l', RunR n (E.eraseIdx (E.length - 1 - k)) l' ∧ keptR (E.eraseIdx (E.length - 1 - k)) l' = keptR E l ∧ l'.countP id = l.countP id
  | [], _, h, _ => by simp at h
  | _ :: _, [], _, h2 => h2.elim
  | e :: E, b :: l, h, h2 => by
    rw [List.length_cons] at h
    by_cases hk : E.length = k
    · have hb : b = false := h2.2.1 (by omega)
      subst hb
      have h0 : (e :: E).length - 1 - k = 0 := by rw [List.length_cons]; omega
      rw [h0, List.eraseIdx_cons_zero]
      exact ⟨l, RunW.low (by omega) h2.1, by simp [keptR], by simp⟩
    · obtain ⟨l', h3, h4, h5⟩ := RunW.out (by omega) h2.1
      have h0 : (e :: E).length - 1 - k = (E.length - 1 - k) + 1 := by rw [List.length_cons]; omega
      rw [h0, List.eraseIdx_cons_succ]
      refine ⟨b :: l', ⟨h3, ?_⟩, ?_, ?_⟩
      · rw [h4]
        exact h2.2.2 (by omega)
      · simp only [keptR, h4]
      · simp only [List.countP_cons, h5]
/-- erasing in a list that is turned round -/
theorem reverse_erase {α : Type} (l : List α) (k : Nat) (hk : k < l.length) : (l.eraseIdx k).reverse = l.reverse.eraseIdx (l.length - 1 - k) := by
  apply List.ext_getElem?
  intro i
  rw [List.getElem?_eraseIdx]
  have h1 : (l.eraseIdx k).length = l.length - 1 := List.length_eraseIdx_of_lt hk
  by_cases hi : i < l.length - 1
  · rw [List.getElem?_reverse (by rw [h1]; exact hi), h1, List.getElem?_eraseIdx]
    by_cases c : i < l.length - 1 - k
    · rw [if_pos c, List.getElem?_reverse (by omega), if_neg (by omega)]
      congr 1
      omega
    · rw [if_neg c, List.getElem?_reverse (by omega), if_pos (by omega)]
      congr 1
      omega
  · rw [List.getElem?_eq_none (by rw [List.length_reverse, h1]; omega)]
    split
    · omega
    · rw [List.getElem?_eq_none (by rw [List.length_reverse]; omega)]
end Go.Proofs.Ytgnmjaponiclhaa
