/- What ForceSays' two answers have in common; plain, no program. -/
import Derived.Test.YtmgebbnmcgfnjaaGreatDoorC40LawD
namespace Go.Proofs.YtmgebbnmcgfnjaaGreatDoor
open Go.RowKit
set_option linter.unusedVariables false
set_option linter.unusedSimpArgs false

theorem bytes_same {s t : ByteArray} (h : s.data.toList = t.data.toList) : s = t := (bytes_eq h).trans (bytes_eq rfl).symm
theorem qtext_same {s t : ByteArray} {q : Rat} (h : QText s.data.toList q) (k : QText t.data.toList q) : s = t := bytes_same (h.inj k)

/-- the program's sum and the document's are one -/
theorem same_sum {fs : List F4} {x y t : Rat} {kind : Int} {s1 s2 s3 s4 s5 r1 r2 r3 r4 r5 : ByteArray} (hs : Sums 0 0 fs x y t) (h1 : QText s1.data.toList x) (h2 : QText s2.data.toList y) (h3 : QText s3.data.toList t)
    (h4 : QText s4.data.toList (nearX x y t)) (h5 : QText s5.data.toList (nearY x y t)) (hr : SumText fs kind r1 r2 r3 r4 r5) :
    kind = kindOf x y t ∧ r1 = s1 ∧ r2 = s2 ∧ r3 = s3 ∧ r4 = s4 ∧ r5 = s5 := by
  obtain ⟨x', y', t', hs', k1, k2, k3, hc⟩ := hr
  obtain ⟨rfl, rfl, rfl⟩ := hs'.inj hs
  obtain rfl := qtext_same h1 k1
  obtain rfl := qtext_same h2 k2
  obtain rfl := qtext_same h3 k3
  have hz : QText zeroText.data.toList 0 := qtext_0
  rcases hc with ⟨h0, hk, rfl, rfl⟩ | ⟨h0, rfl, k4, k5⟩
  · have hxy : x' = 0 ∧ y' = 0 := Classical.byContradiction fun hn => sq_ne hn h0
    rw [nearX, if_pos hxy] at h4
    rw [nearY, if_pos hxy] at h5
    refine ⟨?_, rfl, rfl, rfl, qtext_same hz h4, qtext_same hz h5⟩
    rw [kindOf, if_pos hxy]
    rcases hk with ⟨ht, rfl⟩ | ⟨ht, rfl⟩
    · rw [if_pos ht]
    · rw [if_neg ht]
  · have hxy : ¬ (x' = 0 ∧ y' = 0) := by
      rintro ⟨rfl, rfl⟩
      exact h0 (by grind)
    rw [nearX, if_neg hxy] at h4
    rw [nearY, if_neg hxy] at h5
    rw [show t' * y' / (x' * x' + y' * y') = y' * (t' / (x' * x' + y' * y')) by grind] at k4
    rw [show -(t' * x') / (x' * x' + y' * y') = -x' * (t' / (x' * x' + y' * y')) by grind] at k5
    exact ⟨by rw [kindOf, if_neg hxy], rfl, rfl, rfl, qtext_same k4 h4, qtext_same k5 h5⟩

/-- alike, as the document's texts have it -/
theorem same_alike {fs gs : List F4} {x y t x' y' t' : Rat} {k k' : Int} {p1 p2 p3 p4 p5 q1 q2 q3 q4 q5 : ByteArray} (hs : Sums 0 0 fs x y t) (hs' : Sums 0 0 gs x' y' t')
    (hp : SumText fs k p1 p2 p3 p4 p5) (hq : SumText gs k' q1 q2 q3 q4 q5) : (x = x' ∧ y = y' ∧ t = t') ↔ (p1 = q1 ∧ p2 = q2 ∧ p3 = q3) := by
  obtain ⟨x1, y1, t1, h1, a1, a2, a3, _⟩ := hp
  obtain ⟨rfl, rfl, rfl⟩ := h1.inj hs
  obtain ⟨x2, y2, t2, h2, b1, b2, b3, _⟩ := hq
  obtain ⟨rfl, rfl, rfl⟩ := h2.inj hs'
  constructor
  · rintro ⟨rfl, rfl, rfl⟩
    exact ⟨qtext_same a1 b1, qtext_same a2 b2, qtext_same a3 b3⟩
  · rintro ⟨rfl, rfl, rfl⟩
    exact ⟨a1.one b1, a2.one b2, a3.one b3⟩
end Go.Proofs.YtmgebbnmcgfnjaaGreatDoor
