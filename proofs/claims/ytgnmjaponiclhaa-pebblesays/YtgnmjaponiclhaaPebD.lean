/- a graph's fault: one answer alone; two pairs that join the same points. -/
import Derived.Test.YtgnmjaponiclhaaPebC
namespace Go.Proofs.Ytgnmjaponiclhaa
open Go.RowKit Go.MapKept
set_option linter.unusedVariables false
set_option linter.unusedSimpArgs false

theorem lesser_eq (o e : Int × Int) : lesser o = lesser e ↔ o = e ∨ (o.1 = e.2 ∧ o.2 = e.1) := by
  obtain ⟨a, b⟩ := o
  obtain ⟨c, d⟩ := e
  simp only [lesser, Prod.mk.injEq]
  omega
theorem lesser_mem (es : List (Int × Int)) (e : Int × Int) : lesser e ∈ es.map lesser ↔ ∃ o ∈ es, o = e ∨ (o.1 = e.2 ∧ o.2 = e.1) := by
  rw [List.mem_map]
  constructor
  · rintro ⟨o, h1, h2⟩
    exact ⟨o, h1, (lesser_eq o e).1 h2⟩
  · rintro ⟨o, h1, h2⟩
    exact ⟨o, h1, (lesser_eq o e).2 h2⟩
theorem ChkSays.inj {n : Int} {es : List (Int × Int)} {c a c' a' : Int} (h : ChkSays n es c a) (h' : ChkSays n es c' a') : c = c' ∧ a = a' := by
  rcases h with ⟨hb, rfl, rfl⟩ | ⟨h1, h2, h3, h⟩
  · rcases h' with ⟨_, rfl, rfl⟩ | ⟨h1, h2, h3, -⟩
    · exact ⟨rfl, rfl⟩
    · omega
  · rcases h' with ⟨hb, -, -⟩ | ⟨-, -, -, h'⟩
    · clear h
      omega
    · rcases h with ⟨k, e, hk, hall, hc, hn, rfl⟩ | ⟨hall, rfl, rfl⟩
      · rcases h' with ⟨k', e', hk', hall', hc', hn', rfl⟩ | ⟨hall', rfl, rfl⟩
        · have : k = k' := by
            rcases Nat.lt_trichotomy k k' with hl | hl | hl
            · exact absurd (hc.symm.trans (hall' k e hl hk)) hn
            · exact hl
            · exact absurd (hc'.symm.trans (hall k' e' hl hk')) hn'
          subst this
          obtain rfl : e = e' := Option.some.inj (hk.symm.trans hk')
          exact ⟨hc.symm.trans hc', rfl⟩
        · exact absurd (hc.symm.trans (hall' k e hk)) hn
      · rcases h' with ⟨k', e', hk', hall', hc', hn', rfl⟩ | ⟨hall', rfl, rfl⟩
        · exact absurd (hc'.symm.trans (hall k' e' hk')) hn'
        · exact ⟨rfl, rfl⟩
end Go.Proofs.Ytgnmjaponiclhaa
