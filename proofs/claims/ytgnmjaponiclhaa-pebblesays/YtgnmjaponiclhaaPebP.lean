/- lists of edges of the law's own; slices.Equal of bools; slices.Clone of edges. -/
import Derived.Test.YtgnmjaponiclhaaPebH
import Derived.Test.YtgnmjaponiclhaaPebU
namespace Go.Proofs.Ytgnmjaponiclhaa
open Go.RowKit Go.MapKept
set_option linter.unusedVariables false
set_option linter.unusedSimpArgs false

theorem BRow.lst {w : World} {B : Nat} {v : Value} {l : List Bool} (h : BRow w B v l) : BLst w v l := by
  rcases h.at with ⟨rfl, rfl⟩ | ⟨g, cap, rfl, _, hg, _, _, hc⟩
  · exact ⟨none, 0, rfl, fun i q hi => by simp at hi⟩
  · exact ⟨_, cap, rfl, fun i q hi => ⟨g, 0, rfl, hg, by rw [Nat.zero_add]; exact hc i q hi⟩⟩
theorem BLst.below {w w' : World} {v : Value} {l : List Bool} (h : BLst w v l) (hb : Below w.heap.size w w') : BLst w' v l := by
  obtain ⟨a, cap, rfl, hc⟩ := h
  refine ⟨a, cap, rfl, fun i q hi => ?_⟩
  obtain ⟨b, off, h1, h2, h3⟩ := hc i q hi
  exact ⟨b, off, h1, Nat.lt_of_lt_of_le h2 hb.size, (hb.cell (p := ⟨b, off + i, none⟩) h2).trans h3⟩
set_option maxRecDepth 100000 in
theorem sl_Equal (u v : Value) (l : List Bool) (w : World) (hu : BLst w u l) (hv : BLst w v l) (hs : l.length ≤ 45) :
    Calls Try.prog 17 #[u, v] w fun e w' => e = .returned (.bool true) ∧ Below w.heap.size w w' := by
  obtain ⟨a, c, rfl, hc⟩ := hu
  obtain ⟨b, d, rfl, hd⟩ := hv
  have HC := Hid.intro hc
  have HD := Hid.intro hd
  clear hc hd
  go_enter Try.func17, Try.ntmps17
  go_wp2_with fail
  go_loopw [13] (fun iv wr => ∃ i : Nat, i ≤ l.length ∧ iv = .int .i64 i ∧ Below w.heap.size w wr) (fun iv _ => l.length - (intOf iv).toNat)
  case atStart => exact ⟨0, by omega, rfl, Below.refl _ _⟩
  case round =>
    obtain ⟨i, hi, rfl, hb⟩ := hrel
    have HB := Hid.intro hb
    by_cases hie : i < l.length
    · obtain ⟨f, hf⟩ : ∃ f, l[i]? = some f := ⟨l[i], List.getElem?_eq_getElem hie⟩
      obtain ⟨b1, o1, rfl, h1, d1⟩ := HC.out i f hf
      obtain ⟨b2, o2, rfl, h2, d2⟩ := HD.out i f hf
      have d1' : wr.cell? ⟨b1, o1 + i, none⟩ = some (.bool f) := (hb.cell (p := ⟨b1, o1 + i, none⟩) h1).trans d1
      have d2' : wr.cell? ⟨b2, o2 + i, none⟩ = some (.bool f) := (hb.cell (p := ⟨b2, o2 + i, none⟩) h2).trans d2
      have q3 : ((i : Int) < (l.length : Int)) := by omega
      clear hf d1 d2 hb h1 h2
      go_wp2_with fail
      go_region
      go_wp2
      go_roundw
      case rel => exact ⟨i + 1, by omega, by go_num, HB.out.drew⟩
      case measure => simp [intOf]; omega
    · obtain rfl : i = l.length := by omega
      clear hb
      go_wp2
      go_ret
      exact ⟨rfl, HB.out⟩
/-- an edge's cells -/
def eCells (e : Int × Int) : List Value := [.int .i64 e.1, .int .i64 e.2]
/-- a list of edges in a block of its own -/
def EOwn (w : World) (B : Nat) (v : Value) (es : List (Int × Int)) : Prop := w.ownsRow B 29 2 v es.length (es.flatMap eCells)
theorem eFlat_len (es : List (Int × Int)) : (es.flatMap eCells).length = es.length * 2 := by
  induction es with
  | nil => rfl
  | cons e l ih => rw [List.flatMap_cons, List.length_append, ih, List.length_cons]; simp [eCells]; omega
theorem eFlat_at : ∀ (es : List (Int × Int)) (i : Nat) (e : Int × Int), es[i]? = some e → (es.flatMap eCells)[i * 2]? = some (.int .i64 e.1) ∧ (es.flatMap eCells)[i * 2 + 1]? = some (.int .i64 e.2)
  | [], i, e, h => by simp at h
  | x :: l, 0, e, h => by
    simp at h
    subst h
    exact ⟨rfl, rfl⟩
  | x :: l, i + 1, e, h => by
    have := eFlat_at l i e (by simpa using h)
    rw [List.flatMap_cons]
    rw [show (i + 1) * 2 = i * 2 + 1 + 1 by omega]
    simpa [eCells] using this
theorem eFlat_one (es : List (Int × Int)) : ∀ u ∈ es.flatMap eCells, u.oneCell' = true := by
  intro u hu
  obtain ⟨e, _, h⟩ := List.mem_flatMap.1 hu
  simp [eCells] at h
  rcases h with rfl | rfl <;> rfl
theorem EOwn.row {w : World} {B : Nat} {v : Value} {es : List (Int × Int)} (h : EOwn w B v es) : ∃ a cap, v = .slice a es.length cap ∧ ERow w a cap es ∧ es.length ≤ maxLen := by
  rcases h.2 with ⟨h1, h2⟩ | ⟨g, cap, cur, rfl, hb, hg, hn, hm, hs, ht⟩
  · have := List.eq_nil_of_length_eq_zero h2
    subst this
    exact ⟨none, 0, h1, ⟨Nat.le_refl _, fun i e hi => by simp at hi⟩, by simp⟩
  · have hlt : g < w.heap.size := (Array.getElem?_eq_some_iff.1 hg).1
    have hc : ∀ j u, (es.flatMap eCells)[j]? = some u → w.cell? ⟨g, j, none⟩ = some u := fun j u hj => by
      have hjl := (List.getElem?_eq_some_iff.1 hj).1
      rw [eFlat_len] at hjl
      rw [← ht, List.getElem?_take_of_lt hjl, Array.getElem?_toList] at hj
      rw [SB.cell (t := 29) hg]
      exact hj
    refine ⟨_, cap, rfl, ⟨hn, fun i e hi => ?_⟩, Nat.le_trans hn hm⟩
    obtain ⟨h1, h2⟩ := eFlat_at es i e hi
    exact ⟨g, 0, rfl, hlt, by rw [Nat.zero_add]; exact hc _ _ h1, by rw [Nat.zero_add]; exact hc _ _ h2⟩
theorem infoPairs : (Try.prog.info? 29).map (fun i => (i.zero, i.size, i.bytes)) = some (some (.agg #[.int .i64 0, .int .i64 0]), 2, 16) := by kernel_rfl
theorem EOwn.app {w : World} {B : Nat} {v : Value} {es : List (Int × Int)} (h : EOwn w B v es) (a : Addr) (fs : List (Int × Int)) (hx : ∀ j u, (fs.flatMap eCells)[j]? = some u → w.cell? (a.add j) = some u) (hl : es.length + fs.length ≤ 100000000) (hB : B ≤ w.heap.size) (c : Nat) :
    ∃ v' w', appRun Try.prog 27 27 v (.slice (some a) fs.length c) w = .ok v' w' ∧ EOwn w' B v' (es ++ fs) ∧ w.grownBy w' v.ownBlock ∧ (v'.ownBlock = v.ownBlock ∨ v'.ownBlock = some w.heap.size) := by
  obtain ⟨i0, hi, hz0, hz1, hz2⟩ := info_parts infoPairs
  obtain ⟨v', w', h1, h2, h3, h4, h5⟩ := run_append_own_at (P := Try.prog) w B 27 27 29 i0 (.agg #[.int .i64 0, .int .i64 0]) 2 16 Try.underlying27 hi hz0 hz1 hz2 rfl (by decide) v es.length (es.flatMap eCells) h a fs.length c (fs.flatMap eCells) (eFlat_len fs) hx (eFlat_one fs) (by unfold maxLen; omega) (by omega) hB
  refine ⟨v', w', h1, ?_, h3, h5⟩
  unfold EOwn
  rw [List.length_append, List.flatMap_append]
  exact h2
theorem EOwn.cells {w : World} {B g n cap : Nat} {es : List (Int × Int)} (h : EOwn w B (.slice (some ⟨g, 0, none⟩) n cap) es) : ∀ j u, (es.flatMap eCells)[j]? = some u → w.cell? ((⟨g, 0, none⟩ : Addr).add j) = some u := World.ownsRow.cells (g := g) h rfl
theorem EOwn.appFull {w : World} {B g cap : Nat} {es : List (Int × Int)} (h : EOwn w B (.slice (some ⟨g, 0, none⟩) es.length cap) es) (hcap : cap = es.length) (a : Addr) (fs : List (Int × Int)) (hf : 0 < fs.length) (hx : ∀ j u, (fs.flatMap eCells)[j]? = some u → w.cell? (a.add j) = some u) (hl : es.length + fs.length ≤ 100000000) (hB : B ≤ w.heap.size) (c : Nat) :
    ∃ v' w', appRun Try.prog 27 27 (.slice (some ⟨g, 0, none⟩) es.length cap) (.slice (some a) fs.length c) w = .ok v' w' ∧ EOwn w' B v' (es ++ fs) ∧ Below w.heap.size w w' := by
  obtain ⟨v', w', h1, h2, h3, _⟩ := h.app a fs hx hl hB c
  refine ⟨v', w', h1, h2, ?_⟩
  obtain ⟨i0, hi, hz0, hz1, hz2⟩ := info_parts infoPairs
  have h4 := run_append_grow (P := Try.prog) w 27 27 29 i0 (.agg #[.int .i64 0, .int .i64 0]) Try.underlying27 hi hz0 ⟨g, 0, none⟩ es.length cap (es.flatMap eCells) (by rw [hz1]; exact eFlat_len es) h.cells a fs.length c (fs.flatMap eCells) (by rw [hz1]; exact eFlat_len fs) hx (by omega) (by omega) (by rw [hz2]; exact growslice_fits (by omega) (by omega))
  unfold appRun at h1
  rw [h1] at h4
  injection h4 with _ e2
  rw [e2]
  exact ((Below.refl _ _).drew).alloc (Nat.le_refl _) _
theorem EOwn.keep {w w' : World} {B : Nat} {v : Value} {es : List (Int × Int)} (h : EOwn w B v es) (hk : ∀ g, v.ownBlock = some g → w'.heap[g]? = w.heap[g]?) : EOwn w' B v es := by
  refine ⟨h.1, ?_⟩
  rcases h.2 with h1 | ⟨g, cap, cur, rfl, hb, hg, h2⟩
  · exact .inl h1
  · exact .inr ⟨g, cap, cur, rfl, hb, by rw [hk g rfl]; exact hg, h2⟩
theorem EOwn.block {w : World} {B : Nat} {v : Value} {es : List (Int × Int)} (h : EOwn w B v es) {g : Nat} (hg : v.ownBlock = some g) : B ≤ g ∧ ∃ C, SB w g 29 C := by
  rcases h.2 with ⟨rfl, _⟩ | ⟨g', cap, cur, rfl, hb, hg', _⟩
  · simp [Value.ownBlock] at hg
  · have e : g' = g := by simpa [Value.ownBlock] using hg
    subst e
    exact ⟨hb, cur, hg'⟩
theorem EOwn.below {w w' : World} {B : Nat} {v : Value} {es : List (Int × Int)} (h : EOwn w B v es) (hb : Below w.heap.size w w') : EOwn w' B v es := h.keep (fun g hg => by
  obtain ⟨_, C, hC⟩ := h.block hg
  exact hb.block g hC.lt)
theorem EOwn.nil (w : World) (B : Nat) : EOwn w B (.slice none 0 0) [] := World.ownsRow_nil w B 29 2
end Go.Proofs.Ytgnmjaponiclhaa
