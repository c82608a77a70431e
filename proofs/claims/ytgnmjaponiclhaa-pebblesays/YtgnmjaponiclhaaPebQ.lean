/- the closed fact of the pebble laws: plays. -/
import Derived.Test.YtgnmjaponiclhaaPebP
namespace Go.Proofs.Ytgnmjaponiclhaa
open Go.RowKit Go.MapKept
set_option linter.unusedVariables false
set_option linter.unusedSimpArgs false

theorem Chk_zero {n : Int} {es : List (Int × Int)} {c at_ : Int} (h : ChkSays n es c at_) (h1 : 1 ≤ n) (h2 : n ≤ 10) (h3 : es.length ≤ 45) (hall : ∀ i x, es[i]? = some x → edgeC n es i x = 0) : c = 0 ∧ at_ = 0 := by
  rcases h with ⟨h, _, _⟩ | ⟨_, _, _, h⟩
  · omega
  · rcases h with ⟨k, e, hk, _, he, hc, _⟩ | ⟨_, h, h'⟩
    · rw [hall k e hk] at he
      exact absurd he.symm hc
    · exact ⟨h, h'⟩
def okE (n : Int) (es : List (Int × Int)) : Bool := (List.range es.length).all (fun i => match es[i]? with | some x => edgeC n es i x == 0 | none => true)
theorem okE_all {n : Int} {es : List (Int × Int)} (h : okE n es = true) : ∀ i x, es[i]? = some x → edgeC n es i x = 0 := by
  intro i x hx
  unfold okE at h
  have := List.all_eq_true.1 h i (List.mem_range.2 (List.getElem?_eq_some_iff.1 hx).1)
  rw [hx] at this
  simpa using this
def sq : List (Int × Int) := [(0, 1), (1, 2), (2, 3), (3, 0)]
def sq5 : List (Int × Int) := [(0, 1), (1, 2), (2, 3), (3, 0), (0, 2)]
def sq6 : List (Int × Int) := [(0, 1), (1, 2), (2, 3), (3, 0), (0, 2), (1, 3)]
theorem ok_sq : okE 4 sq = true := by decide
theorem ok_sq5 : okE 4 sq5 = true := by decide
theorem ok_sq6 : okE 4 sq6 = true := by decide
theorem sparse_five : Sparse 4 [((0, 2) : Edge), (3, 0), (2, 3), (1, 2), (0, 1)] := by
  refine sparse_masks (n := 4) ?_ ?_
  · intro e he
    simp only [List.mem_cons, List.not_mem_nil, or_false] at he
    rcases he with rfl | rfl | rfl | rfl | rfl <;> exact ⟨by decide, by decide, by decide⟩
  · decide
theorem run_five : RunR 4 [((0, 2) : Edge), (3, 0), (2, 3), (1, 2), (0, 1)] [true, true, true, true, true] := by
  have h5 := sparse_five
  have h4 := h5.less
  have h3 := h4.less
  have h2 := h3.less
  have h1 := h2.less
  exact ⟨⟨⟨⟨⟨trivial, ⟨fun _ => h1, fun _ => rfl⟩⟩, ⟨fun _ => h2, fun _ => rfl⟩⟩, ⟨fun _ => h3, fun _ => rfl⟩⟩, ⟨fun _ => h4, fun _ => rfl⟩⟩, ⟨fun _ => h5, fun _ => rfl⟩⟩
theorem run_six : RunR 4 [((1, 3) : Edge), (0, 2), (3, 0), (2, 3), (1, 2), (0, 1)] [false, true, true, true, true, true] := by
  refine ⟨run_five, ⟨(fun h => by cases h), fun h => ?_⟩⟩
  have := h (fun _ => true) (by decide)
  exact absurd this (by decide)
theorem run_four : RunR 4 [((3, 0) : Edge), (2, 3), (1, 2), (0, 1)] [true, true, true, true] := run_five.1
theorem rigid_sq (s : Nat) (w : World) (h : ERow w (some ⟨s, 0, none⟩) 4 sq) : Calls Try.prog 12 #[.int .i64 4, .slice (some ⟨s, 0, none⟩) 4 4] w fun e w' => e = .returned (.tuple #[.bool false, .agg #[.int .i64 0, .int .i64 0]]) ∧ Below w.heap.size w w' := by
  have := peb_Rigid 4 (some ⟨s, 0, none⟩) 4 sq w h (by decide)
  refine Calls.mono this ?_
  rintro e w' ⟨c, at_, b, rfl, hck, hb, h⟩
  obtain ⟨rfl, rfl⟩ := Chk_zero hck (by decide) (by decide) (by decide) (okE_all ok_sq)
  rcases h with ⟨h, _⟩ | ⟨_, l, hr, rfl⟩
  · exact absurd rfl h
  · obtain rfl := run_one run_four hr
    exact ⟨rfl, hb⟩
theorem rigid_sq5 (a : Option Addr) (cap : Nat) (w : World) (h : ERow w a cap sq5) : Calls Try.prog 12 #[.int .i64 4, .slice a 5 cap] w fun e w' => e = .returned (.tuple #[.bool true, .agg #[.int .i64 0, .int .i64 0]]) ∧ Below w.heap.size w w' := by
  have := peb_Rigid 4 a cap sq5 w h (by decide)
  refine Calls.mono this ?_
  rintro e w' ⟨c, at_, b, rfl, hck, hb, h⟩
  obtain ⟨rfl, rfl⟩ := Chk_zero hck (by decide) (by decide) (by decide) (okE_all ok_sq5)
  rcases h with ⟨h, _⟩ | ⟨_, l, hr, rfl⟩
  · exact absurd rfl h
  · obtain rfl := run_one run_five hr
    exact ⟨rfl, hb⟩
theorem free_sq6 (a : Option Addr) (cap : Nat) (w : World) (h : ERow w a cap sq6) : Calls Try.prog 11 #[.int .i64 4, .slice a 6 cap] w fun e w' => ∃ v, e = .returned (.tuple #[v, .agg #[.int .i64 0, .int .i64 0]]) ∧ BLst w' v [true, true, true, true, true, false] ∧ Below w.heap.size w w' := by
  have := peb_Free 4 a cap sq6 w h (by decide)
  refine Calls.mono this ?_
  rintro e w' ⟨c, at_, v, rfl, hck, hb, h⟩
  obtain ⟨rfl, rfl⟩ := Chk_zero hck (by decide) (by decide) (by decide) (okE_all ok_sq6)
  rcases h with ⟨h, _⟩ | ⟨_, l, hbr, hr⟩
  · exact absurd rfl h
  · have e1 := run_one run_six hr
    have e2 : l = [true, true, true, true, true, false] := by rw [← List.reverse_reverse l, ← e1]; rfl
    subst e2
    exact ⟨v, rfl, hbr.lst, hb⟩
set_option maxRecDepth 100000 in
set_option maxHeartbeats 4000000 in
theorem law_plays (w : World) : Calls Try.prog 8 #[] w fun e w' => e = .returned (.bool true) ∧ Below w.heap.size w w' := by
  obtain ⟨W, hW⟩ : ∃ W, w.alloc (.cells #[.int .i64 0, .int .i64 1, .int .i64 1, .int .i64 2, .int .i64 2, .int .i64 3, .int .i64 3, .int .i64 0] 29) = W := ⟨_, rfl⟩
  have hB0 : Below w.heap.size w W := by rw [← hW]; exact (Below.refl _ _).alloc (Nat.le_refl _) _
  obtain ⟨s, hs⟩ : ∃ s, w.heap.size = s := ⟨_, rfl⟩
  have hS0 : SB W s 29 #[.int .i64 0, .int .i64 1, .int .i64 1, .int .i64 2, .int .i64 2, .int .i64 3, .int .i64 3, .int .i64 0] := by rw [← hW, ← hs]; exact SB.new w _ _
  have hE0 : EOwn W s (.slice (some ⟨s, 0, none⟩) 4 4) sq := ⟨rfl, .inr ⟨s, 4, _, rfl, Nat.le_refl _, hS0, by decide, by decide, by decide, rfl⟩⟩
  have hR0 : ∀ v, Below W.heap.size W v → ERow v (some ⟨s, 0, none⟩) 4 sq := fun v hv => by
    obtain ⟨a, c, e, h, _⟩ := (hE0.below hv).row
    injection e with e1 _ e3
    rw [e1, e3]
    exact h
  have HB0 := Hid.intro hB0
  have HE0 := Hid.intro hE0
  have HR0 := Hid.intro hR0
  have HW := Hid.intro hW
  have HS := Hid.intro hs
  clear hW hB0 hS0 hE0 hR0
  go_enter Try.func8, Try.ntmps8
  go_wp2_with fail
  rw [HW.out]
  try rw [hs]
  clear hs
  go_fit (rigid_sq s W (HR0.out W (Below.refl _ _)))
  rintro e w1 ⟨rfl, hb1⟩
  obtain ⟨F1, hF1⟩ : ∃ F1, w1.alloc (.cells #[.int .i64 0, .int .i64 0] 31) = F1 := ⟨_, rfl⟩
  have hF1s : SB F1 w1.heap.size 31 #[.int .i64 0, .int .i64 0] := by rw [← hF1]; exact SB.new w1 _ _
  have hbF1 : Below W.heap.size W F1 := by rw [← hF1]; exact hb1.alloc hb1.size _
  have hszF : F1.heap.size = w1.heap.size + 1 := by rw [← hF1, World.size_alloc]
  obtain ⟨X1, hX1⟩ : ∃ X1, F1.alloc (.cells #[.int .i64 0, .int .i64 2] 29) = X1 := ⟨_, rfl⟩
  have hbX1 : Below F1.heap.size F1 X1 := by rw [← hX1]; exact (Below.refl _ _).alloc (Nat.le_refl _) _
  have hcX1 : ∀ j u, (([(0, 2)] : List (Int × Int)).flatMap eCells)[j]? = some u → X1.cell? ((⟨w1.heap.size + 1, 0, none⟩ : Addr).add j) = some u := fun j u hj => by
    rw [← hszF, add_at, Nat.zero_add, ← hX1, (SB.new F1 29 #[.int .i64 0, .int .i64 2]).cell]
    simpa [eCells] using hj
  obtain ⟨v2, w2, happ, hE2, hb2⟩ := (HE0.out.below (hbF1.trans (hbX1.mono hbF1.size))).appFull rfl ⟨w1.heap.size + 1, 0, none⟩ [(0, 2)] (by decide) hcX1 (by decide) (by have := hbF1.size; have := hbX1.size; have := HB0.out.size; have := HS.out; omega) 1
  obtain ⟨a2, cap2, rfl, hr2, _⟩ := hE2.row
  have happ' : appRun Try.prog 27 27 (.slice (some ⟨s, 0, none⟩) 4 4) (.slice (some ⟨w1.heap.size + 1, 0, none⟩) 1 1) ((w1.alloc (.cells #[.int .i64 0, .int .i64 0] 31)).alloc (.cells #[.int .i64 0, .int .i64 2] 29)) = .ok (.slice a2 5 cap2) w2 := by rw [hF1, hX1]; exact happ
  have HBF1 := Hid.intro hbF1
  have HF1S := Hid.intro hF1s
  have HB2 : Hid (Below F1.heap.size F1 w2) := Hid.intro (hbX1.trans (hb2.mono hbX1.size))
  have HRI := Hid.intro (rigid_sq5 a2 cap2 w2 hr2)
  clear happ hb1 hF1 hF1s hbF1 hszF hX1 hbX1 hcX1 hE2 hb2 hr2
  go_wp2_with fail
  clear happ'
  go_fit HRI.out
  rintro e w3 ⟨rfl, hb3⟩
  have hb3F : Below F1.heap.size F1 w3 := HB2.out.trans (hb3.mono HB2.out.size)
  obtain ⟨F2, hF2⟩ : ∃ F2, w3.alloc (.cells #[.int .i64 0, .int .i64 0] 31) = F2 := ⟨_, rfl⟩
  have hF2s : SB F2 w3.heap.size 31 #[.int .i64 0, .int .i64 0] := by rw [← hF2]; exact SB.new w3 _ _
  have hbF2 : Below F1.heap.size F1 F2 := by rw [← hF2]; exact hb3F.alloc hb3F.size _
  have hszF : F2.heap.size = w3.heap.size + 1 := by rw [← hF2, World.size_alloc]
  obtain ⟨X2, hX2⟩ : ∃ X2, F2.alloc (.cells #[.int .i64 0, .int .i64 2, .int .i64 1, .int .i64 3] 29) = X2 := ⟨_, rfl⟩
  have hbX2 : Below F2.heap.size F2 X2 := by rw [← hX2]; exact (Below.refl _ _).alloc (Nat.le_refl _) _
  have hcX2 : ∀ j u, (([(0, 2), (1, 3)] : List (Int × Int)).flatMap eCells)[j]? = some u → X2.cell? ((⟨w3.heap.size + 1, 0, none⟩ : Addr).add j) = some u := fun j u hj => by
    rw [← hszF, add_at, Nat.zero_add, ← hX2, (SB.new F2 29 #[.int .i64 0, .int .i64 2, .int .i64 1, .int .i64 3]).cell]
    simpa [eCells] using hj
  have hbW2 : Below W.heap.size W X2 := (HBF1.out.trans (hbF2.mono HBF1.out.size)).trans (hbX2.mono (by have := hbF2.size; have := HBF1.out.size; omega))
  obtain ⟨v4, w4, happ, hE4, hb4⟩ := (HE0.out.below hbW2).appFull rfl ⟨w3.heap.size + 1, 0, none⟩ [(0, 2), (1, 3)] (by decide) hcX2 (by decide) (by have := hbW2.size; have := HB0.out.size; have := HS.out; omega) 2
  obtain ⟨a4, cap4, rfl, hr4, _⟩ := hE4.row
  have happ' : appRun Try.prog 27 27 (.slice (some ⟨s, 0, none⟩) 4 4) (.slice (some ⟨w3.heap.size + 1, 0, none⟩) 2 2) ((w3.alloc (.cells #[.int .i64 0, .int .i64 0] 31)).alloc (.cells #[.int .i64 0, .int .i64 2, .int .i64 1, .int .i64 3] 29)) = .ok (.slice a4 6 cap4) w4 := by rw [hF2, hX2]; exact happ
  have HBF2 := Hid.intro hbF2
  have HF2S := Hid.intro hF2s
  have HB4 : Hid (Below F2.heap.size F2 w4) := Hid.intro (hbX2.trans (hb4.mono hbX2.size))
  have HFR := Hid.intro (free_sq6 a4 cap4 w4 hr4)
  clear happ hb3 hb3F hF2 hF2s hbF2 hszF hX2 hbX2 hcX2 hbW2 hE4 hb4 hr4
  go_wp2_with fail
  clear happ'
  go_fit HFR.out
  rintro e w5 ⟨v5, rfl, hbl5, hb5⟩
  have hbF25 : Below F2.heap.size F2 w5 := HB4.out.trans (hb5.mono HB4.out.size)
  obtain ⟨F3, hF3⟩ : ∃ F3, w5.alloc (.cells #[.int .i64 0, .int .i64 0] 31) = F3 := ⟨_, rfl⟩
  have hF3s : SB F3 w5.heap.size 31 #[.int .i64 0, .int .i64 0] := by rw [← hF3]; exact SB.new w5 _ _
  have hb53 : Below w5.heap.size w5 F3 := by rw [← hF3]; exact (Below.refl _ _).alloc (Nat.le_refl _) _
  have hbF23 : Below F2.heap.size F2 F3 := hbF25.trans (hb53.mono hbF25.size)
  have hbF13 : Below F1.heap.size F1 F3 := HBF2.out.trans (hbF23.mono HBF2.out.size)
  have hbW3 : Below W.heap.size W F3 := HBF1.out.trans (hbF13.mono HBF1.out.size)
  have i1 : F3.cell? ⟨w1.heap.size, 0, none⟩ = some (.int .i64 0) := (HF1S.out.below hbF13 HF1S.out.lt).cell 0
  have i2 : F3.cell? ⟨w3.heap.size, 0, none⟩ = some (.int .i64 0) := (HF2S.out.below hbF23 HF2S.out.lt).cell 0
  have i3 : F3.cell? ⟨w5.heap.size, 0, none⟩ = some (.int .i64 0) := hF3s.cell 0
  obtain ⟨G, hG⟩ : ∃ G, F3.alloc (.cells #[.bool true, .bool true, .bool true, .bool true, .bool true, .bool false] 4) = G := ⟨_, rfl⟩
  have hbG : Below F3.heap.size F3 G := by rw [← hG]; exact (Below.refl _ _).alloc (Nat.le_refl _) _
  have hGs : SB G F3.heap.size 4 #[.bool true, .bool true, .bool true, .bool true, .bool true, .bool false] := by rw [← hG]; exact SB.new F3 _ _
  have hszF3 : F3.heap.size = w5.heap.size + 1 := by rw [← hF3, World.size_alloc]
  have hlG : BLst G (.slice (some ⟨w5.heap.size + 1, 0, none⟩) 6 6) [true, true, true, true, true, false] := ⟨_, 6, rfl, fun i q hi => ⟨_, 0, rfl, by rw [← hszF3]; exact hGs.lt, by
    rw [← hszF3, Nat.zero_add, hGs.cell]
    match i, hi with
    | 0, hi => simpa using hi
    | 1, hi => simpa using hi
    | 2, hi => simpa using hi
    | 3, hi => simpa using hi
    | 4, hi => simpa using hi
    | 5, hi => simpa using hi
    | n + 6, hi => simp at hi⟩⟩
  have HEQ := Hid.intro (sl_Equal v5 (.slice (some ⟨w5.heap.size + 1, 0, none⟩) 6 6) _ G (hbl5.below (hb53.trans (hbG.mono hb53.size))) hlG (by decide))
  have HBG : Hid (Below w.heap.size w G) := Hid.intro ((HB0.out.trans (hbW3.mono HB0.out.size)).trans (hbG.mono (by have := hbW3.size; have := HB0.out.size; omega)))
  have HG := Hid.intro hG
  have HF3 := Hid.intro hF3
  rw [← hF3] at i1 i2 i3
  clear hbl5 hb5 hbF25 hF3 hF3s hb53 hbF23 hbF13 hbW3 hG hbG hGs hszF3 hlG
  go_wp2_with fail
  rw [HF3.out, HG.out]
  go_fit HEQ.out
  rintro e w6 ⟨rfl, hb6⟩
  have HB6 := Hid.intro (HBG.out.trans (hb6.mono HBG.out.size))
  clear hb6 i1 i2 i3
  go_wp2
  go_ret
  exact ⟨rfl, HB6.out⟩
end Go.Proofs.Ytgnmjaponiclhaa
