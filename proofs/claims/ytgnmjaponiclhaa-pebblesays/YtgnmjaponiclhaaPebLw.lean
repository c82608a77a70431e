/- raftersame: Lend of edges, walked: NOT YET CLEAN: no answer after 150 s. -/
import Derived.Test.YtgnmjaponiclhaaPebLe
namespace Go.Proofs.Ytgnmjaponiclhaa
open Go.RowKit Go.MapKept
set_option linter.unusedVariables false
set_option linter.unusedSimpArgs false
set_option maxRecDepth 100000 in
set_option maxHeartbeats 4000000 in
theorem same_Lend (a : Option Addr) (cap : Nat) (es : List (Int × Int)) (mk : Int × Int) (w : World) (h : ERow w a cap es) (hlen : es.length ≤ 8796093021952) :
    Calls Try.prog 9 #[.slice a es.length cap, .agg #[.int .i64 mk.1, .int .i64 mk.2]] w fun e w' => ∃ g cap', e = .returned (.slice (some ⟨g, 0, none⟩) es.length cap') ∧ EOwn w' w.heap.size (.slice (some ⟨g, 0, none⟩) (es.length + 3) cap') (es ++ [mk, mk, mk]) ∧ Below w.heap.size w w' := by
  obtain ⟨W, hW⟩ : ∃ W, w.alloc (.cells #[.int .i64 mk.1, .int .i64 mk.2] 29) = W := ⟨_, rfl⟩
  obtain ⟨s, hs⟩ : ∃ s, w.heap.size = s := ⟨_, rfl⟩
  obtain ⟨E, hE⟩ : ∃ E, W.drew = E := ⟨_, rfl⟩
  have hl0 : LSt w W s mk := ⟨by rw [← hW]; exact (Below.refl _ _).alloc (Nat.le_refl _) _, hs.symm, by rw [← hW, ← hs]; exact SB.new w _ _⟩
  have hlE : LSt w E s mk := by rw [← hE]; exact hl0.below ((Below.refl _ _).drew)
  have hwr : IntKind.i64.wrap ((es.length : Int) + 3) = (es.length : Int) + 3 := by
    simp [IntKind.wrap, IntKind.signed, IntKind.bits]
    omega
  have HW := Hid.intro hW
  have HSS := Hid.intro hs
  have HEE := Hid.intro hE
  have HE := Hid.intro h
  have HL0 := Hid.intro hl0
  have HLE := Hid.intro hlE
  have HLN := Hid.intro hlen
  have hlen' : (es.length : Int) ≤ 8796093021952 := by omega
  clear hW hs hE h hl0 hlE hlen
  go_enter Try.func9, Try.ntmps9
  go_wp2_with fail
  rw [HW.out, HSS.out]
  refine wp_region_held_drew (S := (fun v => v.cell? ⟨s, 0, none⟩ = some (.int .i64 mk.1) ∧ v.cell? ⟨s, 1, none⟩ = some (.int .i64 mk.2))) (by kernel_rfl) ⟨HL0.out.mark.cell 0, HL0.out.mark.cell 1⟩ (fun hHeld => ?_)
  rw [HEE.out] at hHeld ⊢
  refine wpAnyH_take (i := 0) (v := ?_) rfl (by kernel_rfl) (by kernel_rfl) (by kernel_rfl) (fun _ _ _ h => h) (Or.inl ⟨by rfl, ?_⟩) (by assumption) ?_
  rotate_left
  · intro w hSw
    (try dsimp only at hSw)
    first | (go_simp; done) | (go_simp; with_reducible rfl)
  (try simp only [Act.put, List.setIfInBounds_toArray, List.set_cons_zero, List.set_cons_succ])
  refine wpAnyH_take (i := 1) (v := ?_) rfl (by kernel_rfl) (by kernel_rfl) (by kernel_rfl) (fun _ _ _ h => h) (Or.inl ⟨by rfl, ?_⟩) (by assumption) ?_
  rotate_left
  · intro w hSw
    (try dsimp only at hSw)
    first | (go_simp; done) | (go_simp; with_reducible rfl)
  (try simp only [Act.put, List.setIfInBounds_toArray, List.set_cons_zero, List.set_cons_succ])
  refine wpAnyH_take (i := 2) (v := ?_) rfl (by kernel_rfl) (by kernel_rfl) (by kernel_rfl) (fun _ _ _ h => h) (Or.inl ⟨by rfl, ?_⟩) (by assumption) ?_
  rotate_left
  · intro w hSw
    (try dsimp only at hSw)
    first | (go_simp; done) | (go_simp; with_reducible rfl)
  (try simp only [Act.put, List.setIfInBounds_toArray, List.set_cons_zero, List.set_cons_succ])
  refine wpAnyH_take (i := 4) (v := ?_) rfl (by kernel_rfl) (by kernel_rfl) (by kernel_rfl) (fun _ _ _ h => h) (Or.inl ⟨by rfl, ?_⟩) (by assumption) ?_
  rotate_left
  · intro w hSw
    (try dsimp only at hSw)
    first | (go_simp; done) | (go_simp; with_reducible rfl)
  (try simp only [Act.put, List.setIfInBounds_toArray, List.set_cons_zero, List.set_cons_succ])
  refine wpAnyH_take (i := 6) (v := ?_) rfl (by kernel_rfl) (by kernel_rfl) (by kernel_rfl) (fun _ _ _ h => h) (Or.inl ⟨by rfl, ?_⟩) (by assumption) ?_
  rotate_left
  · intro w hSw
    (try dsimp only at hSw)
    first | (go_simp; done) | (go_simp; with_reducible rfl)
  (try simp only [Act.put, List.setIfInBounds_toArray, List.set_cons_zero, List.set_cons_succ])
  refine wpAnyH_take (i := 7) (v := ?_) rfl (by kernel_rfl) (by kernel_rfl) (by kernel_rfl) (fun _ _ _ h => h) (Or.inl ⟨by rfl, ?_⟩) (by assumption) ?_
  rotate_left
  · intro w hSw
    (try dsimp only at hSw)
    first | (go_simp; done) | (go_simp; with_reducible rfl)
  (try simp only [Act.put, List.setIfInBounds_toArray, List.set_cons_zero, List.set_cons_succ])
  refine wpAnyH_take (i := 8) (v := ?_) rfl (by kernel_rfl) (by kernel_rfl) (by kernel_rfl) (fun _ _ _ h => h) (Or.inl ⟨by rfl, ?_⟩) (by assumption) ?_
  rotate_left
  · intro w hSw
    (try dsimp only at hSw)
    first | (go_simp; done) | (go_simp; with_reducible rfl)
  (try simp only [Act.put, List.setIfInBounds_toArray, List.set_cons_zero, List.set_cons_succ])
  obtain ⟨u1, hmk, ho1, hl1, hg1⟩ := lend_make HLE.out es.length HLN.out
  have HO1 := Hid.intro ho1
  have HL1 := Hid.intro hl1
  have HG1 := Hid.intro hg1
  clear ho1 hl1 hg1
  refine wpAnyH_ready (rs := [3, 9]) (by kernel_rfl) (by simp) ?_
  refine AllReadyH.cons (by rfl) ?_ (AllReadyH.cons (by rfl) ?_ AllReadyH.nil)
  · intro K hK
    go_simp
    (try dsimp only)
    refine hK.out _ _ (⟨HL1.out.mark.cell 0, HL1.out.mark.cell 1⟩) (fun hHeld => ?_)
    clear hK K
    (try simp only [Act.put, List.setIfInBounds_toArray, List.set_cons_zero, List.set_cons_succ])
    clear hmk
    obtain ⟨v2, u2, happ, ho2, hl2, hg2⟩ := lend_app HL1.out HO1.out HE.out HLN.out
    have HO2 := Hid.intro ho2
    have HL2 := Hid.intro hl2
    clear ho2 hl2 hg2
    refine wpAnyH_ready (rs := [5, 9]) (by kernel_rfl) (by simp) ?_
    refine AllReadyH.cons (by rfl) ?_ (AllReadyH.cons (by rfl) ?_ AllReadyH.nil)
    · intro K hK
      refine step_app (t := 27) rfl (.tmp 9) (.tmp 10) rfl (vs := .slice (some ⟨E.heap.size, 0, none⟩) 0 (es.length + 3)) (vx := .slice a es.length cap) (by simp [Act.eval]) (by simp [Act.eval]) happ ?_
      (try dsimp only)
      refine hK.out _ _ (⟨HL2.out.mark.cell 0, HL2.out.mark.cell 1⟩) (fun hHeld => ?_)
      clear hK K
      (try simp only [Act.put, List.setIfInBounds_toArray, List.set_cons_zero, List.set_cons_succ])
      clear happ
      refine wpAnyH_ready (rs := [9]) (by kernel_rfl) (by simp) ?_
      refine AllReadyH.cons (by rfl) ?_ AllReadyH.nil
      intro K hK
      go_simp
      (try dsimp only)
      refine hK.out _ _ (⟨(lend_marks HL2.out).1.mark.cell 0, (lend_marks HL2.out).1.mark.cell 1⟩) (fun hHeld => ?_)
      clear hK K
      (try simp only [Act.put, List.setIfInBounds_toArray, List.set_cons_zero, List.set_cons_succ])
      obtain ⟨g, c, w4, happ2, ho4, hl4, hle⟩ := lend_last (lend_marks HL2.out).1 (HO2.out.below (lend_marks HL2.out).2.1) (lend_marks HL2.out).2.2 HLN.out
      have HO4 := Hid.intro (ho4.mono (Nat.le_trans (Nat.le_of_eq hl4.at_.symm) (Nat.le_succ _)))
      have HLA := Hid.intro hl4
      clear ho4 hl4
      refine wpAnyH_ready (rs := [10]) (by kernel_rfl) (by simp) ?_
      refine AllReadyH.cons (by rfl) ?_ AllReadyH.nil
      intro K hK
      refine step_app (t := 27) rfl (.tmp 11) (.tmp 15) rfl (vs := v2) (vx := .slice (some ⟨u2.heap.size, 0, none⟩) 3 3) (by simp [Act.eval]) (by simp [Act.eval]) happ2 ?_
      (try dsimp only)
      refine hK.out _ _ (⟨HLA.out.mark.cell 0, HLA.out.mark.cell 1⟩) (fun hHeld => ?_)
      clear hK K
      (try simp only [Act.put, List.setIfInBounds_toArray, List.set_cons_zero, List.set_cons_succ])
      refine wpAnyH_ready (rs := [11]) (by kernel_rfl) (by simp) ?_
      refine AllReadyH.cons (by rfl) ?_ AllReadyH.nil
      intro K hK
      go_simp
      (try dsimp only)
      refine hK.out _ _ (⟨HLA.out.mark.cell 0, HLA.out.mark.cell 1⟩) (fun hHeld => ?_)
      clear hK K
      (try simp only [Act.put, List.setIfInBounds_toArray, List.set_cons_zero, List.set_cons_succ])
      refine wpAnyH_done (by kernel_rfl) ?_ _
      clear happ2
      have HL4 := Hid.intro HLA.out.bel
      go_wp2
      go_ret
      exact ⟨g, c, rfl, HO4.out, HL4.out⟩
    · intro K hK
      go_simp
      (try dsimp only)
      refine hK.out _ _ (⟨(lend_marks HL1.out).1.mark.cell 0, (lend_marks HL1.out).1.mark.cell 1⟩) (fun hHeld => ?_)
      clear hK K
      (try simp only [Act.put, List.setIfInBounds_toArray, List.set_cons_zero, List.set_cons_succ])
      clear happ
      obtain ⟨v3, u3, happ, ho3, hl3, hg3⟩ := lend_app (lend_marks HL1.out).1 (HO1.out.below (lend_marks HL1.out).2.1) HE.out HLN.out
      have HO3 := Hid.intro ho3
      have HL3 := Hid.intro hl3
      have HG3 := Hid.intro hg3
      clear ho3 hl3 hg3
      have HSRC := Hid.intro (lend_src (lend_marks HL1.out).2.2 HG3.out (by rw [World.size_alloc]; omega) (by have := HG1.out.size; simp [Value.ownBlock]; have := (HO1.out.block (g := E.heap.size) rfl).2; obtain ⟨C, hC⟩ := this; have := hC.lt; omega))
      refine wpAnyH_ready (rs := [5]) (by kernel_rfl) (by simp) ?_
      refine AllReadyH.cons (by rfl) ?_ AllReadyH.nil
      intro K hK
      refine step_app (t := 27) rfl (.tmp 9) (.tmp 10) rfl (vs := .slice (some ⟨E.heap.size, 0, none⟩) 0 (es.length + 3)) (vx := .slice a es.length cap) (by simp [Act.eval]) (by simp [Act.eval]) happ ?_
      (try dsimp only)
      refine hK.out _ _ (⟨HL3.out.mark.cell 0, HL3.out.mark.cell 1⟩) (fun hHeld => ?_)
      clear hK K
      (try simp only [Act.put, List.setIfInBounds_toArray, List.set_cons_zero, List.set_cons_succ])
      clear happ
      obtain ⟨g, c, w4, happ2, ho4, hl4, hle⟩ := lend_last HL3.out HO3.out HSRC.out HLN.out
      have HO4 := Hid.intro (ho4.mono (Nat.le_trans (Nat.le_of_eq hl4.at_.symm) (Nat.le_succ _)))
      have HLA := Hid.intro hl4
      clear ho4 hl4
      refine wpAnyH_ready (rs := [10]) (by kernel_rfl) (by simp) ?_
      refine AllReadyH.cons (by rfl) ?_ AllReadyH.nil
      intro K hK
      refine step_app (t := 27) rfl (.tmp 11) (.tmp 15) rfl (vs := v3) (vx := .slice (some ⟨u1.heap.size, 0, none⟩) 3 3) (by simp [Act.eval]) (by simp [Act.eval]) happ2 ?_
      (try dsimp only)
      refine hK.out _ _ (⟨HLA.out.mark.cell 0, HLA.out.mark.cell 1⟩) (fun hHeld => ?_)
      clear hK K
      (try simp only [Act.put, List.setIfInBounds_toArray, List.set_cons_zero, List.set_cons_succ])
      refine wpAnyH_ready (rs := [11]) (by kernel_rfl) (by simp) ?_
      refine AllReadyH.cons (by rfl) ?_ AllReadyH.nil
      intro K hK
      go_simp
      (try dsimp only)
      refine hK.out _ _ (⟨HLA.out.mark.cell 0, HLA.out.mark.cell 1⟩) (fun hHeld => ?_)
      clear hK K
      (try simp only [Act.put, List.setIfInBounds_toArray, List.set_cons_zero, List.set_cons_succ])
      refine wpAnyH_done (by kernel_rfl) ?_ _
      clear happ2
      have HL4 := Hid.intro HLA.out.bel
      go_wp2
      go_ret
      exact ⟨g, c, rfl, HO4.out, HL4.out⟩
  · intro K hK
    go_simp
    (try dsimp only)
    refine hK.out _ _ (⟨(lend_marks HLE.out).1.mark.cell 0, (lend_marks HLE.out).1.mark.cell 1⟩) (fun hHeld => ?_)
    clear hK K
    (try simp only [Act.put, List.setIfInBounds_toArray, List.set_cons_zero, List.set_cons_succ])
    clear hmk HO1 HL1 HG1
    obtain ⟨u4, hmk, ho1, hl1, hg1⟩ := lend_make (lend_marks HLE.out).1 es.length HLN.out
    have HO1 := Hid.intro ho1
    have HL1 := Hid.intro hl1
    have HG1 := Hid.intro hg1
    clear ho1 hl1 hg1
    have HSR1 := Hid.intro (lend_src (lend_marks HLE.out).2.2 HG1.out (by rw [World.size_alloc]; omega) (by simp))
    refine wpAnyH_ready (rs := [3]) (by kernel_rfl) (by simp) ?_
    refine AllReadyH.cons (by rfl) ?_ AllReadyH.nil
    intro K hK
    go_simp
    (try dsimp only)
    refine hK.out _ _ (⟨HL1.out.mark.cell 0, HL1.out.mark.cell 1⟩) (fun hHeld => ?_)
    clear hK K
    (try simp only [Act.put, List.setIfInBounds_toArray, List.set_cons_zero, List.set_cons_succ])
    clear hmk
    obtain ⟨v2, u2, happ, ho2, hl2, hg2⟩ := lend_app HL1.out HO1.out HE.out HLN.out
    have HO2 := Hid.intro ho2
    have HL2 := Hid.intro hl2
    have HG2 := Hid.intro hg2
    clear ho2 hl2 hg2
    have HSRC := Hid.intro (lend_src HSR1.out HG2.out (by have := HG1.out.size; rw [World.size_alloc] at this; omega) (by simp [Value.ownBlock]))
    refine wpAnyH_ready (rs := [5]) (by kernel_rfl) (by simp) ?_
    refine AllReadyH.cons (by rfl) ?_ AllReadyH.nil
    intro K hK
    refine step_app (t := 27) rfl (.tmp 9) (.tmp 10) rfl (vs := .slice (some ⟨(E.alloc (.cells #[.int .i64 mk.1, .int .i64 mk.2, .int .i64 mk.1, .int .i64 mk.2, .int .i64 mk.1, .int .i64 mk.2] 29)).heap.size, 0, none⟩) 0 (es.length + 3)) (vx := .slice a es.length cap) (by simp [Act.eval]) (by simp [Act.eval]) happ ?_
    (try dsimp only)
    refine hK.out _ _ (⟨HL2.out.mark.cell 0, HL2.out.mark.cell 1⟩) (fun hHeld => ?_)
    clear hK K
    (try simp only [Act.put, List.setIfInBounds_toArray, List.set_cons_zero, List.set_cons_succ])
    clear happ
    obtain ⟨g, c, w4, happ2, ho4, hl4, hle⟩ := lend_last HL2.out HO2.out HSRC.out HLN.out
    have HO4 := Hid.intro (ho4.mono (Nat.le_trans (Nat.le_of_eq hl4.at_.symm) (Nat.le_succ _)))
    have HLA := Hid.intro hl4
    clear ho4 hl4
    refine wpAnyH_ready (rs := [10]) (by kernel_rfl) (by simp) ?_
    refine AllReadyH.cons (by rfl) ?_ AllReadyH.nil
    intro K hK
    refine step_app (t := 27) rfl (.tmp 11) (.tmp 15) rfl (vs := v2) (vx := .slice (some ⟨E.heap.size, 0, none⟩) 3 3) (by simp [Act.eval]) (by simp [Act.eval]) happ2 ?_
    (try dsimp only)
    refine hK.out _ _ (⟨HLA.out.mark.cell 0, HLA.out.mark.cell 1⟩) (fun hHeld => ?_)
    clear hK K
    (try simp only [Act.put, List.setIfInBounds_toArray, List.set_cons_zero, List.set_cons_succ])
    refine wpAnyH_ready (rs := [11]) (by kernel_rfl) (by simp) ?_
    refine AllReadyH.cons (by rfl) ?_ AllReadyH.nil
    intro K hK
    go_simp
    (try dsimp only)
    refine hK.out _ _ (⟨HLA.out.mark.cell 0, HLA.out.mark.cell 1⟩) (fun hHeld => ?_)
    clear hK K
    (try simp only [Act.put, List.setIfInBounds_toArray, List.set_cons_zero, List.set_cons_succ])
    refine wpAnyH_done (by kernel_rfl) ?_ _
    clear happ2
    have HL4 := Hid.intro HLA.out.bel
    go_wp2
    go_ret
    exact ⟨g, c, rfl, HO4.out, HL4.out⟩
end Go.Proofs.Ytgnmjaponiclhaa
