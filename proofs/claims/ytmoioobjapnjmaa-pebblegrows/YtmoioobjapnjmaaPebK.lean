/- the law PebbleGrows, walked. -/
import Derived.Test.YtmoioobjapnjmaaPebJ
namespace Go.Proofs.Ytmoioobjapnjmaa
open Go.RowKit Go.MapKept
set_option linter.unusedVariables false
set_option linter.unusedSimpArgs false

/-- a step -/
structure St where
  p : Int
  q : Int
  r : Int
  t : Int
def St.ok (s : St) : Prop := (-9223372036854775808 ≤ s.p ∧ s.p ≤ 9223372036854775807) ∧ (-9223372036854775808 ≤ s.q ∧ s.q ≤ 9223372036854775807) ∧ (-9223372036854775808 ≤ s.r ∧ s.r ≤ 9223372036854775807) ∧ (-9223372036854775808 ≤ s.t ∧ s.t ≤ 9223372036854775807)
/-- a list of steps in memory -/
structure SRow (w : World) (a : Option Addr) (cap : Nat) (ss : List St) : Prop where
  fit : ss.length ≤ cap
  cell : ∀ i s, ss[i]? = some s → s.ok ∧ ∃ b off, a = some ⟨b, off, none⟩ ∧ b < w.heap.size ∧ w.cell? ⟨b, off + i * 4, none⟩ = some (.int .i64 s.p) ∧ w.cell? ⟨b, off + i * 4 + 1, none⟩ = some (.int .i64 s.q) ∧ w.cell? ⟨b, off + i * 4 + 2, none⟩ = some (.int .i64 s.r) ∧ w.cell? ⟨b, off + i * 4 + 3, none⟩ = some (.int .i64 s.t)
theorem SRow.below {w w' : World} {a : Option Addr} {cap : Nat} {ss : List St} (h : SRow w a cap ss) (hb : Below w.heap.size w w') : SRow w' a cap ss := by
  refine ⟨h.fit, fun i s hi => ?_⟩
  obtain ⟨h0, b, off, h1, h2, h3, h4, h5, h6⟩ := h.cell i s hi
  exact ⟨h0, b, off, h1, Nat.lt_of_lt_of_le h2 hb.size, (hb.cell (p := ⟨b, off + i * 4, none⟩) h2).trans h3, (hb.cell (p := ⟨b, off + i * 4 + 1, none⟩) h2).trans h4, (hb.cell (p := ⟨b, off + i * 4 + 2, none⟩) h2).trans h5, (hb.cell (p := ⟨b, off + i * 4 + 3, none⟩) h2).trans h6⟩
set_option maxRecDepth 100000 in
set_option maxHeartbeats 8000000 in
theorem law_Grows (a : Option Addr) (cap : Nat) (ss : List St) (w : World) (hs : SRow w a cap ss) (hlen : ss.length ≤ maxLen) :
    Calls Try.prog 6 #[.slice a ss.length cap] w fun e w' => e = .returned (.bool true) ∧ Below w.heap.size w w' := by
  have HS := Hid.intro hs
  have hlen' : ss.length ≤ 9223372036854775807 := by simpa [maxLen] using hlen
  clear hs hlen
  go_enter Try.func6, Try.ntmps6
  go_wp2_with fail
  go_fit (law_plays w)
  rintro e w0 ⟨rfl, hb0⟩
  obtain ⟨W, hW⟩ : ∃ W, w0.alloc (.cells #[.int .i64 0, .int .i64 1] 29) = W := ⟨_, rfl⟩
  have hbW : Below w0.heap.size w0 W := by rw [← hW]; exact (Below.refl _ _).alloc (Nat.le_refl _) _
  have hsW : SB W w0.heap.size 29 #[.int .i64 0, .int .i64 1] := by rw [← hW]; exact SB.new w0 _ _
  have HE0 : Hid (EOwn W w0.heap.size (.slice (some ⟨w0.heap.size, 0, none⟩) 1 1) [(0, 1)]) := Hid.intro ⟨rfl, .inr ⟨w0.heap.size, 1, _, rfl, Nat.le_refl _, hsW, by decide, by decide, by decide, rfl⟩⟩
  have HB0 := Hid.intro hb0
  have HBW := Hid.intro hbW
  have HW := Hid.intro hW
  clear hb0 hbW hsW hW
  go_wp2_with fail
  rw [HW.out]
  go_loopw [24, 3, 4] (fun iv nv' ev wr => ∃ (k n : Nat) (E : List (Int × Int)), k ≤ ss.length ∧ iv = .int .i64 k ∧ nv' = .int .i64 (n : Int) ∧ EOwn wr w0.heap.size ev E ∧ Hen n E ∧ Below w0.heap.size w0 wr) (fun iv _ _ _ => ss.length - (intOf iv).toNat)
  case atStart => exact ⟨0, 2, [(0, 1)], by omega, rfl, rfl, HE0.out, Hen.first, HBW.out⟩
  case round =>
    obtain ⟨k, n, E, hk, rfl, rfl, hown, hhen, hbr⟩ := hrel
    have hn2 : 2 ≤ n := hhen.1
    have hn10 : n ≤ 10 := hhen.2.1
    have HO := Hid.intro hown
    have HH := Hid.intro hhen
    have HB := Hid.intro hbr
    clear hown hhen hbr
    by_cases hkl : k < ss.length
    · obtain ⟨s, hsk⟩ : ∃ s, ss[k]? = some s := ⟨ss[k], List.getElem?_eq_getElem hkl⟩
      obtain ⟨hok, sb, off, rfl, hsb, d0, d1, d2, d3⟩ := ((HS.out.below HB0.out).below HB.out).cell k s hsk
      obtain ⟨V1, hV1⟩ : ∃ V1, wr.alloc (.cells #[.int .i64 s.p, .int .i64 s.q, .int .i64 s.r, .int .i64 s.t] 47) = V1 := ⟨_, rfl⟩
      have hbV : Below wr.heap.size wr V1 := by rw [← hV1]; exact (Below.refl _ _).alloc (Nat.le_refl _) _
      have hsV : SB V1 wr.heap.size 47 #[.int .i64 s.p, .int .i64 s.q, .int .i64 s.r, .int .i64 s.t] := by rw [← hV1]; exact SB.new wr _ _
      have q1 : ((k : Int) < (ss.length : Int)) := by omega
      have HBV := Hid.intro hbV
      have HSV := Hid.intro hsV
      have HV1 := Hid.intro hV1
      have HOK := Hid.intro hok
      clear hsk hV1 hbV hsV hok
      by_cases h10 : n = 10
      · have q2 : ((n : Int) == 10) = true := by simp; omega
        clear h10
        have HOZ := Hid.intro (HO.out.below HBV.out)
        have HBZ := Hid.intro (HB.out.trans (HBV.out.mono HB.out.size))
        obtain ⟨ae, ce, hu4, her, _⟩ := HOZ.out.row
        subst hu4
        have hEl : E.length + 3 = 2 * n := HH.out.2.2.1
        have HR1 := Hid.intro (rigid_hen HH.out ae ce V1 her)
        have HERZ := Hid.intro her
        clear her
        go_wp2_with fail
        (try rw [HV1.out])
        go_fit HR1.out
        rintro e w1 ⟨rfl, hb1⟩
        obtain ⟨F1, hF1⟩ : ∃ F1, w1.alloc (.cells #[.int .i64 0, .int .i64 0] 31) = F1 := ⟨_, rfl⟩
        have hF1s : SB F1 w1.heap.size 31 #[.int .i64 0, .int .i64 0] := by rw [← hF1]; exact SB.new w1 _ _
        have hbF1 : Below V1.heap.size V1 F1 := by rw [← hF1]; exact hb1.alloc hb1.size _
        have HR2 := Hid.intro (free_hen HH.out ae ce F1 (HERZ.out.below hbF1))
        have HBF1 := Hid.intro hbF1
        have HF1S := Hid.intro hF1s
        have HF1 := Hid.intro hF1
        clear hb1 hF1 hF1s hbF1
        go_wp2_with fail
        rw [HF1.out]
        go_fit HR2.out
        rintro e w2 ⟨v2, l2, rfl, hl2, hc2, hn2', hb2⟩
        obtain ⟨F2, hF2⟩ : ∃ F2, w2.alloc (.cells #[.int .i64 0, .int .i64 0] 31) = F2 := ⟨_, rfl⟩
        have hF2s : SB F2 w2.heap.size 31 #[.int .i64 0, .int .i64 0] := by rw [← hF2]; exact SB.new w2 _ _
        have hb2F : Below w2.heap.size w2 F2 := by rw [← hF2]; exact (Below.refl _ _).alloc (Nat.le_refl _) _
        have hbF2 : Below F1.heap.size F1 F2 := hb2.trans (hb2F.mono hb2.size)
        have hbZ2 := HBF1.out.trans (hbF2.mono HBF1.out.size)
        have HR3 := Hid.intro (over_hen HH.out ae ce F2 (HERZ.out.below hbZ2))
        have HL2 := Hid.intro (hl2.below hb2F)
        have HC2 := Hid.intro hc2
        have HN2 := Hid.intro hn2'
        have HBF2 := Hid.intro hbF2
        have HBZ2 := Hid.intro hbZ2
        have HF2S := Hid.intro hF2s
        have HF2 := Hid.intro hF2
        clear hl2 hc2 hn2' hb2 hF2 hF2s hb2F hbF2 hbZ2
        go_wp2_with fail
        rw [HF2.out]
        go_fit HR3.out
        rintro e w3 ⟨v3, l3, rfl, hl3, hc3, hn3', hb3⟩
        obtain ⟨F3, hF3⟩ : ∃ F3, w3.alloc (.cells #[.int .i64 0, .int .i64 0] 31) = F3 := ⟨_, rfl⟩
        have hF3s : SB F3 w3.heap.size 31 #[.int .i64 0, .int .i64 0] := by rw [← hF3]; exact SB.new w3 _ _
        have hb3F : Below w3.heap.size w3 F3 := by rw [← hF3]; exact (Below.refl _ _).alloc (Nat.le_refl _) _
        have hbF3 : Below F2.heap.size F2 F3 := hb3.trans (hb3F.mono hb3.size)
        have hbF13 : Below F1.heap.size F1 F3 := HBF2.out.trans (hbF3.mono HBF2.out.size)
        have i1 : F3.cell? ⟨w1.heap.size, 0, none⟩ = some (.int .i64 0) := (HF1S.out.below hbF13 HF1S.out.lt).cell 0
        have i2 : F3.cell? ⟨w2.heap.size, 0, none⟩ = some (.int .i64 0) := (HF2S.out.below hbF3 HF2S.out.lt).cell 0
        have i3 : F3.cell? ⟨w3.heap.size, 0, none⟩ = some (.int .i64 0) := hF3s.cell 0
        have hl23 := HL2.out.below hbF3
        obtain ⟨a2, c2, hv2, _⟩ := hl23
        subst hv2
        have HM2 : Hid (Calls Try.prog 18 #[.slice a2 l2.length c2] F3 fun e w' => e = .returned (.int .i64 (E.length : Nat)) ∧ w' = F3) := Hid.intro (by
          have := ref_Many (.slice a2 l2.length c2) l2 F3 (HL2.out.below hbF3) (by rw [HN2.out]; omega)
          rw [HC2.out] at this
          exact this)
        have HM3 : Hid (Calls Try.prog 18 #[v3] F3 fun e w' => e = .returned (.int .i64 (0 : Nat)) ∧ w' = F3) := Hid.intro (by
          have := ref_Many v3 l3 F3 (hl3.below hb3F) (by rw [hn3']; omega)
          rw [hc3] at this
          exact this)
        have gl2 : ((l2.length : Int) == (E.length : Int)) = true := by
          have := HN2.out
          simp
          omega
        have HBE : Hid (Below w.heap.size w F3) := Hid.intro (by
          have h1 := HB0.out.trans (HBZ.out.mono HB0.out.size)
          have h2 := h1.trans (HBZ2.out.mono h1.size)
          exact h2.trans (hbF3.mono h2.size))
        have HF3 := Hid.intro hF3
        rw [← hF3] at i1 i2 i3
        clear hl3 hc3 hn3' hb3 hF3 hF3s hb3F hbF3 hbF13
        go_wp2_with fail
        rw [HF3.out]
        go_fit HM2.out
        rintro e w4 ⟨rfl, rfl⟩
        go_wp2_with fail
        go_fit HM3.out
        rintro e w5 ⟨rfl, rfl⟩
        go_wp2
        go_ret
        exact ⟨rfl, HBE.out⟩
      · have q2 : ((n : Int) == 10) = false := by simp; omega
        go_wp2_with fail
        rw [HV1.out]
        have c0 : V1.cell? ⟨wr.heap.size, 0, none⟩ = some (.int .i64 s.p) := HSV.out.cell 0
        have c1 : V1.cell? ⟨wr.heap.size, 1, none⟩ = some (.int .i64 s.q) := HSV.out.cell 1
        have c2 : V1.cell? ⟨wr.heap.size, 2, none⟩ = some (.int .i64 s.r) := HSV.out.cell 2
        have c3 : V1.cell? ⟨wr.heap.size, 3, none⟩ = some (.int .i64 s.t) := HSV.out.cell 3
        have HP1 : Hid (∀ v, Calls Try.prog 21 #[.int .i64 s.q, .int .i64 (n : Int)] v fun e w' => ∃ r : Nat, r < n ∧ e = .returned (.int .i64 (r : Int)) ∧ w' = v) := Hid.intro (fun v => law_pick s.q n (by omega) (by omega) HOK.out.2.1.1 HOK.out.2.1.2 v)
        have HP2 : Hid (∀ v, Calls Try.prog 21 #[.int .i64 s.r, .int .i64 (n : Int)] v fun e w' => ∃ r : Nat, r < n ∧ e = .returned (.int .i64 (r : Int)) ∧ w' = v) := Hid.intro (fun v => law_pick s.r n (by omega) (by omega) HOK.out.2.2.1.1 HOK.out.2.2.1.2 v)
        clear d0 d1 d2 d3
        go_cut [8, 9] (fun s8 s9 wc => ∃ pa pb : Nat, pa < n ∧ pb < n ∧ s8 = .int .i64 (pa : Int) ∧ s9 = .int .i64 (pb : Int) ∧ wc = V1.drew)
        case first =>
          refine wp_region_held_drew (S := (fun v => v.cell? ⟨wr.heap.size, 1, none⟩ = some (.int .i64 s.q) ∧ v.cell? ⟨wr.heap.size, 2, none⟩ = some (.int .i64 s.r))) (by kernel_rfl) ⟨c1, c2⟩ (fun hHeld => ?_)
          refine wpAnyH_take (i := 0) (v := ?_) rfl (by kernel_rfl) (by kernel_rfl) (by kernel_rfl) (fun _ _ _ h => h) (Or.inl ⟨by rfl, ?_⟩) (by assumption) ?_
          rotate_left
          · intro w hSw
            (try dsimp only at hSw)
            first | (go_simp; done) | (go_simp; with_reducible rfl)
          (try simp only [Act.put, List.setIfInBounds_toArray, List.set_cons_zero, List.set_cons_succ])
          refine wpAnyH_take (i := 1) (v := ?_) rfl (by kernel_rfl) (by kernel_rfl) (by kernel_rfl) (fun _ _ _ h => h) (Or.inl ⟨by rfl, ?_⟩) (by assumption) ?_
          rotate_left
          · intro w hSw
            (try dsimp only at hSw)
            first | (go_simp; done) | (go_simp; with_reducible rfl)
          (try simp only [Act.put, List.setIfInBounds_toArray, List.set_cons_zero, List.set_cons_succ])
          refine wpAnyH_take (i := 2) (v := ?_) rfl (by kernel_rfl) (by kernel_rfl) (by kernel_rfl) (fun _ _ _ h => h) (Or.inl ⟨by rfl, ?_⟩) (by assumption) ?_
          rotate_left
          · intro w hSw
            (try dsimp only at hSw)
            first | (go_simp; done) | (go_simp; with_reducible rfl)
          (try simp only [Act.put, List.setIfInBounds_toArray, List.set_cons_zero, List.set_cons_succ])
          refine wpAnyH_take (i := 3) (v := ?_) rfl (by kernel_rfl) (by kernel_rfl) (by kernel_rfl) (fun _ _ _ h => h) (Or.inl ⟨by rfl, ?_⟩) (by assumption) ?_
          rotate_left
          · intro w hSw
            (try dsimp only at hSw)
            first | (go_simp; done) | (go_simp; with_reducible rfl)
          (try simp only [Act.put, List.setIfInBounds_toArray, List.set_cons_zero, List.set_cons_succ])
          refine wpAnyH_take (i := 5) (v := ?_) rfl (by kernel_rfl) (by kernel_rfl) (by kernel_rfl) (fun _ _ _ h => h) (Or.inl ⟨by rfl, ?_⟩) (by assumption) ?_
          rotate_left
          · intro w hSw
            (try dsimp only at hSw)
            first | (go_simp; done) | (go_simp; with_reducible rfl)
          (try simp only [Act.put, List.setIfInBounds_toArray, List.set_cons_zero, List.set_cons_succ])
          refine wpAnyH_take (i := 6) (v := ?_) rfl (by kernel_rfl) (by kernel_rfl) (by kernel_rfl) (fun _ _ _ h => h) (Or.inl ⟨by rfl, ?_⟩) (by assumption) ?_
          rotate_left
          · intro w hSw
            (try dsimp only at hSw)
            first | (go_simp; done) | (go_simp; with_reducible rfl)
          (try simp only [Act.put, List.setIfInBounds_toArray, List.set_cons_zero, List.set_cons_succ])
          refine wpAnyH_take (i := 7) (v := ?_) rfl (by kernel_rfl) (by kernel_rfl) (by kernel_rfl) (fun _ _ _ h => h) (Or.inl ⟨by rfl, ?_⟩) (by assumption) ?_
          rotate_left
          · intro w hSw
            (try dsimp only at hSw)
            first | (go_simp; done) | (go_simp; with_reducible rfl)
          (try simp only [Act.put, List.setIfInBounds_toArray, List.set_cons_zero, List.set_cons_succ])
          refine wpAnyH_take (i := 8) (v := ?_) rfl (by kernel_rfl) (by kernel_rfl) (by kernel_rfl) (fun _ _ _ h => h) (Or.inl ⟨by rfl, ?_⟩) (by assumption) ?_
          rotate_left
          · intro w hSw
            (try dsimp only at hSw)
            first | (go_simp; done) | (go_simp; with_reducible rfl)
          (try simp only [Act.put, List.setIfInBounds_toArray, List.set_cons_zero, List.set_cons_succ])
          refine wpAnyH_ready (rs := [4]) (by kernel_rfl) (by simp) ?_
          refine AllReadyH.cons rfl (fun K hK => ?_) AllReadyH.nil
          go_simp
          refine (HP1.out _).mono ?_
          rintro e w4 ⟨pa, hpa, rfl, rfl⟩
          (try dsimp only)
          refine hK.out _ _ ⟨c1, c2⟩ (fun hHeld => ?_)
          clear hK K
          (try simp only [Act.put, List.setIfInBounds_toArray, List.set_cons_zero, List.set_cons_succ])
          refine wpAnyH_ready (rs := [9]) (by kernel_rfl) (by simp) ?_
          refine AllReadyH.cons rfl (fun K hK => ?_) AllReadyH.nil
          go_simp
          refine (HP2.out _).mono ?_
          rintro e w4 ⟨pb, hpb, rfl, rfl⟩
          (try dsimp only)
          refine hK.out _ _ ⟨c1, c2⟩ (fun hHeld => ?_)
          clear hK K
          (try simp only [Act.put, List.setIfInBounds_toArray, List.set_cons_zero, List.set_cons_succ])
          refine wpAnyH_ready (rs := [10]) (by kernel_rfl) (by simp) ?_
          refine AllReadyH.cons rfl (fun K hK => ?_) AllReadyH.nil
          go_simp
          (try dsimp only)
          refine hK.out _ _ ⟨c1, c2⟩ (fun hHeld => ?_)
          clear hK K
          (try simp only [Act.put, List.setIfInBounds_toArray, List.set_cons_zero, List.set_cons_succ])
          refine wpAnyH_ready (rs := [11]) (by kernel_rfl) (by simp) ?_
          refine AllReadyH.cons rfl (fun K hK => ?_) AllReadyH.nil
          go_simp
          (try dsimp only)
          refine hK.out _ _ ⟨c1, c2⟩ (fun hHeld => ?_)
          clear hK K
          (try simp only [Act.put, List.setIfInBounds_toArray, List.set_cons_zero, List.set_cons_succ])
          refine wpAnyH_done (by kernel_rfl) ?_ _
          go_wp2_with fail
          go_meet
          case rel => exact ⟨pa, pb, hpa, hpb, rfl, rfl, rfl⟩
        case rest =>
          obtain ⟨pa, pb, hpa, hpb, rfl, rfl, hwc⟩ := hcut
          obtain ⟨D, hD⟩ : ∃ D, V1.drew = D := ⟨_, rfl⟩
          rw [hD] at hwc
          obtain rfl := hwc.symm
          have hbD : Below wr.heap.size wr D := by rw [← hD]; exact HBV.out.drew
          have hsD : SB D wr.heap.size 47 #[.int .i64 s.p, .int .i64 s.q, .int .i64 s.r, .int .i64 s.t] := by rw [← hD]; exact HSV.out
          have HBD := Hid.intro hbD
          have HOD := Hid.intro (HO.out.below hbD)
          have HP0 : Hid (∀ v, Calls Try.prog 21 #[.int .i64 s.p, .int .i64 2] v fun e w' => ∃ r : Nat, r < 2 ∧ e = .returned (.int .i64 (r : Int)) ∧ w' = v) := Hid.intro (fun v => law_pick s.p 2 (by omega) (by omega) HOK.out.1.1 HOK.out.1.2 v)
          have e0 : D.cell? ⟨wr.heap.size, 0, none⟩ = some (.int .i64 s.p) := hsD.cell 0
          have e3 : D.cell? ⟨wr.heap.size, 3, none⟩ = some (.int .i64 s.t) := hsD.cell 3
          clear c0 c1 c2 c3 hbD hsD hD
          go_wp2_with fail
          go_fit (HP0.out _)
          rintro e w4 ⟨pc, hpc, rfl, rfl⟩
          by_cases hpc0 : pc = 0
          · have g0 : ((pc : Int) == 0) = true := by simp [hpc0]
            by_cases hab : pa = pb
            · obtain ⟨r, hr⟩ : ∃ r : Nat, (pa + 1) % n = r := ⟨_, rfl⟩
              have HBL : Hid (r < n) := Hid.intro (by rw [← hr]; exact Nat.mod_lt _ (by omega))
              have HNE : Hid (pa ≠ r) := Hid.intro (by
                rw [← hr]
                by_cases h : pa + 1 < n
                · rw [Nat.mod_eq_of_lt h]; omega
                · have : pa + 1 = n := by omega
                  rw [this, Nat.mod_self]; omega)
              have r1 : ((pa : Int) + 1).tmod (n : Int) = (r : Int) := by rw [← hr]; rfl
              have r2 : ((pa : Int) + 1) % (n : Int) = (r : Int) := by rw [← hr]; rfl
              have gab : ((pa : Int) == (pb : Int)) = true := by simp [hab]
              have gn0 : ((n : Int) == 0) = false := by simp; omega
              clear hr hab
              obtain ⟨X, hX⟩ : ∃ X, w4.alloc (.cells #[.int .i64 (n : Int), .int .i64 (pa : Int), .int .i64 (r : Int), .int .i64 (n : Int)] 29) = X := ⟨_, rfl⟩
              have hbX : Below w4.heap.size w4 X := by rw [← hX]; exact (Below.refl _ _).alloc (Nat.le_refl _) _
              have hcX : ∀ j u, (([((n : Int), (pa : Int)), ((r : Int), (n : Int))] : List (Int × Int)).flatMap eCells)[j]? = some u → X.cell? ((⟨w4.heap.size, 0, none⟩ : Addr).add j) = some u := fun j u hj => by
                rw [add_at, Nat.zero_add, ← hX, (SB.new w4 29 #[.int .i64 (n : Int), .int .i64 (pa : Int), .int .i64 (r : Int), .int .i64 (n : Int)]).cell]
                simpa [eCells] using hj
              have hoX := HOD.out.below hbX
              have hEl : E.length + 3 = 2 * n := HH.out.2.2.1
              have hb0X : Below w0.heap.size w0 X := (HB.out.trans (HBD.out.mono HB.out.size)).trans (hbX.mono (by have := HB.out.size; have := HBD.out.size; omega))
              obtain ⟨v6, w6, happ, ho6, hg6, _⟩ := hoX.app ⟨w4.heap.size, 0, none⟩ [((n : Int), (pa : Int)), ((r : Int), (n : Int))] hcX (by simp only [List.length_cons, List.length_nil]; omega) hb0X.size 2
              have HB6 : Hid (Below w0.heap.size w0 w6) := Hid.intro (hb0X.trans ⟨hg6.os, hg6.tape, hg6.output, hg6.size, fun b hb => hg6.block b (by have := hb0X.size; omega) (fun e => by have := (hoX.block e.symm).1; omega)⟩)
              have HO6 := Hid.intro ho6
              have HH6 := Hid.intro (HH.out.two (by omega) hpa HBL.out HNE.out)
              rw [← hX] at happ
              have happ' : appRun Try.prog 27 27 u4 (.slice (some ⟨w4.heap.size, 0, none⟩) 2 2) (w4.alloc (.cells #[.int .i64 (n : Int), .int .i64 (pa : Int), .int .i64 (r : Int), .int .i64 (n : Int)] 29)) = .ok v6 w6 := happ
              clear hX hbX hcX hoX hEl hb0X happ ho6 hg6
              go_wp2
              go_roundw
              case rel => exact ⟨k + 1, n + 1, _, by omega, by go_num, by first | rfl | go_num | simp, HO6.out, HH6.out, HB6.out⟩
              case measure => simp [intOf]; omega
            · have HBL := Hid.intro hpb
              have HNE := Hid.intro hab
              have gab : ((pa : Int) == (pb : Int)) = false := by simp; omega
              obtain ⟨X, hX⟩ : ∃ X, w4.alloc (.cells #[.int .i64 (n : Int), .int .i64 (pa : Int), .int .i64 (pb : Int), .int .i64 (n : Int)] 29) = X := ⟨_, rfl⟩
              have hbX : Below w4.heap.size w4 X := by rw [← hX]; exact (Below.refl _ _).alloc (Nat.le_refl _) _
              have hcX : ∀ j u, (([((n : Int), (pa : Int)), ((pb : Int), (n : Int))] : List (Int × Int)).flatMap eCells)[j]? = some u → X.cell? ((⟨w4.heap.size, 0, none⟩ : Addr).add j) = some u := fun j u hj => by
                rw [add_at, Nat.zero_add, ← hX, (SB.new w4 29 #[.int .i64 (n : Int), .int .i64 (pa : Int), .int .i64 (pb : Int), .int .i64 (n : Int)]).cell]
                simpa [eCells] using hj
              have hoX := HOD.out.below hbX
              have hEl : E.length + 3 = 2 * n := HH.out.2.2.1
              have hb0X : Below w0.heap.size w0 X := (HB.out.trans (HBD.out.mono HB.out.size)).trans (hbX.mono (by have := HB.out.size; have := HBD.out.size; omega))
              obtain ⟨v6, w6, happ, ho6, hg6, _⟩ := hoX.app ⟨w4.heap.size, 0, none⟩ [((n : Int), (pa : Int)), ((pb : Int), (n : Int))] hcX (by simp only [List.length_cons, List.length_nil]; omega) hb0X.size 2
              have HB6 : Hid (Below w0.heap.size w0 w6) := Hid.intro (hb0X.trans ⟨hg6.os, hg6.tape, hg6.output, hg6.size, fun b hb => hg6.block b (by have := hb0X.size; omega) (fun e => by have := (hoX.block e.symm).1; omega)⟩)
              have HO6 := Hid.intro ho6
              have HH6 := Hid.intro (HH.out.two (by omega) hpa HBL.out HNE.out)
              rw [← hX] at happ
              have happ' : appRun Try.prog 27 27 u4 (.slice (some ⟨w4.heap.size, 0, none⟩) 2 2) (w4.alloc (.cells #[.int .i64 (n : Int), .int .i64 (pa : Int), .int .i64 (pb : Int), .int .i64 (n : Int)] 29)) = .ok v6 w6 := happ
              clear hX hbX hcX hoX hEl hb0X happ ho6 hg6
              go_wp2
              go_roundw
              case rel => exact ⟨k + 1, n + 1, _, by omega, by go_num, by first | rfl | go_num | simp, HO6.out, HH6.out, HB6.out⟩
              case measure => simp [intOf]; omega
          · have g0 : ((pc : Int) == 0) = false := by simp [hpc0]
            by_cases hn3 : n < 3
            · have g3 : ((n : Int) < 3) := by omega
              by_cases hab : pa = pb
              · obtain ⟨r, hr⟩ : ∃ r : Nat, (pa + 1) % n = r := ⟨_, rfl⟩
                have HBL : Hid (r < n) := Hid.intro (by rw [← hr]; exact Nat.mod_lt _ (by omega))
                have HNE : Hid (pa ≠ r) := Hid.intro (by
                  rw [← hr]
                  by_cases h : pa + 1 < n
                  · rw [Nat.mod_eq_of_lt h]; omega
                  · have : pa + 1 = n := by omega
                    rw [this, Nat.mod_self]; omega)
                have r1 : ((pa : Int) + 1).tmod (n : Int) = (r : Int) := by rw [← hr]; rfl
                have r2 : ((pa : Int) + 1) % (n : Int) = (r : Int) := by rw [← hr]; rfl
                have gab : ((pa : Int) == (pb : Int)) = true := by simp [hab]
                have gn0 : ((n : Int) == 0) = false := by simp; omega
                clear hr hab
                obtain ⟨X, hX⟩ : ∃ X, w4.alloc (.cells #[.int .i64 (n : Int), .int .i64 (pa : Int), .int .i64 (r : Int), .int .i64 (n : Int)] 29) = X := ⟨_, rfl⟩
                have hbX : Below w4.heap.size w4 X := by rw [← hX]; exact (Below.refl _ _).alloc (Nat.le_refl _) _
                have hcX : ∀ j u, (([((n : Int), (pa : Int)), ((r : Int), (n : Int))] : List (Int × Int)).flatMap eCells)[j]? = some u → X.cell? ((⟨w4.heap.size, 0, none⟩ : Addr).add j) = some u := fun j u hj => by
                  rw [add_at, Nat.zero_add, ← hX, (SB.new w4 29 #[.int .i64 (n : Int), .int .i64 (pa : Int), .int .i64 (r : Int), .int .i64 (n : Int)]).cell]
                  simpa [eCells] using hj
                have hoX := HOD.out.below hbX
                have hEl : E.length + 3 = 2 * n := HH.out.2.2.1
                have hb0X : Below w0.heap.size w0 X := (HB.out.trans (HBD.out.mono HB.out.size)).trans (hbX.mono (by have := HB.out.size; have := HBD.out.size; omega))
                obtain ⟨v6, w6, happ, ho6, hg6, _⟩ := hoX.app ⟨w4.heap.size, 0, none⟩ [((n : Int), (pa : Int)), ((r : Int), (n : Int))] hcX (by simp only [List.length_cons, List.length_nil]; omega) hb0X.size 2
                have HB6 : Hid (Below w0.heap.size w0 w6) := Hid.intro (hb0X.trans ⟨hg6.os, hg6.tape, hg6.output, hg6.size, fun b hb => hg6.block b (by have := hb0X.size; omega) (fun e => by have := (hoX.block e.symm).1; omega)⟩)
                have HO6 := Hid.intro ho6
                have HH6 := Hid.intro (HH.out.two (by omega) hpa HBL.out HNE.out)
                rw [← hX] at happ
                have happ' : appRun Try.prog 27 27 u4 (.slice (some ⟨w4.heap.size, 0, none⟩) 2 2) (w4.alloc (.cells #[.int .i64 (n : Int), .int .i64 (pa : Int), .int .i64 (r : Int), .int .i64 (n : Int)] 29)) = .ok v6 w6 := happ
                clear hX hbX hcX hoX hEl hb0X happ ho6 hg6
                go_wp2
                go_roundw
                case rel => exact ⟨k + 1, n + 1, _, by omega, by go_num, by first | rfl | go_num | simp, HO6.out, HH6.out, HB6.out⟩
                case measure => simp [intOf]; omega
              · have HBL := Hid.intro hpb
                have HNE := Hid.intro hab
                have gab : ((pa : Int) == (pb : Int)) = false := by simp; omega
                obtain ⟨X, hX⟩ : ∃ X, w4.alloc (.cells #[.int .i64 (n : Int), .int .i64 (pa : Int), .int .i64 (pb : Int), .int .i64 (n : Int)] 29) = X := ⟨_, rfl⟩
                have hbX : Below w4.heap.size w4 X := by rw [← hX]; exact (Below.refl _ _).alloc (Nat.le_refl _) _
                have hcX : ∀ j u, (([((n : Int), (pa : Int)), ((pb : Int), (n : Int))] : List (Int × Int)).flatMap eCells)[j]? = some u → X.cell? ((⟨w4.heap.size, 0, none⟩ : Addr).add j) = some u := fun j u hj => by
                  rw [add_at, Nat.zero_add, ← hX, (SB.new w4 29 #[.int .i64 (n : Int), .int .i64 (pa : Int), .int .i64 (pb : Int), .int .i64 (n : Int)]).cell]
                  simpa [eCells] using hj
                have hoX := HOD.out.below hbX
                have hEl : E.length + 3 = 2 * n := HH.out.2.2.1
                have hb0X : Below w0.heap.size w0 X := (HB.out.trans (HBD.out.mono HB.out.size)).trans (hbX.mono (by have := HB.out.size; have := HBD.out.size; omega))
                obtain ⟨v6, w6, happ, ho6, hg6, _⟩ := hoX.app ⟨w4.heap.size, 0, none⟩ [((n : Int), (pa : Int)), ((pb : Int), (n : Int))] hcX (by simp only [List.length_cons, List.length_nil]; omega) hb0X.size 2
                have HB6 : Hid (Below w0.heap.size w0 w6) := Hid.intro (hb0X.trans ⟨hg6.os, hg6.tape, hg6.output, hg6.size, fun b hb => hg6.block b (by have := hb0X.size; omega) (fun e => by have := (hoX.block e.symm).1; omega)⟩)
                have HO6 := Hid.intro ho6
                have HH6 := Hid.intro (HH.out.two (by omega) hpa HBL.out HNE.out)
                rw [← hX] at happ
                have happ' : appRun Try.prog 27 27 u4 (.slice (some ⟨w4.heap.size, 0, none⟩) 2 2) (w4.alloc (.cells #[.int .i64 (n : Int), .int .i64 (pa : Int), .int .i64 (pb : Int), .int .i64 (n : Int)] 29)) = .ok v6 w6 := happ
                clear hX hbX hcX hoX hEl hb0X happ ho6 hg6
                go_wp2
                go_roundw
                case rel => exact ⟨k + 1, n + 1, _, by omega, by go_num, by first | rfl | go_num | simp, HO6.out, HH6.out, HB6.out⟩
                case measure => simp [intOf]; omega
            · have g3 : ¬ ((n : Int) < 3) := by omega
              obtain ⟨ae, ce, hu4, her, _⟩ := HOD.out.row
              subst hu4
              have hEl : E.length + 3 = 2 * n := HH.out.2.2.1
              have HER := Hid.intro her
              have HP3 := Hid.intro (law_pick s.t E.length (by omega) (by omega) HOK.out.2.2.2.1 HOK.out.2.2.2.2 w4)
              clear her
              go_wp2_with fail
              go_fit HP3.out
              rintro e w5 ⟨pk, hpk, rfl, rfl⟩
              obtain ⟨f, hf⟩ : ∃ f, E[pk]? = some f := ⟨E[pk], List.getElem?_eq_getElem hpk⟩
              obtain ⟨fu, fv, rfl, hfu, hfv, hne, hte⟩ := HH.out.2.2.2.1.at hf
              obtain ⟨fb, foff, rfl, hfb, d0, d1⟩ := HER.out.cell pk _ hf
              obtain ⟨V2, hV2⟩ : ∃ V2, w5.alloc (.cells #[.int .i64 (fu : Int), .int .i64 (fv : Int)] 29) = V2 := ⟨_, rfl⟩
              have hbV2 : Below w5.heap.size w5 V2 := by rw [← hV2]; exact (Below.refl _ _).alloc (Nat.le_refl _) _
              have hsV2 : SB V2 w5.heap.size 29 #[.int .i64 (fu : Int), .int .i64 (fv : Int)] := by rw [← hV2]; exact SB.new w5 _ _
              have HBV2 := Hid.intro hbV2
              have HSV2 := Hid.intro hsV2
              have HV2 := Hid.intro hV2
              have HF := Hid.intro hf
              have q5 : ((pk : Int) < (E.length : Int)) := by omega
              clear hV2 hbV2 hsV2 hf hne hte e0 e3
              go_wp2_with fail
              rw [HV2.out]
              clear d0 d1
              go_loopw [8] (fun av wi => ∃ pa' : Nat, pa' < n ∧ av = .int .i64 (pa' : Int) ∧ wi = V2) (fun av _ => farOf n (fu : Int) (fv : Int) (intOf av).toNat)
              case atStart => exact ⟨pa, hpa, rfl, rfl⟩
              case round =>
                obtain ⟨x, hxn, rfl, rfl⟩ := hrel
                have f0 : wr.cell? ⟨w5.heap.size, 0, none⟩ = some (.int .i64 (fu : Int)) := HSV2.out.cell 0
                have f1 : wr.cell? ⟨w5.heap.size, 1, none⟩ = some (.int .i64 (fv : Int)) := HSV2.out.cell 1
                by_cases hbadx : (x : Int) = (fu : Int) ∨ (x : Int) = (fv : Int)
                · obtain ⟨r, hr⟩ : ∃ r : Nat, (x + 1) % n = r := ⟨_, rfl⟩
                  have hrn : r < n := by rw [← hr]; exact Nat.mod_lt _ (by omega)
                  have HFL : Hid (farOf n (fu : Int) (fv : Int) r < farOf n (fu : Int) (fv : Int) x) := Hid.intro (by rw [← hr]; exact far_less (by omega) hxn hbadx)
                  have r1 : ((x : Int) + 1).tmod (n : Int) = (r : Int) := by rw [← hr]; rfl
                  have r2 : ((x : Int) + 1) % (n : Int) = (r : Int) := by rw [← hr]; rfl
                  have gn0 : ((n : Int) == 0) = false := by simp; omega
                  clear hr
                  by_cases hxu : (x : Int) = (fu : Int)
                  · have gu : ((x : Int) == (fu : Int)) = true := by simpa using hxu
                    clear hxu hbadx
                    go_wp2
                    go_roundw
                    case rel => exact ⟨r, hrn, by first | rfl | go_num, by first | rfl | trivial⟩
                    case measure => simpa [intOf] using HFL.out
                  · have gu : ((x : Int) == (fu : Int)) = false := by simpa using hxu
                    have gv : ((x : Int) == (fv : Int)) = true := by simpa using (hbadx.resolve_left hxu)
                    clear hxu hbadx
                    go_wp2
                    go_roundw
                    case rel => exact ⟨r, hrn, by first | rfl | go_num, by first | rfl | trivial⟩
                    case measure => simpa [intOf] using HFL.out
                · have HXU : Hid ((x : Int) ≠ (fu : Int)) := Hid.intro (fun h => hbadx (Or.inl h))
                  have HXV : Hid ((x : Int) ≠ (fv : Int)) := Hid.intro (fun h => hbadx (Or.inr h))
                  have gu : ((x : Int) == (fu : Int)) = false := by simpa using HXU.out
                  have gv : ((x : Int) == (fv : Int)) = false := by simpa using HXV.out
                  clear hbadx
                  go_wp2_with fail
                  obtain ⟨j, hj⟩ : ∃ j : Nat, pk + 1 = j := ⟨_, rfl⟩
                  have t2 : IntKind.i64.wrap ((pk : Int) + 1) = (j : Int) := by
                    rw [show ((pk : Int) + 1) = (j : Int) by omega]
                    simp [IntKind.wrap, IntKind.signed, IntKind.bits]
                    omega
                  have hfit : E.length ≤ ce := HER.out.fit
                  have her := HER.out.below HBV2.out
                  obtain ⟨A2, hA2, hsrc2⟩ : ∃ A2 : Addr, (if ce = j then some (⟨fb, foff, none⟩ : Addr) else some ⟨fb, foff + j * 2, none⟩) = some A2 ∧ ESrc wr A2 (E.drop j) := by
                    by_cases hh : ce = j
                    · refine ⟨⟨fb, foff, none⟩, by simp [hh], fun i u hi => ?_⟩
                      have := (List.getElem?_eq_some_iff.1 hi).1
                      rw [eFlat_len, List.length_drop] at this
                      omega
                    · refine ⟨⟨fb, foff + j * 2, none⟩, by simp [hh], fun i u hi => ?_⟩
                      have := her.src _ u (eFlat_drop E j i (by omega) u hi)
                      rw [add_at] at this ⊢
                      rw [show foff + j * 2 + i = foff + (j * 2 + i) by omega]
                      exact this
                  have hsrc1 : ESrc wr ⟨fb, foff, none⟩ (E.take pk) := fun i u hi => her.src i u (eFlat_take E pk i u hi)
                  have hel : (E.drop j).length = E.length - j := by rw [List.length_drop]
                  have hek : (E.take pk).length = pk := by rw [List.length_take]; omega
                  have hSS : ∀ v, Below wr.heap.size wr v → v.cell? ⟨w5.heap.size, 0, none⟩ = some (.int .i64 (fu : Int)) ∧ v.cell? ⟨w5.heap.size, 1, none⟩ = some (.int .i64 (fv : Int)) := fun v hv => by
                    have h1 := HSV2.out.below hv HSV2.out.lt
                    exact ⟨h1.cell 0, h1.cell 1⟩
                  have HSS := Hid.intro hSS
                  obtain ⟨NW, hNW⟩ : ∃ NW : List (Int × Int), NW = [((fu : Int), (n : Int)), ((n : Int), (fv : Int)), ((x : Int), (n : Int))] := ⟨_, rfl⟩
                  have hNl : NW.length = 3 := by rw [hNW]; rfl
                  obtain ⟨NC, hNC⟩ : ∃ NC : Array Value, NC = #[.int .i64 (fu : Int), .int .i64 (n : Int), .int .i64 (n : Int), .int .i64 (fv : Int), .int .i64 (x : Int), .int .i64 (n : Int)] := ⟨_, rfl⟩
                  have hNCl : NC.toList = NW.flatMap eCells := by rw [hNC, hNW]; rfl
                  have hb0w : Below w0.heap.size w0 wr := (HB.out.trans (HBD.out.mono HB.out.size)).trans (HBV2.out.mono (by have := HB.out.size; have := HBD.out.size; omega))
                  have HB0W := Hid.intro hb0w
                  have HHE : Hid (Hen (n + 1) ((E.take pk ++ E.drop j) ++ NW)) := Hid.intro (by rw [hNW, ← hj]; exact HH.out.three (by omega) HF.out hxn HXU.out HXV.out)
                  have g5 : pk ≤ ce := by omega
                  have g6 : j ≤ E.length := by omega
                  have g7 : j ≤ ce := by omega
                  have g8 : pk ≤ E.length := by omega
                  have HFIN : Hid (∀ (v : Value) (wz : World), Below wr.heap.size wr wz → EOwn wz wr.heap.size v ((E.take pk ++ E.drop j) ++ NW) → EOwn wz w0.heap.size v ((E.take pk ++ E.drop j) ++ NW) ∧ Below w0.heap.size w0 wz) := Hid.intro (fun v wz hb ho => ⟨ho.mono hb0w.size, hb0w.trans (hb.mono hb0w.size)⟩)
                  have hD : Below wr.heap.size wr wr.drew := (Below.refl _ _).drew
                  obtain ⟨Y, hY⟩ : ∃ Y, (wr.alloc (.cells NC 29)).drew = Y := ⟨_, rfl⟩
                  have hYb : Below wr.heap.size wr Y := by rw [← hY]; exact ((Below.refl _ _).alloc (Nat.le_refl _) _).drew
                  have hYs : ESrc Y ⟨wr.heap.size, 0, none⟩ NW := src_new wr NC NW hNCl (by rw [← hY]; exact (Below.refl _ _).drew)
                  have HJ := Hid.intro hj
                  by_cases hm0 : E.length - j = 0
                  · have hdrop : E.drop j = [] := List.eq_nil_of_length_eq_zero (by rw [hel]; exact hm0)
                    obtain ⟨v7, w7, happ7, ho7, hb7⟩ := app_grow (w := Y) (B0 := wr.heap.size) hYb.size ⟨fb, foff, none⟩ ⟨wr.heap.size, 0, none⟩ (E.take pk) NW pk 3 3 hek hNl (by decide) (hsrc1.below hYb) hYs (by omega)
                    have hb7' : Below wr.heap.size wr w7 := hYb.trans (hb7.mono hYb.size)
                    have HO7 : Hid (EOwn w7 wr.heap.size v7 ((E.take pk ++ E.drop j) ++ NW)) := Hid.intro (by rw [hdrop, List.append_nil]; exact ho7)
                    have HB7 := Hid.intro hb7'
                    have hn1 := app_none wr.drew ⟨fb, foff, none⟩ A2 pk (ce - j)
                    have hn2 := app_none Y ⟨fb, foff, none⟩ A2 pk (ce - j)
                    rw [← hm0] at hn1 hn2
                    rw [← hY, hNC] at hn2 happ7
                    have HYB := Hid.intro hYb
                    have HYE := Hid.intro hY
                    have HNC := Hid.intro hNC
                    clear hdrop ho7 hb7 hb7' hsrc1 hsrc2 her hel hek hSS hNW hNl hNCl hb0w hD hYb hYs hY hNC hj hm0 f0 f1
                    go_cut [4] (fun s4 wc => EOwn wc w0.heap.size s4 ((E.take pk ++ E.drop j) ++ NW) ∧ Below w0.heap.size w0 wc)
                    case first =>
                      refine wp_region_held_drew (S := (fun v => v.cell? ⟨w5.heap.size, 0, none⟩ = some (.int .i64 (fu : Int)) ∧ v.cell? ⟨w5.heap.size, 1, none⟩ = some (.int .i64 (fv : Int)))) (by kernel_rfl) (HSS.out _ (Below.refl _ _).drew) (fun hHeld => ?_)
                      refine wpAnyH_take (i := 0) (v := ?_) rfl (by kernel_rfl) (by kernel_rfl) (by kernel_rfl) (fun _ _ _ h => h) (Or.inl ⟨by rfl, ?_⟩) (by assumption) ?_
                      rotate_left
                      · intro w hSw
                        (try dsimp only at hSw)
                        first | (go_simp; done) | (go_simp; with_reducible rfl)
                      (try simp only [Act.put, List.setIfInBounds_toArray, List.set_cons_zero, List.set_cons_succ])
                      refine wpAnyH_take (i := 1) (v := ?_) rfl (by kernel_rfl) (by kernel_rfl) (by kernel_rfl) (fun _ _ _ h => h) (Or.inl ⟨by rfl, ?_⟩) (by assumption) ?_
                      rotate_left
                      · intro w hSw
                        (try dsimp only at hSw)
                        first | (go_simp; done) | (go_simp; with_reducible rfl)
                      (try simp only [Act.put, List.setIfInBounds_toArray, List.set_cons_zero, List.set_cons_succ])
                      refine wpAnyH_take (i := 2) (v := ?_) rfl (by kernel_rfl) (by kernel_rfl) (by kernel_rfl) (fun _ _ _ h => h) (Or.inl ⟨by rfl, ?_⟩) (by assumption) ?_
                      rotate_left
                      · intro w hSw
                        (try dsimp only at hSw)
                        first | (go_simp; done) | (go_simp; with_reducible rfl)
                      (try simp only [Act.put, List.setIfInBounds_toArray, List.set_cons_zero, List.set_cons_succ])
                      refine wpAnyH_take (i := 3) (v := ?_) rfl (by kernel_rfl) (by kernel_rfl) (by kernel_rfl) (fun _ _ _ h => h) (Or.inl ⟨by rfl, ?_⟩) (by assumption) ?_
                      rotate_left
                      · intro w hSw
                        (try dsimp only at hSw)
                        first | (go_simp; done) | (go_simp; with_reducible rfl)
                      (try simp only [Act.put, List.setIfInBounds_toArray, List.set_cons_zero, List.set_cons_succ])
                      refine wpAnyH_take (i := 4) (v := ?_) rfl (by kernel_rfl) (by kernel_rfl) (by kernel_rfl) (fun _ _ _ h => h) (Or.inl ⟨by rfl, ?_⟩) (by assumption) ?_
                      rotate_left
                      · intro w hSw
                        (try dsimp only at hSw)
                        first | (go_simp; done) | (go_simp; with_reducible rfl)
                      (try simp only [Act.put, List.setIfInBounds_toArray, List.set_cons_zero, List.set_cons_succ])
                      refine wpAnyH_take (i := 5) (v := ?_) rfl (by kernel_rfl) (by kernel_rfl) (by kernel_rfl) (fun _ _ _ h => h) (Or.inl ⟨by rfl, ?_⟩) (by assumption) ?_
                      rotate_left
                      · intro w hSw
                        (try dsimp only at hSw)
                        first | (go_simp; done) | (go_simp; with_reducible rfl)
                      (try simp only [Act.put, List.setIfInBounds_toArray, List.set_cons_zero, List.set_cons_succ])
                      refine wpAnyH_take (i := 6) (v := ?_) rfl (by kernel_rfl) (by kernel_rfl) (by kernel_rfl) (fun _ _ _ h => h) (Or.inl ⟨by rfl, ?_⟩) (by assumption) ?_
                      rotate_left
                      · intro w hSw
                        (try dsimp only at hSw)
                        first | (go_simp; done) | (go_simp; with_reducible rfl)
                      (try simp only [Act.put, List.setIfInBounds_toArray, List.set_cons_zero, List.set_cons_succ])
                      refine wpAnyH_take (i := 7) (v := ?_) rfl (by kernel_rfl) (by kernel_rfl) (by kernel_rfl) (fun _ _ _ h => h) (Or.inl ⟨by rfl, ?_⟩) (by assumption) ?_
                      rotate_left
                      · intro w hSw
                        (try dsimp only at hSw)
                        first | (go_simp; done) | (go_simp; with_reducible rfl)
                      (try simp only [Act.put, List.setIfInBounds_toArray, List.set_cons_zero, List.set_cons_succ])
                      refine wpAnyH_take (i := 9) (v := ?_) rfl (by kernel_rfl) (by kernel_rfl) (by kernel_rfl) (fun _ _ _ h => h) (Or.inl ⟨by rfl, ?_⟩) (by assumption) ?_
                      rotate_left
                      · intro w hSw
                        (try dsimp only at hSw)
                        first | (go_simp; done) | (go_simp; with_reducible rfl)
                      (try simp only [Act.put, List.setIfInBounds_toArray, List.set_cons_zero, List.set_cons_succ])
                      refine wpAnyH_take (i := 10) (v := ?_) rfl (by kernel_rfl) (by kernel_rfl) (by kernel_rfl) (fun _ _ _ h => h) (Or.inl ⟨by rfl, ?_⟩) (by assumption) ?_
                      rotate_left
                      · intro w hSw
                        (try dsimp only at hSw)
                        first | (go_simp; done) | (go_simp; with_reducible rfl)
                      (try simp only [Act.put, List.setIfInBounds_toArray, List.set_cons_zero, List.set_cons_succ])
                      refine wpAnyH_take (i := 11) (v := ?_) rfl (by kernel_rfl) (by kernel_rfl) (by kernel_rfl) (fun _ _ _ h => h) (Or.inl ⟨by rfl, ?_⟩) (by assumption) ?_
                      rotate_left
                      · intro w hSw
                        (try dsimp only at hSw)
                        first | (go_simp; done) | (go_simp; with_reducible rfl)
                      (try simp only [Act.put, List.setIfInBounds_toArray, List.set_cons_zero, List.set_cons_succ])
                      refine wpAnyH_take (i := 12) (v := ?_) rfl (by kernel_rfl) (by kernel_rfl) (by kernel_rfl) (fun _ _ _ h => h) (Or.inl ⟨by rfl, ?_⟩) (by assumption) ?_
                      rotate_left
                      · intro w hSw
                        (try dsimp only at hSw)
                        first | (go_simp; done) | (go_simp; with_reducible rfl)
                      (try simp only [Act.put, List.setIfInBounds_toArray, List.set_cons_zero, List.set_cons_succ])
                      refine wpAnyH_take (i := 13) (v := ?_) rfl (by kernel_rfl) (by kernel_rfl) (by kernel_rfl) (fun _ _ _ h => h) (Or.inl ⟨by rfl, ?_⟩) (by assumption) ?_
                      rotate_left
                      · intro w hSw
                        (try dsimp only at hSw)
                        first | (go_simp; done) | (go_simp; with_reducible rfl)
                      (try simp only [Act.put, List.setIfInBounds_toArray, List.set_cons_zero, List.set_cons_succ])
                      refine wpAnyH_take (i := 14) (v := ?_) rfl (by kernel_rfl) (by kernel_rfl) (by kernel_rfl) (fun _ _ _ h => h) (Or.inl ⟨by rfl, ?_⟩) (by assumption) ?_
                      rotate_left
                      · intro w hSw
                        (try dsimp only at hSw)
                        first | (go_simp; done) | (go_simp; with_reducible rfl)
                      (try simp only [Act.put, List.setIfInBounds_toArray, List.set_cons_zero, List.set_cons_succ])
                      refine wpAnyH_take (i := 15) (v := ?_) rfl (by kernel_rfl) (by kernel_rfl) (by kernel_rfl) (fun _ _ _ h => h) (Or.inl ⟨by rfl, ?_⟩) (by assumption) ?_
                      rotate_left
                      · intro w hSw
                        (try dsimp only at hSw)
                        first | (go_simp; done) | (go_simp; with_reducible rfl)
                      (try simp only [Act.put, List.setIfInBounds_toArray, List.set_cons_zero, List.set_cons_succ])
                      refine wpAnyH_take (i := 16) (v := ?_) rfl (by kernel_rfl) (by kernel_rfl) (by kernel_rfl) (fun _ _ _ h => h) (Or.inl ⟨by rfl, ?_⟩) (by assumption) ?_
                      rotate_left
                      · intro w hSw
                        (try dsimp only at hSw)
                        first | (go_simp; done) | (go_simp; with_reducible rfl)
                      (try simp only [Act.put, List.setIfInBounds_toArray, List.set_cons_zero, List.set_cons_succ])
                      refine wpAnyH_take (i := 17) (v := ?_) rfl (by kernel_rfl) (by kernel_rfl) (by kernel_rfl) (fun _ _ _ h => h) (Or.inl ⟨by rfl, ?_⟩) (by assumption) ?_
                      rotate_left
                      · intro w hSw
                        (try dsimp only at hSw)
                        first | (go_simp; done) | (go_simp; with_reducible rfl)
                      (try simp only [Act.put, List.setIfInBounds_toArray, List.set_cons_zero, List.set_cons_succ])
                      refine wpAnyH_take (i := 18) (v := ?_) rfl (by kernel_rfl) (by kernel_rfl) (by kernel_rfl) (fun _ _ _ h => h) (Or.inl ⟨by rfl, ?_⟩) (by assumption) ?_
                      rotate_left
                      · intro w hSw
                        (try dsimp only at hSw)
                        first | (go_simp; done) | (go_simp; with_reducible rfl)
                      (try simp only [Act.put, List.setIfInBounds_toArray, List.set_cons_zero, List.set_cons_succ])
                      refine wpAnyH_take (i := 19) (v := ?_) rfl (by kernel_rfl) (by kernel_rfl) (by kernel_rfl) (fun _ _ _ h => h) (Or.inl ⟨by rfl, ?_⟩) (by assumption) ?_
                      rotate_left
                      · intro w hSw
                        (try dsimp only at hSw)
                        first | (go_simp; done) | (go_simp; with_reducible rfl)
                      (try simp only [Act.put, List.setIfInBounds_toArray, List.set_cons_zero, List.set_cons_succ])
                      refine wpAnyH_ready (rs := [8, 20]) (by kernel_rfl) (by simp) ?_
                      refine AllReadyH.cons rfl (fun K hK => ?_) (AllReadyH.cons rfl (fun K hK => ?_) AllReadyH.nil)
                      · skip
                        refine step_app (t := 27) rfl (.tmp 92) (.tmp 96) rfl (vs := .slice (some ⟨fb, foff, none⟩) pk pk) (vx := .slice (some A2) (E.length - j) (ce - j)) (by simp [Act.eval]) (by simp [Act.eval]) hn1 ?_
                        (try dsimp only)
                        refine hK.out _ _ (HSS.out _ (Below.refl _ _).drew) (fun hHeld => ?_)
                        clear hK K
                        (try simp only [Act.put, List.setIfInBounds_toArray, List.set_cons_zero, List.set_cons_succ])
                        refine wpAnyH_ready (rs := [20]) (by kernel_rfl) (by simp) ?_
                        refine AllReadyH.cons rfl (fun K hK => ?_) AllReadyH.nil
                        go_simp
                        (try dsimp only)
                        refine hK.out _ _ (HSS.out _ ((Below.refl _ _).alloc (Nat.le_refl _) _).drew) (fun hHeld => ?_)
                        clear hK K
                        (try simp only [Act.put, List.setIfInBounds_toArray, List.set_cons_zero, List.set_cons_succ])
                        refine wpAnyH_ready (rs := [21]) (by kernel_rfl) (by simp) ?_
                        refine AllReadyH.cons rfl (fun K hK => ?_) AllReadyH.nil
                        refine step_app (t := 27) rfl (.tmp 97) (.tmp 109) rfl (vs := .slice (some ⟨fb, foff, none⟩) pk pk) (vx := .slice (some ⟨wr.heap.size, 0, none⟩) 3 3) (by simp [Act.eval]) (by simp [Act.eval]) happ7 ?_
                        (try dsimp only)
                        refine hK.out _ _ (HSS.out _ HB7.out) (fun hHeld => ?_)
                        clear hK K
                        (try simp only [Act.put, List.setIfInBounds_toArray, List.set_cons_zero, List.set_cons_succ])
                        refine wpAnyH_ready (rs := [22]) (by kernel_rfl) (by simp) ?_
                        refine AllReadyH.cons rfl (fun K hK => ?_) AllReadyH.nil
                        go_simp
                        (try dsimp only)
                        refine hK.out _ _ (HSS.out _ HB7.out) (fun hHeld => ?_)
                        clear hK K
                        (try simp only [Act.put, List.setIfInBounds_toArray, List.set_cons_zero, List.set_cons_succ])
                        refine wpAnyH_done (by kernel_rfl) ?_ _
                        go_wp2_with fail
                        go_meet
                        case rel => exact HFIN.out _ _ HB7.out HO7.out
                      · go_simp
                        (try dsimp only)
                        refine hK.out _ _ (HSS.out _ ((Below.refl _ _).alloc (Nat.le_refl _) _).drew) (fun hHeld => ?_)
                        clear hK K
                        (try simp only [Act.put, List.setIfInBounds_toArray, List.set_cons_zero, List.set_cons_succ])
                        refine wpAnyH_ready (rs := [8]) (by kernel_rfl) (by simp) ?_
                        refine AllReadyH.cons rfl (fun K hK => ?_) AllReadyH.nil
                        refine step_app (t := 27) rfl (.tmp 92) (.tmp 96) rfl (vs := .slice (some ⟨fb, foff, none⟩) pk pk) (vx := .slice (some A2) (E.length - j) (ce - j)) (by simp [Act.eval]) (by simp [Act.eval]) hn2 ?_
                        (try dsimp only)
                        refine hK.out _ _ (HSS.out _ ((Below.refl _ _).alloc (Nat.le_refl _) _).drew) (fun hHeld => ?_)
                        clear hK K
                        (try simp only [Act.put, List.setIfInBounds_toArray, List.set_cons_zero, List.set_cons_succ])
                        refine wpAnyH_ready (rs := [21]) (by kernel_rfl) (by simp) ?_
                        refine AllReadyH.cons rfl (fun K hK => ?_) AllReadyH.nil
                        refine step_app (t := 27) rfl (.tmp 97) (.tmp 109) rfl (vs := .slice (some ⟨fb, foff, none⟩) pk pk) (vx := .slice (some ⟨wr.heap.size, 0, none⟩) 3 3) (by simp [Act.eval]) (by simp [Act.eval]) happ7 ?_
                        (try dsimp only)
                        refine hK.out _ _ (HSS.out _ HB7.out) (fun hHeld => ?_)
                        clear hK K
                        (try simp only [Act.put, List.setIfInBounds_toArray, List.set_cons_zero, List.set_cons_succ])
                        refine wpAnyH_ready (rs := [22]) (by kernel_rfl) (by simp) ?_
                        refine AllReadyH.cons rfl (fun K hK => ?_) AllReadyH.nil
                        go_simp
                        (try dsimp only)
                        refine hK.out _ _ (HSS.out _ HB7.out) (fun hHeld => ?_)
                        clear hK K
                        (try simp only [Act.put, List.setIfInBounds_toArray, List.set_cons_zero, List.set_cons_succ])
                        refine wpAnyH_done (by kernel_rfl) ?_ _
                        go_wp2_with fail
                        go_meet
                        case rel => exact HFIN.out _ _ HB7.out HO7.out
                    case rest =>
                      obtain ⟨hoc, hbc⟩ := hcut
                      have HOC := Hid.intro hoc
                      have HBC := Hid.intro hbc
                      clear hoc hbc hn1 hn2 happ7
                      go_wp2
                      go_roundw
                      case rel => exact ⟨k + 1, n + 1, _, by omega, by go_num, by first | rfl | go_num | simp, HOC.out, HHE.out, HBC.out⟩
                      case measure => simp [intOf]; omega
                  · have hmp : 0 < E.length - j := by omega
                    obtain ⟨v5, w6, happ5, ho5, hb5⟩ := app_grow (w := wr.drew) (B0 := wr.heap.size) (Nat.le_refl _) ⟨fb, foff, none⟩ A2 (E.take pk) (E.drop j) pk (E.length - j) (ce - j) hek hel hmp (hsrc1.below hD) (hsrc2.below hD) (by omega)
                    have hb56 : Below wr.heap.size wr w6 := hD.trans hb5
                    obtain ⟨X6, hX6⟩ : ∃ X6, w6.alloc (.cells NC 29) = X6 := ⟨_, rfl⟩
                    have hb6X : Below w6.heap.size w6 X6 := by rw [← hX6]; exact (Below.refl _ _).alloc (Nat.le_refl _) _
                    have hbX6 : Below wr.heap.size wr X6 := hb56.trans (hb6X.mono hb56.size)
                    have hX6s : ESrc X6 ⟨w6.heap.size, 0, none⟩ NW := src_new w6 NC NW hNCl (by rw [← hX6]; exact Below.refl _ _)
                    have hoX6 := ho5.below hb6X
                    obtain ⟨v7, w7, happ7, ho7, hg7, _⟩ := hoX6.app ⟨w6.heap.size, 0, none⟩ NW hX6s (by rw [List.length_append, hel, hek, hNl]; omega) hbX6.size 3
                    have HB7 := Hid.intro (grown_below hbX6 hoX6 (Nat.le_refl _) hg7)
                    have HO7 := Hid.intro ho7
                    obtain ⟨v8, w8, happ8, ho8, hb8⟩ := app_grow (w := Y) (B0 := wr.heap.size) hYb.size ⟨fb, foff, none⟩ A2 (E.take pk) (E.drop j) pk (E.length - j) (ce - j) hek hel hmp (hsrc1.below hYb) (hsrc2.below hYb) (by omega)
                    have hbr8 : Below wr.heap.size wr w8 := hYb.trans (hb8.mono hYb.size)
                    obtain ⟨v9, w9, happ9, ho9, hg9, _⟩ := ho8.app ⟨wr.heap.size, 0, none⟩ NW (hYs.below hb8) (by rw [List.length_append, hel, hek, hNl]; omega) hbr8.size 3
                    have HB9 := Hid.intro (grown_below hbr8 ho8 (Nat.le_refl _) hg9)
                    have HO9 := Hid.intro ho9
                    have HB56 := Hid.intro hb56
                    have HBX6 := Hid.intro hbX6
                    have HBR8 := Hid.intro hbr8
                    rw [hNl] at happ7 happ9
                    rw [← hX6, hNC] at happ7
                    rw [← hY, hNC] at happ8
                    have HHX : Hid (∀ o, Below wr.heap.size wr (w6.alloc o)) := Hid.intro (fun o => hb56.alloc hb56.size o)
                    clear hmp ho5 hb5 hb56 hX6 hb6X hbX6 hX6s hoX6 ho7 hg7 ho8 hb8 hbr8 ho9 hg9 hsrc1 hsrc2 her hel hek hSS hNW hNl hNCl hb0w hD hYb hYs hY hNC hj hm0 f0 f1
                    go_cut [4] (fun s4 wc => EOwn wc w0.heap.size s4 ((E.take pk ++ E.drop j) ++ NW) ∧ Below w0.heap.size w0 wc)
                    case first =>
                      refine wp_region_held_drew (S := (fun v => v.cell? ⟨w5.heap.size, 0, none⟩ = some (.int .i64 (fu : Int)) ∧ v.cell? ⟨w5.heap.size, 1, none⟩ = some (.int .i64 (fv : Int)))) (by kernel_rfl) (HSS.out _ (Below.refl _ _).drew) (fun hHeld => ?_)
                      refine wpAnyH_take (i := 0) (v := ?_) rfl (by kernel_rfl) (by kernel_rfl) (by kernel_rfl) (fun _ _ _ h => h) (Or.inl ⟨by rfl, ?_⟩) (by assumption) ?_
                      rotate_left
                      · intro w hSw
                        (try dsimp only at hSw)
                        first | (go_simp; done) | (go_simp; with_reducible rfl)
                      (try simp only [Act.put, List.setIfInBounds_toArray, List.set_cons_zero, List.set_cons_succ])
                      refine wpAnyH_take (i := 1) (v := ?_) rfl (by kernel_rfl) (by kernel_rfl) (by kernel_rfl) (fun _ _ _ h => h) (Or.inl ⟨by rfl, ?_⟩) (by assumption) ?_
                      rotate_left
                      · intro w hSw
                        (try dsimp only at hSw)
                        first | (go_simp; done) | (go_simp; with_reducible rfl)
                      (try simp only [Act.put, List.setIfInBounds_toArray, List.set_cons_zero, List.set_cons_succ])
                      refine wpAnyH_take (i := 2) (v := ?_) rfl (by kernel_rfl) (by kernel_rfl) (by kernel_rfl) (fun _ _ _ h => h) (Or.inl ⟨by rfl, ?_⟩) (by assumption) ?_
                      rotate_left
                      · intro w hSw
                        (try dsimp only at hSw)
                        first | (go_simp; done) | (go_simp; with_reducible rfl)
                      (try simp only [Act.put, List.setIfInBounds_toArray, List.set_cons_zero, List.set_cons_succ])
                      refine wpAnyH_take (i := 3) (v := ?_) rfl (by kernel_rfl) (by kernel_rfl) (by kernel_rfl) (fun _ _ _ h => h) (Or.inl ⟨by rfl, ?_⟩) (by assumption) ?_
                      rotate_left
                      · intro w hSw
                        (try dsimp only at hSw)
                        first | (go_simp; done) | (go_simp; with_reducible rfl)
                      (try simp only [Act.put, List.setIfInBounds_toArray, List.set_cons_zero, List.set_cons_succ])
                      refine wpAnyH_take (i := 4) (v := ?_) rfl (by kernel_rfl) (by kernel_rfl) (by kernel_rfl) (fun _ _ _ h => h) (Or.inl ⟨by rfl, ?_⟩) (by assumption) ?_
                      rotate_left
                      · intro w hSw
                        (try dsimp only at hSw)
                        first | (go_simp; done) | (go_simp; with_reducible rfl)
                      (try simp only [Act.put, List.setIfInBounds_toArray, List.set_cons_zero, List.set_cons_succ])
                      refine wpAnyH_take (i := 5) (v := ?_) rfl (by kernel_rfl) (by kernel_rfl) (by kernel_rfl) (fun _ _ _ h => h) (Or.inl ⟨by rfl, ?_⟩) (by assumption) ?_
                      rotate_left
                      · intro w hSw
                        (try dsimp only at hSw)
                        first | (go_simp; done) | (go_simp; with_reducible rfl)
                      (try simp only [Act.put, List.setIfInBounds_toArray, List.set_cons_zero, List.set_cons_succ])
                      refine wpAnyH_take (i := 6) (v := ?_) rfl (by kernel_rfl) (by kernel_rfl) (by kernel_rfl) (fun _ _ _ h => h) (Or.inl ⟨by rfl, ?_⟩) (by assumption) ?_
                      rotate_left
                      · intro w hSw
                        (try dsimp only at hSw)
                        first | (go_simp; done) | (go_simp; with_reducible rfl)
                      (try simp only [Act.put, List.setIfInBounds_toArray, List.set_cons_zero, List.set_cons_succ])
                      refine wpAnyH_take (i := 7) (v := ?_) rfl (by kernel_rfl) (by kernel_rfl) (by kernel_rfl) (fun _ _ _ h => h) (Or.inl ⟨by rfl, ?_⟩) (by assumption) ?_
                      rotate_left
                      · intro w hSw
                        (try dsimp only at hSw)
                        first | (go_simp; done) | (go_simp; with_reducible rfl)
                      (try simp only [Act.put, List.setIfInBounds_toArray, List.set_cons_zero, List.set_cons_succ])
                      refine wpAnyH_take (i := 9) (v := ?_) rfl (by kernel_rfl) (by kernel_rfl) (by kernel_rfl) (fun _ _ _ h => h) (Or.inl ⟨by rfl, ?_⟩) (by assumption) ?_
                      rotate_left
                      · intro w hSw
                        (try dsimp only at hSw)
                        first | (go_simp; done) | (go_simp; with_reducible rfl)
                      (try simp only [Act.put, List.setIfInBounds_toArray, List.set_cons_zero, List.set_cons_succ])
                      refine wpAnyH_take (i := 10) (v := ?_) rfl (by kernel_rfl) (by kernel_rfl) (by kernel_rfl) (fun _ _ _ h => h) (Or.inl ⟨by rfl, ?_⟩) (by assumption) ?_
                      rotate_left
                      · intro w hSw
                        (try dsimp only at hSw)
                        first | (go_simp; done) | (go_simp; with_reducible rfl)
                      (try simp only [Act.put, List.setIfInBounds_toArray, List.set_cons_zero, List.set_cons_succ])
                      refine wpAnyH_take (i := 11) (v := ?_) rfl (by kernel_rfl) (by kernel_rfl) (by kernel_rfl) (fun _ _ _ h => h) (Or.inl ⟨by rfl, ?_⟩) (by assumption) ?_
                      rotate_left
                      · intro w hSw
                        (try dsimp only at hSw)
                        first | (go_simp; done) | (go_simp; with_reducible rfl)
                      (try simp only [Act.put, List.setIfInBounds_toArray, List.set_cons_zero, List.set_cons_succ])
                      refine wpAnyH_take (i := 12) (v := ?_) rfl (by kernel_rfl) (by kernel_rfl) (by kernel_rfl) (fun _ _ _ h => h) (Or.inl ⟨by rfl, ?_⟩) (by assumption) ?_
                      rotate_left
                      · intro w hSw
                        (try dsimp only at hSw)
                        first | (go_simp; done) | (go_simp; with_reducible rfl)
                      (try simp only [Act.put, List.setIfInBounds_toArray, List.set_cons_zero, List.set_cons_succ])
                      refine wpAnyH_take (i := 13) (v := ?_) rfl (by kernel_rfl) (by kernel_rfl) (by kernel_rfl) (fun _ _ _ h => h) (Or.inl ⟨by rfl, ?_⟩) (by assumption) ?_
                      rotate_left
                      · intro w hSw
                        (try dsimp only at hSw)
                        first | (go_simp; done) | (go_simp; with_reducible rfl)
                      (try simp only [Act.put, List.setIfInBounds_toArray, List.set_cons_zero, List.set_cons_succ])
                      refine wpAnyH_take (i := 14) (v := ?_) rfl (by kernel_rfl) (by kernel_rfl) (by kernel_rfl) (fun _ _ _ h => h) (Or.inl ⟨by rfl, ?_⟩) (by assumption) ?_
                      rotate_left
                      · intro w hSw
                        (try dsimp only at hSw)
                        first | (go_simp; done) | (go_simp; with_reducible rfl)
                      (try simp only [Act.put, List.setIfInBounds_toArray, List.set_cons_zero, List.set_cons_succ])
                      refine wpAnyH_take (i := 15) (v := ?_) rfl (by kernel_rfl) (by kernel_rfl) (by kernel_rfl) (fun _ _ _ h => h) (Or.inl ⟨by rfl, ?_⟩) (by assumption) ?_
                      rotate_left
                      · intro w hSw
                        (try dsimp only at hSw)
                        first | (go_simp; done) | (go_simp; with_reducible rfl)
                      (try simp only [Act.put, List.setIfInBounds_toArray, List.set_cons_zero, List.set_cons_succ])
                      refine wpAnyH_take (i := 16) (v := ?_) rfl (by kernel_rfl) (by kernel_rfl) (by kernel_rfl) (fun _ _ _ h => h) (Or.inl ⟨by rfl, ?_⟩) (by assumption) ?_
                      rotate_left
                      · intro w hSw
                        (try dsimp only at hSw)
                        first | (go_simp; done) | (go_simp; with_reducible rfl)
                      (try simp only [Act.put, List.setIfInBounds_toArray, List.set_cons_zero, List.set_cons_succ])
                      refine wpAnyH_take (i := 17) (v := ?_) rfl (by kernel_rfl) (by kernel_rfl) (by kernel_rfl) (fun _ _ _ h => h) (Or.inl ⟨by rfl, ?_⟩) (by assumption) ?_
                      rotate_left
                      · intro w hSw
                        (try dsimp only at hSw)
                        first | (go_simp; done) | (go_simp; with_reducible rfl)
                      (try simp only [Act.put, List.setIfInBounds_toArray, List.set_cons_zero, List.set_cons_succ])
                      refine wpAnyH_take (i := 18) (v := ?_) rfl (by kernel_rfl) (by kernel_rfl) (by kernel_rfl) (fun _ _ _ h => h) (Or.inl ⟨by rfl, ?_⟩) (by assumption) ?_
                      rotate_left
                      · intro w hSw
                        (try dsimp only at hSw)
                        first | (go_simp; done) | (go_simp; with_reducible rfl)
                      (try simp only [Act.put, List.setIfInBounds_toArray, List.set_cons_zero, List.set_cons_succ])
                      refine wpAnyH_take (i := 19) (v := ?_) rfl (by kernel_rfl) (by kernel_rfl) (by kernel_rfl) (fun _ _ _ h => h) (Or.inl ⟨by rfl, ?_⟩) (by assumption) ?_
                      rotate_left
                      · intro w hSw
                        (try dsimp only at hSw)
                        first | (go_simp; done) | (go_simp; with_reducible rfl)
                      (try simp only [Act.put, List.setIfInBounds_toArray, List.set_cons_zero, List.set_cons_succ])
                      refine wpAnyH_ready (rs := [8, 20]) (by kernel_rfl) (by simp) ?_
                      refine AllReadyH.cons rfl (fun K hK => ?_) (AllReadyH.cons rfl (fun K hK => ?_) AllReadyH.nil)
                      · skip
                        refine step_app (t := 27) rfl (.tmp 92) (.tmp 96) rfl (vs := .slice (some ⟨fb, foff, none⟩) pk pk) (vx := .slice (some A2) (E.length - j) (ce - j)) (by simp [Act.eval]) (by simp [Act.eval]) happ5 ?_
                        (try dsimp only)
                        refine hK.out _ _ (HSS.out _ HB56.out) (fun hHeld => ?_)
                        clear hK K
                        (try simp only [Act.put, List.setIfInBounds_toArray, List.set_cons_zero, List.set_cons_succ])
                        refine wpAnyH_ready (rs := [20]) (by kernel_rfl) (by simp) ?_
                        refine AllReadyH.cons rfl (fun K hK => ?_) AllReadyH.nil
                        go_simp
                        (try dsimp only)
                        refine hK.out _ _ (HSS.out _ (HHX.out _)) (fun hHeld => ?_)
                        clear hK K
                        (try simp only [Act.put, List.setIfInBounds_toArray, List.set_cons_zero, List.set_cons_succ])
                        refine wpAnyH_ready (rs := [21]) (by kernel_rfl) (by simp) ?_
                        refine AllReadyH.cons rfl (fun K hK => ?_) AllReadyH.nil
                        refine step_app (t := 27) rfl (.tmp 97) (.tmp 109) rfl (vs := v5) (vx := .slice (some ⟨w6.heap.size, 0, none⟩) 3 3) (by simp [Act.eval]) (by simp [Act.eval]) happ7 ?_
                        (try dsimp only)
                        refine hK.out _ _ (HSS.out _ HB7.out) (fun hHeld => ?_)
                        clear hK K
                        (try simp only [Act.put, List.setIfInBounds_toArray, List.set_cons_zero, List.set_cons_succ])
                        refine wpAnyH_ready (rs := [22]) (by kernel_rfl) (by simp) ?_
                        refine AllReadyH.cons rfl (fun K hK => ?_) AllReadyH.nil
                        go_simp
                        (try dsimp only)
                        refine hK.out _ _ (HSS.out _ HB7.out) (fun hHeld => ?_)
                        clear hK K
                        (try simp only [Act.put, List.setIfInBounds_toArray, List.set_cons_zero, List.set_cons_succ])
                        refine wpAnyH_done (by kernel_rfl) ?_ _
                        go_wp2_with fail
                        go_meet
                        case rel => exact HFIN.out _ _ HB7.out HO7.out
                      · go_simp
                        (try dsimp only)
                        refine hK.out _ _ (HSS.out _ ((Below.refl _ _).alloc (Nat.le_refl _) _).drew) (fun hHeld => ?_)
                        clear hK K
                        (try simp only [Act.put, List.setIfInBounds_toArray, List.set_cons_zero, List.set_cons_succ])
                        refine wpAnyH_ready (rs := [8]) (by kernel_rfl) (by simp) ?_
                        refine AllReadyH.cons rfl (fun K hK => ?_) AllReadyH.nil
                        refine step_app (t := 27) rfl (.tmp 92) (.tmp 96) rfl (vs := .slice (some ⟨fb, foff, none⟩) pk pk) (vx := .slice (some A2) (E.length - j) (ce - j)) (by simp [Act.eval]) (by simp [Act.eval]) happ8 ?_
                        (try dsimp only)
                        refine hK.out _ _ (HSS.out _ HBR8.out) (fun hHeld => ?_)
                        clear hK K
                        (try simp only [Act.put, List.setIfInBounds_toArray, List.set_cons_zero, List.set_cons_succ])
                        refine wpAnyH_ready (rs := [21]) (by kernel_rfl) (by simp) ?_
                        refine AllReadyH.cons rfl (fun K hK => ?_) AllReadyH.nil
                        refine step_app (t := 27) rfl (.tmp 97) (.tmp 109) rfl (vs := v8) (vx := .slice (some ⟨wr.heap.size, 0, none⟩) 3 3) (by simp [Act.eval]) (by simp [Act.eval]) happ9 ?_
                        (try dsimp only)
                        refine hK.out _ _ (HSS.out _ HB9.out) (fun hHeld => ?_)
                        clear hK K
                        (try simp only [Act.put, List.setIfInBounds_toArray, List.set_cons_zero, List.set_cons_succ])
                        refine wpAnyH_ready (rs := [22]) (by kernel_rfl) (by simp) ?_
                        refine AllReadyH.cons rfl (fun K hK => ?_) AllReadyH.nil
                        go_simp
                        (try dsimp only)
                        refine hK.out _ _ (HSS.out _ HB9.out) (fun hHeld => ?_)
                        clear hK K
                        (try simp only [Act.put, List.setIfInBounds_toArray, List.set_cons_zero, List.set_cons_succ])
                        refine wpAnyH_done (by kernel_rfl) ?_ _
                        go_wp2_with fail
                        go_meet
                        case rel => exact HFIN.out _ _ HB9.out HO9.out
                    case rest =>
                      obtain ⟨hoc, hbc⟩ := hcut
                      have HOC := Hid.intro hoc
                      have HBC := Hid.intro hbc
                      clear hoc hbc happ5 happ7 happ8 happ9
                      go_wp2
                      go_roundw
                      case rel => exact ⟨k + 1, n + 1, _, by omega, by go_num, by first | rfl | go_num | simp, HOC.out, HHE.out, HBC.out⟩
                      case measure => simp [intOf]; omega
    · obtain rfl : k = ss.length := by omega
      have HOZ := HO
      have HBZ := HB
      have HV1 := True.intro
      obtain ⟨ae, ce, hu4, her, _⟩ := HOZ.out.row
      subst hu4
      have hEl : E.length + 3 = 2 * n := HH.out.2.2.1
      have HR1 := Hid.intro (rigid_hen HH.out ae ce wr her)
      have HERZ := Hid.intro her
      clear her
      go_wp2_with fail
      (try rw [HV1.out])
      go_fit HR1.out
      rintro e w1 ⟨rfl, hb1⟩
      obtain ⟨F1, hF1⟩ : ∃ F1, w1.alloc (.cells #[.int .i64 0, .int .i64 0] 31) = F1 := ⟨_, rfl⟩
      have hF1s : SB F1 w1.heap.size 31 #[.int .i64 0, .int .i64 0] := by rw [← hF1]; exact SB.new w1 _ _
      have hbF1 : Below wr.heap.size wr F1 := by rw [← hF1]; exact hb1.alloc hb1.size _
      have HR2 := Hid.intro (free_hen HH.out ae ce F1 (HERZ.out.below hbF1))
      have HBF1 := Hid.intro hbF1
      have HF1S := Hid.intro hF1s
      have HF1 := Hid.intro hF1
      clear hb1 hF1 hF1s hbF1
      go_wp2_with fail
      rw [HF1.out]
      go_fit HR2.out
      rintro e w2 ⟨v2, l2, rfl, hl2, hc2, hn2', hb2⟩
      obtain ⟨F2, hF2⟩ : ∃ F2, w2.alloc (.cells #[.int .i64 0, .int .i64 0] 31) = F2 := ⟨_, rfl⟩
      have hF2s : SB F2 w2.heap.size 31 #[.int .i64 0, .int .i64 0] := by rw [← hF2]; exact SB.new w2 _ _
      have hb2F : Below w2.heap.size w2 F2 := by rw [← hF2]; exact (Below.refl _ _).alloc (Nat.le_refl _) _
      have hbF2 : Below F1.heap.size F1 F2 := hb2.trans (hb2F.mono hb2.size)
      have hbZ2 := HBF1.out.trans (hbF2.mono HBF1.out.size)
      have HR3 := Hid.intro (over_hen HH.out ae ce F2 (HERZ.out.below hbZ2))
      have HL2 := Hid.intro (hl2.below hb2F)
      have HC2 := Hid.intro hc2
      have HN2 := Hid.intro hn2'
      have HBF2 := Hid.intro hbF2
      have HBZ2 := Hid.intro hbZ2
      have HF2S := Hid.intro hF2s
      have HF2 := Hid.intro hF2
      clear hl2 hc2 hn2' hb2 hF2 hF2s hb2F hbF2 hbZ2
      go_wp2_with fail
      rw [HF2.out]
      go_fit HR3.out
      rintro e w3 ⟨v3, l3, rfl, hl3, hc3, hn3', hb3⟩
      obtain ⟨F3, hF3⟩ : ∃ F3, w3.alloc (.cells #[.int .i64 0, .int .i64 0] 31) = F3 := ⟨_, rfl⟩
      have hF3s : SB F3 w3.heap.size 31 #[.int .i64 0, .int .i64 0] := by rw [← hF3]; exact SB.new w3 _ _
      have hb3F : Below w3.heap.size w3 F3 := by rw [← hF3]; exact (Below.refl _ _).alloc (Nat.le_refl _) _
      have hbF3 : Below F2.heap.size F2 F3 := hb3.trans (hb3F.mono hb3.size)
      have hbF13 : Below F1.heap.size F1 F3 := HBF2.out.trans (hbF3.mono HBF2.out.size)
      have i1 : F3.cell? ⟨w1.heap.size, 0, none⟩ = some (.int .i64 0) := (HF1S.out.below hbF13 HF1S.out.lt).cell 0
      have i2 : F3.cell? ⟨w2.heap.size, 0, none⟩ = some (.int .i64 0) := (HF2S.out.below hbF3 HF2S.out.lt).cell 0
      have i3 : F3.cell? ⟨w3.heap.size, 0, none⟩ = some (.int .i64 0) := hF3s.cell 0
      have hl23 := HL2.out.below hbF3
      obtain ⟨a2, c2, hv2, _⟩ := hl23
      subst hv2
      have HM2 : Hid (Calls Try.prog 18 #[.slice a2 l2.length c2] F3 fun e w' => e = .returned (.int .i64 (E.length : Nat)) ∧ w' = F3) := Hid.intro (by
        have := ref_Many (.slice a2 l2.length c2) l2 F3 (HL2.out.below hbF3) (by rw [HN2.out]; omega)
        rw [HC2.out] at this
        exact this)
      have HM3 : Hid (Calls Try.prog 18 #[v3] F3 fun e w' => e = .returned (.int .i64 (0 : Nat)) ∧ w' = F3) := Hid.intro (by
        have := ref_Many v3 l3 F3 (hl3.below hb3F) (by rw [hn3']; omega)
        rw [hc3] at this
        exact this)
      have gl2 : ((l2.length : Int) == (E.length : Int)) = true := by
        have := HN2.out
        simp
        omega
      have HBE : Hid (Below w.heap.size w F3) := Hid.intro (by
        have h1 := HB0.out.trans (HBZ.out.mono HB0.out.size)
        have h2 := h1.trans (HBZ2.out.mono h1.size)
        exact h2.trans (hbF3.mono h2.size))
      have HF3 := Hid.intro hF3
      rw [← hF3] at i1 i2 i3
      clear hl3 hc3 hn3' hb3 hF3 hF3s hb3F hbF3 hbF13
      go_wp2_with fail
      rw [HF3.out]
      go_fit HM2.out
      rintro e w4 ⟨rfl, rfl⟩
      go_wp2_with fail
      go_fit HM3.out
      rintro e w5 ⟨rfl, rfl⟩
      go_wp2
      go_ret
      exact ⟨rfl, HBE.out⟩
end Go.Proofs.Ytmoioobjapnjmaa
