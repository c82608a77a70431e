/- rafterref: a graph's fault. -/
import Derived.Test.YtgnmjaponiclhaaPebD
namespace Go.Proofs.Ytgnmjaponiclhaa
open Go.RowKit Go.MapKept
set_option linter.unusedVariables false
set_option linter.unusedSimpArgs false

theorem ref_F (c at_ : Int) (w : World) : Calls Try.prog 22 #[.int .i64 c, .int .i64 at_] w fun e w' => e = .returned (.agg #[.int .i64 c, .int .i64 at_]) ∧ Below w.heap.size w w' := by
  go_enter Try.func22, Try.ntmps22
  go_wp2
  refine bodyPost_ret (results_cell_row rfl _ _ w.heap.size 31 #[.int .i64 c, .int .i64 at_] (0, 0) _ rfl (SB.new w _ _) Try.underlying31 rfl faultInfo) rfl ?_
  exact ⟨rfl, (Below.refl _ _).alloc (Nat.le_refl _) _⟩
set_option maxRecDepth 100000 in
set_option maxHeartbeats 4000000 in
theorem ref_CheckGraph (n : Int) (a : Option Addr) (cap : Nat) (es : List (Int × Int)) (w : World) (he : ERow w a cap es) (hlen : es.length ≤ maxLen) :
    Calls Try.prog 10 #[.int .i64 n, .slice a es.length cap] w fun e w' => ∃ c at_, e = .returned (.agg #[.int .i64 c, .int .i64 at_]) ∧ ChkSays n es c at_ ∧ Below w.heap.size w w' := by
  have HE := Hid.intro he
  obtain ⟨W, hW⟩ : ∃ W, w.alloc (.cells #[.int .i64 0, .int .i64 0] 31) = W := ⟨_, rfl⟩
  obtain ⟨s, hs⟩ : ∃ s, s = w.heap.size := ⟨_, rfl⟩
  have HB0 : Hid (Below w.heap.size w W) := Hid.intro (by rw [← hW]; exact (Below.refl _ _).alloc (Nat.le_refl _) _)
  have HS0 : Hid (SB W s 31 #[.int .i64 0, .int .i64 0]) := Hid.intro (by rw [← hW, hs]; exact SB.new w _ _)
  have hlen' : es.length ≤ 9223372036854775807 := by simpa [maxLen] using hlen
  have HS := Hid.intro hs
  have HW := Hid.intro hW
  clear he hlen hs hW
  by_cases hbad : n < 1 ∨ 10 < n ∨ 45 < es.length
  · have HBAD := Hid.intro hbad
    by_cases h1 : n < 1
    · clear hbad
      go_enter Try.func10, Try.ntmps10
      go_wp2_with fail
      rw [HW.out, ← HS.out]
      have HFX := Hid.intro (ref_F 2 0 W)
      go_wp2_with fail
      go_fit HFX.out
      rintro e w9 ⟨rfl, hb9⟩
      have HS9 := Hid.intro (HS0.out.below hb9 HS0.out.lt)
      have HB9 := Hid.intro (HB0.out.trans (hb9.mono HB0.out.size))
      have z0 : w9.cell? ⟨s, 0, none⟩ = some (.int .i64 0) := HS9.out.cell 0
      have z1 : w9.cell? ⟨s, 1, none⟩ = some (.int .i64 0) := HS9.out.cell 1
      have f0 : w9.frozen? ⟨s, 0, none⟩ = false := HS9.out.free 0
      have f1 : w9.frozen? ⟨s, 1, none⟩ = false := HS9.out.free 1
      go_wp2
      refine bodyPost_ret (v := .agg #[.int .i64 2, .int .i64 0]) (results_cell_row rfl _ _ s 31 #[.int .i64 2, .int .i64 0] (0, 0) _ rfl ((HS9.out.set 0 _).set 1 _) Try.underlying31 rfl faultInfo) rfl ?_
      exact ⟨2, 0, rfl, Or.inl ⟨HBAD.out, rfl, rfl⟩, (HB9.out.setCell (by rw [HS.out]; exact Nat.le_refl _) _).setCell (by rw [HS.out]; exact Nat.le_refl _) _⟩
    · by_cases h2 : 10 < n
      · clear hbad
        go_enter Try.func10, Try.ntmps10
        go_wp2_with fail
        rw [HW.out, ← HS.out]
        have HFX := Hid.intro (ref_F 2 0 W)
        go_wp2_with fail
        go_fit HFX.out
        rintro e w9 ⟨rfl, hb9⟩
        have HS9 := Hid.intro (HS0.out.below hb9 HS0.out.lt)
        have HB9 := Hid.intro (HB0.out.trans (hb9.mono HB0.out.size))
        have z0 : w9.cell? ⟨s, 0, none⟩ = some (.int .i64 0) := HS9.out.cell 0
        have z1 : w9.cell? ⟨s, 1, none⟩ = some (.int .i64 0) := HS9.out.cell 1
        have f0 : w9.frozen? ⟨s, 0, none⟩ = false := HS9.out.free 0
        have f1 : w9.frozen? ⟨s, 1, none⟩ = false := HS9.out.free 1
        go_wp2
        refine bodyPost_ret (v := .agg #[.int .i64 2, .int .i64 0]) (results_cell_row rfl _ _ s 31 #[.int .i64 2, .int .i64 0] (0, 0) _ rfl ((HS9.out.set 0 _).set 1 _) Try.underlying31 rfl faultInfo) rfl ?_
        exact ⟨2, 0, rfl, Or.inl ⟨HBAD.out, rfl, rfl⟩, (HB9.out.setCell (by rw [HS.out]; exact Nat.le_refl _) _).setCell (by rw [HS.out]; exact Nat.le_refl _) _⟩
      · have h3 : (45 : Int) < (es.length : Int) := by omega
        clear hbad
        go_enter Try.func10, Try.ntmps10
        go_wp2_with fail
        rw [HW.out, ← HS.out]
        have HFX := Hid.intro (ref_F 2 0 W)
        go_wp2_with fail
        go_fit HFX.out
        rintro e w9 ⟨rfl, hb9⟩
        have HS9 := Hid.intro (HS0.out.below hb9 HS0.out.lt)
        have HB9 := Hid.intro (HB0.out.trans (hb9.mono HB0.out.size))
        have z0 : w9.cell? ⟨s, 0, none⟩ = some (.int .i64 0) := HS9.out.cell 0
        have z1 : w9.cell? ⟨s, 1, none⟩ = some (.int .i64 0) := HS9.out.cell 1
        have f0 : w9.frozen? ⟨s, 0, none⟩ = false := HS9.out.free 0
        have f1 : w9.frozen? ⟨s, 1, none⟩ = false := HS9.out.free 1
        go_wp2
        refine bodyPost_ret (v := .agg #[.int .i64 2, .int .i64 0]) (results_cell_row rfl _ _ s 31 #[.int .i64 2, .int .i64 0] (0, 0) _ rfl ((HS9.out.set 0 _).set 1 _) Try.underlying31 rfl faultInfo) rfl ?_
        exact ⟨2, 0, rfl, Or.inl ⟨HBAD.out, rfl, rfl⟩, (HB9.out.setCell (by rw [HS.out]; exact Nat.le_refl _) _).setCell (by rw [HS.out]; exact Nat.le_refl _) _⟩
  · have h1 : 1 ≤ n := by omega
    have h2 : n ≤ 10 := by omega
    have h3 : (es.length : Int) ≤ 45 := by omega
    have H3 : Hid (es.length ≤ 45) := Hid.intro (by omega)
    have H1 := Hid.intro h1
    have H2 := Hid.intro h2
    clear hbad
    go_enter Try.func10, Try.ntmps10
    go_wp2_with fail
    rw [HW.out, ← HS.out]
    clear h1 h2 h3 hlen'
    rename_i hcond K0 hK0
    clear hcond
    go_loopw [23] (fun iv wr => ∃ k : Nat, k ≤ es.length ∧ iv = .int .i64 k ∧ (∀ i x, i < k → es[i]? = some x → edgeC n es i x = 0) ∧ SB wr s 31 #[.int .i64 0, .int .i64 0] ∧ Below w.heap.size w wr) (fun iv _ => es.length - (intOf iv).toNat)
    case atStart => exact ⟨0, by omega, rfl, fun i x hi => by omega, HS0.out, HB0.out⟩
    case round =>
      obtain ⟨k, hk, rfl, hall, hsb, hbw⟩ := hrel
      have HALL := Hid.intro hall
      have HSW := Hid.intro hsb
      have HBW := Hid.intro hbw
      clear hall hsb hbw
      by_cases hlt : k < es.length
      · obtain ⟨f, hf⟩ : ∃ f, es[k]? = some f := ⟨es[k], List.getElem?_eq_getElem hlt⟩
        obtain ⟨fb, off, rfl, hfb, d0, d1⟩ := (HE.out.below HBW.out).cell k f hf
        have HFK := Hid.intro hf
        obtain ⟨V1, hV1⟩ : ∃ V1, wr.alloc (.cells #[.int .i64 f.1, .int .i64 f.2] 29) = V1 := ⟨_, rfl⟩
        have hb1 : Below wr.heap.size wr V1 := by rw [← hV1]; exact (Below.refl _ _).alloc (Nat.le_refl _) _
        have HBV1 := Hid.intro (HBW.out.trans (hb1.mono HBW.out.size))
        have HS1 := Hid.intro (HSW.out.below hb1 HSW.out.lt)
        have HP1 : Hid (SB V1 wr.heap.size 29 #[.int .i64 f.1, .int .i64 f.2]) := Hid.intro (by rw [← hV1]; exact SB.new wr _ _)
        have HV1 := Hid.intro hV1
        have q1 : ((k : Int) < (es.length : Int)) := by omega
        have p0 : V1.cell? ⟨wr.heap.size, 0, none⟩ = some (.int .i64 f.1) := HP1.out.cell 0
        have p1 : V1.cell? ⟨wr.heap.size, 1, none⟩ = some (.int .i64 f.2) := HP1.out.cell 1
        rw [← hV1] at p0 p1
        clear hf hV1 hb1
        by_cases g1 : f.1 < 0
        · skip
          have HCD : Hid (edgeC n es k f = 4) := Hid.intro (by unfold edgeC; rw [if_neg (by omega)])
          go_wp2_with fail
          rw [HV1.out] at *
          have HFX := Hid.intro (ref_F 4 (k : Int) V1)
          go_wp2_with fail
          go_fit HFX.out
          rintro e w9 ⟨rfl, hb9⟩
          have HS9 := Hid.intro (HS1.out.below hb9 HS1.out.lt)
          have HB9 := Hid.intro (HBV1.out.trans (hb9.mono HBV1.out.size))
          have z0 : w9.cell? ⟨s, 0, none⟩ = some (.int .i64 0) := HS9.out.cell 0
          have z1 : w9.cell? ⟨s, 1, none⟩ = some (.int .i64 0) := HS9.out.cell 1
          have f0 : w9.frozen? ⟨s, 0, none⟩ = false := HS9.out.free 0
          have f1 : w9.frozen? ⟨s, 1, none⟩ = false := HS9.out.free 1
          go_wp2
          refine bodyPost_ret (v := .agg #[.int .i64 4, .int .i64 (k : Int)]) (results_cell_row rfl _ _ s 31 #[.int .i64 4, .int .i64 (k : Int)] (0, 0) _ rfl ((HS9.out.set 0 _).set 1 _) Try.underlying31 rfl faultInfo) rfl ?_
          exact ⟨4, (k : Int), rfl, Or.inr ⟨H1.out, H2.out, H3.out, Or.inl ⟨k, f, HFK.out, HALL.out, HCD.out, by decide, rfl⟩⟩, (HB9.out.setCell (by rw [HS.out]; exact Nat.le_refl _) _).setCell (by rw [HS.out]; exact Nat.le_refl _) _⟩
        · by_cases g2 : f.2 < 0
          · skip
            have HCD : Hid (edgeC n es k f = 4) := Hid.intro (by unfold edgeC; rw [if_neg (by omega)])
            go_wp2_with fail
            rw [HV1.out] at *
            have HFX := Hid.intro (ref_F 4 (k : Int) V1)
            go_wp2_with fail
            go_fit HFX.out
            rintro e w9 ⟨rfl, hb9⟩
            have HS9 := Hid.intro (HS1.out.below hb9 HS1.out.lt)
            have HB9 := Hid.intro (HBV1.out.trans (hb9.mono HBV1.out.size))
            have z0 : w9.cell? ⟨s, 0, none⟩ = some (.int .i64 0) := HS9.out.cell 0
            have z1 : w9.cell? ⟨s, 1, none⟩ = some (.int .i64 0) := HS9.out.cell 1
            have f0 : w9.frozen? ⟨s, 0, none⟩ = false := HS9.out.free 0
            have f1 : w9.frozen? ⟨s, 1, none⟩ = false := HS9.out.free 1
            go_wp2
            refine bodyPost_ret (v := .agg #[.int .i64 4, .int .i64 (k : Int)]) (results_cell_row rfl _ _ s 31 #[.int .i64 4, .int .i64 (k : Int)] (0, 0) _ rfl ((HS9.out.set 0 _).set 1 _) Try.underlying31 rfl faultInfo) rfl ?_
            exact ⟨4, (k : Int), rfl, Or.inr ⟨H1.out, H2.out, H3.out, Or.inl ⟨k, f, HFK.out, HALL.out, HCD.out, by decide, rfl⟩⟩, (HB9.out.setCell (by rw [HS.out]; exact Nat.le_refl _) _).setCell (by rw [HS.out]; exact Nat.le_refl _) _⟩
          · by_cases g3 : n ≤ f.1
            · skip
              have HCD : Hid (edgeC n es k f = 4) := Hid.intro (by unfold edgeC; rw [if_neg (by omega)])
              go_wp2_with fail
              rw [HV1.out] at *
              have HFX := Hid.intro (ref_F 4 (k : Int) V1)
              go_wp2_with fail
              go_fit HFX.out
              rintro e w9 ⟨rfl, hb9⟩
              have HS9 := Hid.intro (HS1.out.below hb9 HS1.out.lt)
              have HB9 := Hid.intro (HBV1.out.trans (hb9.mono HBV1.out.size))
              have z0 : w9.cell? ⟨s, 0, none⟩ = some (.int .i64 0) := HS9.out.cell 0
              have z1 : w9.cell? ⟨s, 1, none⟩ = some (.int .i64 0) := HS9.out.cell 1
              have f0 : w9.frozen? ⟨s, 0, none⟩ = false := HS9.out.free 0
              have f1 : w9.frozen? ⟨s, 1, none⟩ = false := HS9.out.free 1
              go_wp2
              refine bodyPost_ret (v := .agg #[.int .i64 4, .int .i64 (k : Int)]) (results_cell_row rfl _ _ s 31 #[.int .i64 4, .int .i64 (k : Int)] (0, 0) _ rfl ((HS9.out.set 0 _).set 1 _) Try.underlying31 rfl faultInfo) rfl ?_
              exact ⟨4, (k : Int), rfl, Or.inr ⟨H1.out, H2.out, H3.out, Or.inl ⟨k, f, HFK.out, HALL.out, HCD.out, by decide, rfl⟩⟩, (HB9.out.setCell (by rw [HS.out]; exact Nat.le_refl _) _).setCell (by rw [HS.out]; exact Nat.le_refl _) _⟩
            · by_cases g4 : n ≤ f.2
              · skip
                have HCD : Hid (edgeC n es k f = 4) := Hid.intro (by unfold edgeC; rw [if_neg (by omega)])
                go_wp2_with fail
                rw [HV1.out] at *
                have HFX := Hid.intro (ref_F 4 (k : Int) V1)
                go_wp2_with fail
                go_fit HFX.out
                rintro e w9 ⟨rfl, hb9⟩
                have HS9 := Hid.intro (HS1.out.below hb9 HS1.out.lt)
                have HB9 := Hid.intro (HBV1.out.trans (hb9.mono HBV1.out.size))
                have z0 : w9.cell? ⟨s, 0, none⟩ = some (.int .i64 0) := HS9.out.cell 0
                have z1 : w9.cell? ⟨s, 1, none⟩ = some (.int .i64 0) := HS9.out.cell 1
                have f0 : w9.frozen? ⟨s, 0, none⟩ = false := HS9.out.free 0
                have f1 : w9.frozen? ⟨s, 1, none⟩ = false := HS9.out.free 1
                go_wp2
                refine bodyPost_ret (v := .agg #[.int .i64 4, .int .i64 (k : Int)]) (results_cell_row rfl _ _ s 31 #[.int .i64 4, .int .i64 (k : Int)] (0, 0) _ rfl ((HS9.out.set 0 _).set 1 _) Try.underlying31 rfl faultInfo) rfl ?_
                exact ⟨4, (k : Int), rfl, Or.inr ⟨H1.out, H2.out, H3.out, Or.inl ⟨k, f, HFK.out, HALL.out, HCD.out, by decide, rfl⟩⟩, (HB9.out.setCell (by rw [HS.out]; exact Nat.le_refl _) _).setCell (by rw [HS.out]; exact Nat.le_refl _) _⟩
              · by_cases g5 : f.1 = f.2
                · have e3 : (f.1 == f.2) = true := by simpa using g5
                  have HCD : Hid (edgeC n es k f = 4) := Hid.intro (by unfold edgeC; rw [if_neg (by omega)])
                  clear g5
                  go_wp2_with fail
                  rw [HV1.out] at *
                  have HFX := Hid.intro (ref_F 4 (k : Int) V1)
                  go_wp2_with fail
                  go_fit HFX.out
                  rintro e w9 ⟨rfl, hb9⟩
                  have HS9 := Hid.intro (HS1.out.below hb9 HS1.out.lt)
                  have HB9 := Hid.intro (HBV1.out.trans (hb9.mono HBV1.out.size))
                  have z0 : w9.cell? ⟨s, 0, none⟩ = some (.int .i64 0) := HS9.out.cell 0
                  have z1 : w9.cell? ⟨s, 1, none⟩ = some (.int .i64 0) := HS9.out.cell 1
                  have f0 : w9.frozen? ⟨s, 0, none⟩ = false := HS9.out.free 0
                  have f1 : w9.frozen? ⟨s, 1, none⟩ = false := HS9.out.free 1
                  go_wp2
                  refine bodyPost_ret (v := .agg #[.int .i64 4, .int .i64 (k : Int)]) (results_cell_row rfl _ _ s 31 #[.int .i64 4, .int .i64 (k : Int)] (0, 0) _ rfl ((HS9.out.set 0 _).set 1 _) Try.underlying31 rfl faultInfo) rfl ?_
                  exact ⟨4, (k : Int), rfl, Or.inr ⟨H1.out, H2.out, H3.out, Or.inl ⟨k, f, HFK.out, HALL.out, HCD.out, by decide, rfl⟩⟩, (HB9.out.setCell (by rw [HS.out]; exact Nat.le_refl _) _).setCell (by rw [HS.out]; exact Nat.le_refl _) _⟩
                · have e3 : (f.1 == f.2) = false := by simpa using g5
                  have HG : Hid ((0 ≤ f.1 ∧ f.1 < n) ∧ (0 ≤ f.2 ∧ f.2 < n) ∧ f.1 ≠ f.2) := Hid.intro (by omega)
                  have hkc : k ≤ cap := by
                    have := HE.out.fit
                    omega
                  clear g5
                  go_wp2_with fail
                  rw [HV1.out] at *
                  clear d0 d1 p0 p1 HV1 g1 g2 g3 g4 e3
                  obtain ⟨eb, heb⟩ : ∃ eb, wr.heap.size = eb := ⟨_, rfl⟩
                  rw [heb] at HP1 ⊢
                  clear heb
                  go_loopw [61] (fun jv wi => ∃ j : Nat, j ≤ k ∧ jv = .int .i64 j ∧ (∀ i x, i < j → es[i]? = some x → ¬ (x = f ∨ (x.1 = f.2 ∧ x.2 = f.1))) ∧ Below V1.heap.size V1 wi) (fun jv _ => k - (intOf jv).toNat)
                  case atStart => exact ⟨0, by omega, rfl, fun i x hi => by omega, Below.refl _ _⟩
                  case round =>
                    obtain ⟨j, hj, rfl, hno, hbi⟩ := hrel
                    have HNO := Hid.intro hno
                    have HBI := Hid.intro hbi
                    have HBX := Hid.intro (HBV1.out.trans (hbi.mono HBV1.out.size))
                    clear hno hbi
                    by_cases hjk : j < k
                    · obtain ⟨o, ho⟩ : ∃ o, es[j]? = some o := ⟨es[j], List.getElem?_eq_getElem (by omega)⟩
                      obtain ⟨fb', off', heq, hfb', c0, c1⟩ := (HE.out.below HBX.out).cell j o ho
                      obtain ⟨rfl, rfl⟩ : fb = fb' ∧ off = off' := by simpa using heq
                      obtain ⟨V2, hV2⟩ : ∃ V2, wr.alloc (.cells #[.int .i64 o.1, .int .i64 o.2] 29) = V2 := ⟨_, rfl⟩
                      have hb2 : Below wr.heap.size wr V2 := by rw [← hV2]; exact (Below.refl _ _).alloc (Nat.le_refl _) _
                      have HB2 := Hid.intro (HBI.out.trans (hb2.mono HBI.out.size))
                      have HBV2 := Hid.intro (HBX.out.trans (hb2.mono HBX.out.size))
                      have HS2 := Hid.intro (HS1.out.below HB2.out HS1.out.lt)
                      have hp2 := HP1.out.below HB2.out HP1.out.lt
                      have ho2 : SB V2 wr.heap.size 29 #[.int .i64 o.1, .int .i64 o.2] := by rw [← hV2]; exact SB.new wr _ _
                      have r0 : V2.cell? ⟨eb, 0, none⟩ = some (.int .i64 f.1) := hp2.cell 0
                      have r1 : V2.cell? ⟨eb, 1, none⟩ = some (.int .i64 f.2) := hp2.cell 1
                      have t0 : V2.cell? ⟨wr.heap.size, 0, none⟩ = some (.int .i64 o.1) := ho2.cell 0
                      have t1 : V2.cell? ⟨wr.heap.size, 1, none⟩ = some (.int .i64 o.2) := ho2.cell 1
                      have q2 : ((j : Int) < (k : Int)) := by omega
                      have HJ := Hid.intro ho
                      have HV2 := Hid.intro hV2
                      have heqp : (Op.equalIn 10000 29 (.agg #[.int .i64 o.1, .int .i64 o.2]) (.agg #[.int .i64 f.1, .int .i64 f.2])).run Try.prog V2 = .ok (decide (o = f)) V2 := run_equalIn_pair 9998 o f V2
                      rw [← hV2] at r0 r1 t0 t1 heqp
                      clear ho heq hV2 hb2 hp2 ho2
                      by_cases x1 : o = f
                      · rw [decide_eq_true x1] at heqp
                        have HX := Hid.intro (Or.inl x1 : o = f ∨ (o.1 = f.2 ∧ o.2 = f.1))
                        clear x1
                        have HCD : Hid (edgeC n es k f = 7) := Hid.intro (by
                          unfold edgeC
                          rw [if_pos HG.out, if_pos ((lesser_mem _ _).2 ⟨o, List.mem_of_getElem? (i := j) (by rw [List.getElem?_take_of_lt hjk]; exact HJ.out), HX.out⟩)])
                        go_wp2_with fail
                        rw [HV2.out] at *
                        have HFX := Hid.intro (ref_F 7 (k : Int) V2)
                        go_wp2_with fail
                        go_fit HFX.out
                        rintro e w9 ⟨rfl, hb9⟩
                        have HS9 := Hid.intro (HS2.out.below hb9 HS2.out.lt)
                        have HB9 := Hid.intro (HBV2.out.trans (hb9.mono HBV2.out.size))
                        have z0 : w9.cell? ⟨s, 0, none⟩ = some (.int .i64 0) := HS9.out.cell 0
                        have z1 : w9.cell? ⟨s, 1, none⟩ = some (.int .i64 0) := HS9.out.cell 1
                        have f0 : w9.frozen? ⟨s, 0, none⟩ = false := HS9.out.free 0
                        have f1 : w9.frozen? ⟨s, 1, none⟩ = false := HS9.out.free 1
                        go_wp2
                        refine bodyPost_ret (v := .agg #[.int .i64 7, .int .i64 (k : Int)]) (results_cell_row rfl _ _ s 31 #[.int .i64 7, .int .i64 (k : Int)] (0, 0) _ rfl ((HS9.out.set 0 _).set 1 _) Try.underlying31 rfl faultInfo) rfl ?_
                        exact ⟨7, (k : Int), rfl, Or.inr ⟨H1.out, H2.out, H3.out, Or.inl ⟨k, f, HFK.out, HALL.out, HCD.out, by decide, rfl⟩⟩, (HB9.out.setCell (by rw [HS.out]; exact Nat.le_refl _) _).setCell (by rw [HS.out]; exact Nat.le_refl _) _⟩
                      · rw [decide_eq_false x1] at heqp
                        by_cases x2 : o.1 = f.2
                        · have y2 : (o.1 == f.2) = true := by simpa using x2
                          by_cases x3 : o.2 = f.1
                          · have y3 : (o.2 == f.1) = true := by simpa using x3
                            have HX := Hid.intro (Or.inr ⟨x2, x3⟩ : o = f ∨ (o.1 = f.2 ∧ o.2 = f.1))
                            clear x1 x2 x3
                            have HCD : Hid (edgeC n es k f = 7) := Hid.intro (by
                              unfold edgeC
                              rw [if_pos HG.out, if_pos ((lesser_mem _ _).2 ⟨o, List.mem_of_getElem? (i := j) (by rw [List.getElem?_take_of_lt hjk]; exact HJ.out), HX.out⟩)])
                            go_wp2_with fail
                            rw [HV2.out] at *
                            have HFX := Hid.intro (ref_F 7 (k : Int) V2)
                            go_wp2_with fail
                            go_fit HFX.out
                            rintro e w9 ⟨rfl, hb9⟩
                            have HS9 := Hid.intro (HS2.out.below hb9 HS2.out.lt)
                            have HB9 := Hid.intro (HBV2.out.trans (hb9.mono HBV2.out.size))
                            have z0 : w9.cell? ⟨s, 0, none⟩ = some (.int .i64 0) := HS9.out.cell 0
                            have z1 : w9.cell? ⟨s, 1, none⟩ = some (.int .i64 0) := HS9.out.cell 1
                            have f0 : w9.frozen? ⟨s, 0, none⟩ = false := HS9.out.free 0
                            have f1 : w9.frozen? ⟨s, 1, none⟩ = false := HS9.out.free 1
                            go_wp2
                            refine bodyPost_ret (v := .agg #[.int .i64 7, .int .i64 (k : Int)]) (results_cell_row rfl _ _ s 31 #[.int .i64 7, .int .i64 (k : Int)] (0, 0) _ rfl ((HS9.out.set 0 _).set 1 _) Try.underlying31 rfl faultInfo) rfl ?_
                            exact ⟨7, (k : Int), rfl, Or.inr ⟨H1.out, H2.out, H3.out, Or.inl ⟨k, f, HFK.out, HALL.out, HCD.out, by decide, rfl⟩⟩, (HB9.out.setCell (by rw [HS.out]; exact Nat.le_refl _) _).setCell (by rw [HS.out]; exact Nat.le_refl _) _⟩
                          · have y3 : (o.2 == f.1) = false := by simpa using x3
                            have HX : Hid (¬ (o = f ∨ (o.1 = f.2 ∧ o.2 = f.1))) := Hid.intro (fun h => h.elim x1 (fun h => x3 h.2))
                            clear x1 x2 x3
                            have hl45 : es.length ≤ 45 := H3.out
                            go_wp2
                            go_roundw
                            case rel =>
                              rw [HV2.out]
                              refine ⟨j + 1, by omega, by go_num, ?_, HB2.out⟩
                              intro i x hi hx
                              rcases Nat.lt_or_ge i j with h | h
                              · exact HNO.out i x h hx
                              · obtain rfl : i = j := by omega
                                obtain rfl := Option.some.inj (HJ.out.symm.trans hx)
                                exact HX.out
                            case measure => simp [intOf]; omega
                        · have y2 : (o.1 == f.2) = false := by simpa using x2
                          have HX : Hid (¬ (o = f ∨ (o.1 = f.2 ∧ o.2 = f.1))) := Hid.intro (fun h => h.elim x1 (fun h => x2 h.1))
                          clear x1 x2
                          have hl45 : es.length ≤ 45 := H3.out
                          go_wp2
                          go_roundw
                          case rel =>
                            rw [HV2.out]
                            refine ⟨j + 1, by omega, by go_num, ?_, HB2.out⟩
                            intro i x hi hx
                            rcases Nat.lt_or_ge i j with h | h
                            · exact HNO.out i x h hx
                            · obtain rfl : i = j := by omega
                              obtain rfl := Option.some.inj (HJ.out.symm.trans hx)
                              exact HX.out
                          case measure => simp [intOf]; omega
                    · obtain rfl : j = k := by omega
                      have HCD : Hid (edgeC n es j f = 0) := Hid.intro (by
                        unfold edgeC
                        rw [if_pos HG.out, if_neg]
                        intro hm
                        obtain ⟨o, h1, h2⟩ := (lesser_mem _ _).1 hm
                        obtain ⟨i, hi⟩ := List.getElem?_of_mem h1
                        rw [List.getElem?_take] at hi
                        split at hi
                        · rename_i hij
                          exact HNO.out i o hij hi h2
                        · cases hi)
                      have HSX := Hid.intro (HS1.out.below HBI.out HS1.out.lt)
                      have hl45 : es.length ≤ 45 := H3.out
                      go_wp2
                      go_roundw
                      case rel =>
                        refine ⟨j + 1, by omega, by go_num, ?_, HSX.out, HBX.out⟩
                        intro i x hi hx
                        rcases Nat.lt_or_ge i j with h | h
                        · exact HALL.out i x h hx
                        · obtain rfl : i = j := by omega
                          obtain rfl := Option.some.inj (HFK.out.symm.trans hx)
                          exact HCD.out
                      case measure => simp [intOf]; omega
      · obtain rfl : k = es.length := by omega
        have z0 : wr.cell? ⟨s, 0, none⟩ = some (.int .i64 0) := HSW.out.cell 0
        have z1 : wr.cell? ⟨s, 1, none⟩ = some (.int .i64 0) := HSW.out.cell 1
        have f0 : wr.frozen? ⟨s, 0, none⟩ = false := HSW.out.free 0
        have f1 : wr.frozen? ⟨s, 1, none⟩ = false := HSW.out.free 1
        go_wp2
        refine bodyPost_ret (v := .agg #[.int .i64 0, .int .i64 0]) (results_cell_row rfl _ _ s 31 #[.int .i64 0, .int .i64 0] (0, 0) _ rfl ((HSW.out.set 0 _).set 1 _) Try.underlying31 rfl faultInfo) rfl ?_
        exact ⟨0, 0, rfl, Or.inr ⟨H1.out, H2.out, H3.out, Or.inr ⟨fun i x hx => HALL.out i x (List.getElem?_eq_some_iff.1 hx).1 hx, rfl, rfl⟩⟩, (HBW.out.setCell (by rw [HS.out]; exact Nat.le_refl _) _).setCell (by rw [HS.out]; exact Nat.le_refl _) _⟩
end Go.Proofs.Ytgnmjaponiclhaa
