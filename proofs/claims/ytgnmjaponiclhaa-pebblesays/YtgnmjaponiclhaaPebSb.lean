/- the law PebbleSays, walked. -/
import Derived.Test.YtgnmjaponiclhaaPebSa
import Derived.Test.YtgnmjaponiclhaaPebQ
import Derived.Deep.RegionHeld3
namespace Go.Proofs.Ytgnmjaponiclhaa
open Go.RowKit Go.MapKept
set_option linter.unusedVariables false
set_option linter.unusedSimpArgs false

/-- a fault in a box of its own, and what stays -/
theorem box_facts (w u : World) (hb : Below w.heap.size w u) (c at_ : Int) : Below w.heap.size w (u.alloc (.cells #[.int .i64 c, .int .i64 at_] 31)) ∧ SB (u.alloc (.cells #[.int .i64 c, .int .i64 at_] 31)) u.heap.size 31 #[.int .i64 c, .int .i64 at_] ∧ Below u.heap.size u (u.alloc (.cells #[.int .i64 c, .int .i64 at_] 31)) :=
  ⟨hb.alloc hb.size _, SB.new u _ _, (Below.refl _ _).alloc (Nat.le_refl _) _⟩
abbrev Box4 (v : World) (s2 s3 s4 s5 : Nat) (c at_ : Int) : Prop :=
  SB v s2 31 #[.int .i64 c, .int .i64 at_] ∧ SB v s3 31 #[.int .i64 c, .int .i64 at_] ∧ SB v s4 31 #[.int .i64 c, .int .i64 at_] ∧ SB v s5 31 #[.int .i64 c, .int .i64 at_]
theorem Box4.below {v v' : World} {s2 s3 s4 s5 : Nat} {c at_ : Int} (h : Box4 v s2 s3 s4 s5 c at_) (hb : Below v.heap.size v v') : Box4 v' s2 s3 s4 s5 c at_ :=
  ⟨h.1.below hb h.1.lt, h.2.1.below hb h.2.1.lt, h.2.2.1.below hb h.2.2.1.lt, h.2.2.2.below hb h.2.2.2.lt⟩
set_option maxRecDepth 100000 in
set_option maxHeartbeats 8000000 in
theorem law_Says (n : Int) (a : Option Addr) (cap : Nat) (es : List (Int × Int)) (w : World) (he : ERow w a cap es) (hlen : es.length ≤ 8796093021952) :
    Calls Try.prog 4 #[.int .i64 n, .slice a es.length cap] w fun e w' => e = .returned (.bool true) ∧ Below w.heap.size w w' := by
  have HE := Hid.intro he
  have HL := Hid.intro hlen
  have HLM : Hid (es.length ≤ maxLen) := Hid.intro (by unfold maxLen; omega)
  clear he hlen
  go_enter Try.func4, Try.ntmps4
  go_wp2_with fail
  go_fit (law_plays w)
  rintro e w0 ⟨rfl, hb0⟩
  have HB0 := Hid.intro hb0
  have HLD := Hid.intro (same_lent a cap es (-9, -9) w0 (HE.out.below hb0) HL.out)
  clear hb0
  go_wp2_with fail
  go_fit HLD.out
  rintro e w1 ⟨g, cp, rfl, her, hb1⟩
  have HB1 := Hid.intro (HB0.out.trans (hb1.mono HB0.out.size))
  have HER := Hid.intro her
  have HCG := Hid.intro (ref_CheckGraph n a cap es w1 (HE.out.below HB1.out) HLM.out)
  clear her hb1 HLD
  go_wp2_with fail
  go_fit HCG.out
  rintro e w2 ⟨c, at_, rfl, hck, hb2⟩
  have HCK := Hid.intro hck
  have HB2 := Hid.intro (HB1.out.trans (hb2.mono HB1.out.size))
  have HE2 := Hid.intro (HER.out.below hb2)
  clear hck hb2 HCG HER
  obtain ⟨V2, hV⟩ : ∃ V, w2.alloc (.cells #[.int .i64 c, .int .i64 at_] 31) = V := ⟨_, rfl⟩
  have HBV2 : Hid (Below w.heap.size w V2) := Hid.intro (by rw [← hV]; exact (box_facts w w2 HB2.out c at_).1)
  have HSB2 : Hid (SB V2 w2.heap.size 31 #[.int .i64 c, .int .i64 at_]) := Hid.intro (by rw [← hV]; exact (box_facts w w2 HB2.out c at_).2.1)
  have HS2 : Hid (Below w2.heap.size w2 V2) := Hid.intro (by rw [← hV]; exact (box_facts w w2 HB2.out c at_).2.2)
  have HV := Hid.intro hV
  clear hV
  have HE2' := Hid.intro (HE2.out.below HS2.out)
  have HFR := Hid.intro (free_as HCK.out (some ⟨g, 0, none⟩) cp V2 HE2'.out.front HLM.out)
  go_wp2_with fail
  rw [HV.out]
  clear HV
  go_fit HFR.out
  rintro e w3 ⟨v3, rfl, hb3, hres3⟩
  have HB3 := Hid.intro (HBV2.out.trans (hb3.mono HBV2.out.size))
  have HE3 := Hid.intro (HE2'.out.below hb3)
  have HSB2a := Hid.intro (HSB2.out.below hb3 HSB2.out.lt)
  have HR3 := Hid.intro hres3
  clear hb3 hres3 HFR HE2 HE2' HSB2
  obtain ⟨V3, hV⟩ : ∃ V, w3.alloc (.cells #[.int .i64 c, .int .i64 at_] 31) = V := ⟨_, rfl⟩
  have HBV3 : Hid (Below w.heap.size w V3) := Hid.intro (by rw [← hV]; exact (box_facts w w3 HB3.out c at_).1)
  have HSB3 : Hid (SB V3 w3.heap.size 31 #[.int .i64 c, .int .i64 at_]) := Hid.intro (by rw [← hV]; exact (box_facts w w3 HB3.out c at_).2.1)
  have HS3 : Hid (Below w3.heap.size w3 V3) := Hid.intro (by rw [← hV]; exact (box_facts w w3 HB3.out c at_).2.2)
  have HV := Hid.intro hV
  clear hV
  have HE3' := Hid.intro (HE3.out.below HS3.out)
  have HSB2b := Hid.intro (HSB2a.out.below HS3.out HSB2a.out.lt)
  have HRG := Hid.intro (rigid_as HCK.out (some ⟨g, 0, none⟩) cp V3 HE3'.out.front HLM.out)
  clear HSB2a HE3
  go_wp2_with fail
  rw [HV.out]
  clear HV
  go_fit HRG.out
  rintro e w4 ⟨b4, rfl, hb4, hres4⟩
  have HB4 := Hid.intro (HBV3.out.trans (hb4.mono HBV3.out.size))
  have HE4 := Hid.intro (HE3'.out.below hb4)
  have HSB2c := Hid.intro (HSB2b.out.below hb4 HSB2b.out.lt)
  have HSB3b := Hid.intro (HSB3.out.below hb4 HSB3.out.lt)
  have HR4 := Hid.intro hres4
  have H34 : Hid (Below w3.heap.size w3 w4) := Hid.intro (HS3.out.trans (hb4.mono HS3.out.size))
  clear hb4 hres4 HRG HE3' HSB2b HSB3
  obtain ⟨V4, hV⟩ : ∃ V, w4.alloc (.cells #[.int .i64 c, .int .i64 at_] 31) = V := ⟨_, rfl⟩
  have HBV4 : Hid (Below w.heap.size w V4) := Hid.intro (by rw [← hV]; exact (box_facts w w4 HB4.out c at_).1)
  have HSB4 : Hid (SB V4 w4.heap.size 31 #[.int .i64 c, .int .i64 at_]) := Hid.intro (by rw [← hV]; exact (box_facts w w4 HB4.out c at_).2.1)
  have HS4 : Hid (Below w4.heap.size w4 V4) := Hid.intro (by rw [← hV]; exact (box_facts w w4 HB4.out c at_).2.2)
  have HV := Hid.intro hV
  clear hV
  have HE4' := Hid.intro (HE4.out.below HS4.out)
  have HSB2d := Hid.intro (HSB2c.out.below HS4.out HSB2c.out.lt)
  have HSB3c := Hid.intro (HSB3b.out.below HS4.out HSB3b.out.lt)
  have HOV := Hid.intro (over_as HCK.out (some ⟨g, 0, none⟩) cp V4 HE4'.out.front HLM.out)
  clear HSB2c HSB3b HE4
  go_wp2_with fail
  rw [HV.out]
  clear HV
  go_fit HOV.out
  rintro e w5 ⟨v5, rfl, hb5, hres5⟩
  have HB5 := Hid.intro (HBV4.out.trans (hb5.mono HBV4.out.size))
  have HE5 := Hid.intro (HE4'.out.below hb5)
  have HSB2e := Hid.intro (HSB2d.out.below hb5 HSB2d.out.lt)
  have HSB3d := Hid.intro (HSB3c.out.below hb5 HSB3c.out.lt)
  have HSB4b := Hid.intro (HSB4.out.below hb5 HSB4.out.lt)
  have HR5 := Hid.intro hres5
  have H35 : Hid (Below w3.heap.size w3 w5) := Hid.intro ((H34.out.trans (HS4.out.mono H34.out.size)).trans (hb5.mono (Nat.le_trans H34.out.size HS4.out.size)))
  clear hb5 hres5 HOV HE4' HSB2d HSB3c HSB4 H34
  obtain ⟨V5, hV⟩ : ∃ V, w5.alloc (.cells #[.int .i64 c, .int .i64 at_] 31) = V := ⟨_, rfl⟩
  have HBV5 : Hid (Below w.heap.size w V5) := Hid.intro (by rw [← hV]; exact (box_facts w w5 HB5.out c at_).1)
  have HSB5 : Hid (SB V5 w5.heap.size 31 #[.int .i64 c, .int .i64 at_]) := Hid.intro (by rw [← hV]; exact (box_facts w w5 HB5.out c at_).2.1)
  have HS5 : Hid (Below w5.heap.size w5 V5) := Hid.intro (by rw [← hV]; exact (box_facts w w5 HB5.out c at_).2.2)
  have HV := Hid.intro hV
  clear hV
  have HE5' := Hid.intro (HE5.out.below HS5.out)
  have HB4x := HB4
  clear HB4
  have HB4 : Hid (Box4 V5 w2.heap.size w3.heap.size w4.heap.size w5.heap.size c at_) := Hid.intro ⟨HSB2e.out.below HS5.out HSB2e.out.lt, HSB3d.out.below HS5.out HSB3d.out.lt, HSB4b.out.below HS5.out HSB4b.out.lt, HSB5.out⟩
  have H3V : Hid (Below w3.heap.size w3 V5) := Hid.intro (H35.out.trans (HS5.out.mono H35.out.size))
  have HCKC : Hid (∀ v, Below V5.heap.size V5 v → Calls Try.prog 14 #[.int .i64 n, .slice (some ⟨g, 0, none⟩) es.length cp] v fun e w' => e = .returned (.agg #[.int .i64 c, .int .i64 at_]) ∧ Below v.heap.size v w') := Hid.intro (fun v hv => check_as HCK.out (some ⟨g, 0, none⟩) cp v (HE5'.out.below hv).front HLM.out)
  have HSTL : Hid (∀ v, Below V5.heap.size V5 v → Calls Try.prog 15 #[.slice (some ⟨g, 0, none⟩) es.length cp, .slice a es.length cap, .agg #[.int .i64 (-9), .int .i64 (-9)]] v fun e w' => e = .returned (.bool true) ∧ Below v.heap.size v w') := Hid.intro (fun v hv => same_Still g 0 cp a cap es (-9, -9) v (HE5'.out.below hv) (HE.out.below (HBV5.out.trans (hv.mono HBV5.out.size))) HL.out)
  clear HSB2e HSB3d HSB4b HSB5 HE5 HE5' H35
  go_wp2_with fail
  rw [HV.out]
  clear HV
  generalize h2 : w2.heap.size = s2
  generalize h3 : w3.heap.size = s3
  generalize h4 : w4.heap.size = s4
  generalize h5 : w5.heap.size = s5
  have HH : Hid (w2.heap.size = s2 ∧ w3.heap.size = s3 ∧ w4.heap.size = s4 ∧ w5.heap.size = s5) := Hid.intro ⟨h2, h3, h4, h5⟩
  rw [h2, h3, h4, h5] at HB4
  clear h2 h3 h4 h5
  have HBN : Hid (Below V5.heap.size V5 V5) := Hid.intro (Below.refl _ _)
  have k4 := HB4.out.below HBN.out
  have x0 := k4.1.cell 0
  have x1 := k4.1.cell 1
  have x2 := k4.2.1.cell 0
  have x3 := k4.2.1.cell 1
  have x4 := k4.2.2.1.cell 0
  have x5 := k4.2.2.1.cell 1
  have x6 := k4.2.2.2.cell 0
  have x7 := k4.2.2.2.cell 1
  clear k4
  go_region_held3 (fun v => v.cell? ⟨s2, 0, none⟩ = some (.int .i64 c) ∧ v.cell? ⟨s2, 1, none⟩ = some (.int .i64 at_) ∧ v.cell? ⟨s3, 0, none⟩ = some (.int .i64 c) ∧ v.cell? ⟨s3, 1, none⟩ = some (.int .i64 at_) ∧ v.cell? ⟨s4, 0, none⟩ = some (.int .i64 c) ∧ v.cell? ⟨s4, 1, none⟩ = some (.int .i64 at_) ∧ v.cell? ⟨s5, 0, none⟩ = some (.int .i64 c) ∧ v.cell? ⟨s5, 1, none⟩ = some (.int .i64 at_)) ((first | (simp [*]; done) | go_keep)) (first
    | (go_at_call 14
       apply Calls.mono
       apply HCKC.out
       (first | exact HBN.out | exact HBN.out.drew)
       rintro e wn ⟨rfl, hbn⟩
       have HBM : Hid (Below V5.heap.size V5 wn) := Hid.intro ((by first | exact HBN.out | exact HBN.out.drew : Below V5.heap.size V5 _).trans (hbn.mono (by first | exact HBN.out.size | exact HBN.out.drew.size)))
       clear HBN hbn x0 x1 x2 x3 x4 x5 x6 x7
       have HBN := HBM
       clear HBM
       have k4 := HB4.out.below HBN.out
       have x0 := k4.1.cell 0
       have x1 := k4.1.cell 1
       have x2 := k4.2.1.cell 0
       have x3 := k4.2.1.cell 1
       have x4 := k4.2.2.1.cell 0
       have x5 := k4.2.2.1.cell 1
       have x6 := k4.2.2.2.cell 0
       have x7 := k4.2.2.2.cell 1
       clear k4
       skip)
    | (go_at_call 15
       apply Calls.mono
       apply HSTL.out
       (first | exact HBN.out | exact HBN.out.drew)
       rintro e wn ⟨rfl, hbn⟩
       have HBM : Hid (Below V5.heap.size V5 wn) := Hid.intro ((by first | exact HBN.out | exact HBN.out.drew : Below V5.heap.size V5 _).trans (hbn.mono (by first | exact HBN.out.size | exact HBN.out.drew.size)))
       clear HBN hbn x0 x1 x2 x3 x4 x5 x6 x7
       have HBN := HBM
       clear HBM
       have k4 := HB4.out.below HBN.out
       have x0 := k4.1.cell 0
       have x1 := k4.1.cell 1
       have x2 := k4.2.1.cell 0
       have x3 := k4.2.1.cell 1
       have x4 := k4.2.2.1.cell 0
       have x5 := k4.2.2.1.cell 1
       have x6 := k4.2.2.2.cell 0
       have x7 := k4.2.2.2.cell 1
       clear k4
       skip)
    | fail)
  clear HCKC HSTL x1 x2 x3 x4 x5 x6 x7 HB4
  have HBZ : Hid (Below w.heap.size w wn) := Hid.intro (HBV5.out.trans (HBN.out.mono HBV5.out.size))
  rcases HR3.out with ⟨hc, rfl⟩ | ⟨rfl, l, hbl, hrun⟩
  · obtain ⟨_, rfl⟩ := HR4.out.resolve_right (fun h => hc h.1)
    obtain ⟨_, rfl⟩ := HR5.out.resolve_right (fun h => hc h.1)
    have e0 : (c != 0) = true := by simpa using hc
    clear HR3 HR4 HR5 hc
    go_wp2
    go_ret
    exact ⟨rfl, HBZ.out⟩
  · obtain rfl := Chk_at HCK.out
    obtain ⟨m, rfl, hm1, hm2, hl45, hgood, hec⟩ := Chk_good HCK.out
    rw [Int.toNat_natCast] at hrun
    have HLL : Hid (l.length = es.length) := Hid.intro (by
      have := (kept_facts (by rw [← revE_all]; exact hgood.graph _) hrun).2.2.2.2.1
      simpa using this)
    have HB4r : Hid (b4 = decide (l.countP id = if m = 1 then 0 else 2 * m - 3)) := Hid.intro (by
      rcases HR4.out with ⟨h, _⟩ | ⟨_, l4, hr4, hb⟩
      · exact absurd rfl h
      · rw [Int.toNat_natCast] at hr4 hb
        rw [run_one hr4 hrun, List.countP_reverse] at hb
        exact hb)
    obtain ⟨lo, hblo, hlol, hov⟩ : ∃ lo, BLst w5 v5 lo ∧ lo.length = es.length ∧ ∀ i q, lo[i]? = some q → ∃ li, RunR m ((es.eraseIdx i).map toE).reverse li ∧ q = decide (li.countP id = l.countP id) := by
      rcases HR5.out with ⟨h, _⟩ | ⟨_, lo, la, h1, h2, h3, h4⟩
      · exact absurd rfl h
      · rw [Int.toNat_natCast] at h3 h4
        have := run_one h3 hrun
        subst this
        refine ⟨lo, h1, h2, fun i q hi => ?_⟩
        obtain ⟨li, h5, h6⟩ := h4 i q hi
        exact ⟨li, h5, by rw [h6, List.countP_reverse]⟩
    have hblZ : BLst wn v3 l := hbl.below (H3V.out.trans (HBN.out.mono H3V.out.size))
    have hbloZ : BLst wn v5 lo := hblo.below (HS5.out.trans (HBN.out.mono HS5.out.size))
    have HA := Hid.intro hblZ
    have HO := Hid.intro hbloZ
    have HG := Hid.intro hgood
    have HRUN := Hid.intro hrun
    have HLO := Hid.intro hlol
    have HOV := Hid.intro hov
    have HEZ := Hid.intro (HE.out.below HBZ.out)
    have HFO := Hid.intro (want_as hrun hm1 hm2 a cap wn HEZ.out hgood hl45)
    obtain ⟨av, cv, rfl, _⟩ := hblZ
    obtain ⟨ao, co, rfl, _⟩ := hbloZ
    clear HR3 HR4 HR5 hbl hrun hblo hgood hec hov hlol HCK
    go_wp2_with fail
    go_fit HFO.out
    rintro e w6 ⟨v6, rfl, hb6, hbel6⟩
    have HW := Hid.intro hb6
    have HB6 := Hid.intro hbel6
    obtain ⟨a6, c6, rfl, _⟩ := hb6
    have HL45 : Hid (l.length ≤ 45) := Hid.intro (by rw [HLL.out]; exact hl45)
    clear hbel6 HFO x0
    by_cases h7 : 7 < m
    · have q7 : (7 : Int) < (m : Int) := by omega
      have HQ1 := Hid.intro (sl_Equal (.slice av l.length cv) (.slice a6 l.length c6) l w6 (HA.out.below HB6.out) HW.out HL45.out)
      go_wp2_with fail
      go_fit HQ1.out
      rintro e w7 ⟨rfl, hb7⟩
      have HM7 := Hid.intro (ref_Many (.slice a6 l.length c6) l w7 (HW.out.below hb7) HL45.out)
      have HB7 := Hid.intro (HBZ.out.trans ((HB6.out.trans (hb7.mono HB6.out.size)).mono HBZ.out.size))
      clear hb7
      go_wp2_with fail
      go_fit HM7.out
      rintro e w8 ⟨rfl, rfl⟩
      obtain ⟨x, hx⟩ : ∃ x, l.countP id = x := ⟨_, rfl⟩
      have hxb : ((x : Int) == 2 * (m : Int) - 3) = b4 := by
        rw [HB4r.out, hx, if_neg (by omega)]
        by_cases h : x = 2 * m - 3
        · rw [decide_eq_true h]
          simp
          omega
        · rw [decide_eq_false h]
          simp
          omega
      have e9 : ((lo.length : Int) == (es.length : Int)) = true := by
        rw [HLO.out]
        simp
      rw [hx]
      clear hx
      go_wp2
      go_ret
      exact ⟨by simp, HB7.out⟩
    · have q7 : ¬ ((7 : Int) < (m : Int)) := by omega
      go_wp2_with fail
      go_loopw [111, 14] (fun iv ov wi => ∃ k : Nat, k ≤ es.length ∧ iv = .int .i64 k ∧ BRow wi w6.heap.size ov (lo.take k) ∧ Below w6.heap.size w6 wi) (fun iv _ _ => es.length - (intOf iv).toNat)
      case atStart => exact ⟨0, by omega, rfl, BRow.nil _ _, Below.refl _ _⟩
      case round =>
        obtain ⟨k, hk, rfl, hbr, hbw⟩ := hrel
        have HBR := Hid.intro hbr
        have HBW := Hid.intro hbw
        clear hbr hbw
        by_cases hkl : k < es.length
        · obtain ⟨q, hq⟩ : ∃ q, lo[k]? = some q := ⟨lo[k]'(by rw [HLO.out]; exact hkl), List.getElem?_eq_getElem _⟩
          have HFK := Hid.intro (outof_as HOV.out hkl hq hm1 hm2 a cap wr (HEZ.out.below (HB6.out.trans (HBW.out.mono HB6.out.size))) HG.out hl45)
          have HQ := Hid.intro hq
          have q1 : ((k : Int) < (es.length : Int)) := by omega
          clear hq
          go_wp2_with fail
          go_fit HFK.out
          rintro e w9 ⟨v9, lk, rfl, hb9, hlk, hqe, hbel9⟩
          have HM9 := Hid.intro (ref_Many v9 lk w9 hb9 (by omega))
          have HB9 := Hid.intro hbel9
          have hqx : (((lk.countP id : Nat) : Int) == ((l.countP id : Nat) : Int)) = q := by
            rw [hqe]
            by_cases h : lk.countP id = l.countP id
            · rw [h]
              simp
            · rw [decide_eq_false h]
              simp
              omega
          obtain ⟨x9, hx9⟩ : ∃ x9, lk.countP id = x9 := ⟨_, rfl⟩
          obtain ⟨x, hx⟩ : ∃ x, l.countP id = x := ⟨_, rfl⟩
          rw [hx9, hx] at hqx
          rw [hx9] at HM9
          have HMW := Hid.intro (ref_Many (.slice a6 l.length c6) l w9 ((HW.out.below HBW.out).below hbel9) HL45.out)
          rw [hx] at HMW
          obtain ⟨X, hX⟩ : ∃ X, w9.alloc (.cells #[.bool q] 4) = X := ⟨_, rfl⟩
          have hb9X : Below w9.heap.size w9 X := by rw [← hX]; exact (Below.refl _ _).alloc (Nat.le_refl _) _
          have hcX : X.cell? ⟨w9.heap.size, 0, none⟩ = some (.bool q) := by rw [← hX]; exact (SB.new w9 4 #[.bool q]).cell 0
          have hb6X : Below w6.heap.size w6 X := (HBW.out.trans (hbel9.mono HBW.out.size)).trans (hb9X.mono (Nat.le_trans HBW.out.size hbel9.size))
          have hbrX : BRow X w6.heap.size u14 (lo.take k) := (HBR.out.below hbel9).below hb9X
          obtain ⟨v11, w11, happ, hbr11, hg11⟩ := hbrX.app (by rw [List.length_take]; omega) hb6X.size ⟨w9.heap.size, 0, none⟩ q hcX 1
          have HB11 : Hid (Below w6.heap.size w6 w11) := Hid.intro (hb6X.trans ⟨hg11.os, hg11.tape, hg11.output, hg11.size, fun b hb => hg11.block b (by have := hb6X.size; omega) (fun e => by have := (hbrX.block e.symm).1; omega)⟩)
          have HBR11 : Hid (BRow w11 w6.heap.size v11 (lo.take (k + 1))) := Hid.intro (by rw [List.take_add_one, HQ.out]; exact hbr11)
          rw [← hX] at happ
          clear hX hb9X hcX hb6X hbrX hbr11 hg11 hb9 hlk hqe hbel9 hx9 hx
          go_wp2_with fail
          go_fit HM9.out
          rintro e w10 ⟨rfl, rfl⟩
          go_wp2_with fail
          go_fit HMW.out
          rintro e w10 ⟨rfl, rfl⟩
          go_wp2
          go_roundw
          case rel => exact ⟨k + 1, by omega, by go_num, HBR11.out, HB11.out⟩
          case measure => simp [intOf]; omega
        · obtain rfl : k = es.length := by omega
          have hbl' : BLst wr u14 lo := by
            have := HBR.out.lst
            rw [← HLO.out, List.take_length] at this
            exact this
          have HV := Hid.intro hbl'
          obtain ⟨a14, c14, rfl, _⟩ := hbl'
          have HQ1 := Hid.intro (sl_Equal (.slice av l.length cv) (.slice a6 l.length c6) l wr ((HA.out.below HB6.out).below HBW.out) (HW.out.below HBW.out) HL45.out)
          go_wp2_with fail
          go_fit HQ1.out
          rintro e w7 ⟨rfl, hb7⟩
          have HM7 := Hid.intro (ref_Many (.slice a6 l.length c6) l w7 ((HW.out.below HBW.out).below hb7) HL45.out)
          have HQ2 := Hid.intro (sl_Equal (.slice ao lo.length co) (.slice a14 lo.length c14) lo w7 (((HO.out.below HB6.out).below HBW.out).below hb7) (HV.out.below hb7) (by rw [HLO.out]; exact hl45))
          have HB7 := Hid.intro (HBZ.out.trans (((HB6.out.trans (HBW.out.mono HB6.out.size)).trans (hb7.mono (Nat.le_trans HB6.out.size HBW.out.size))).mono HBZ.out.size))
          clear hb7
          go_wp2_with fail
          go_fit HM7.out
          rintro e w8 ⟨rfl, rfl⟩
          obtain ⟨x, hx⟩ : ∃ x, l.countP id = x := ⟨_, rfl⟩
          rw [hx]
          by_cases h1 : m = 1
          · subst h1
            have hxb : b4 = ((x : Int) == 0) := by
              rw [HB4r.out, hx, if_pos rfl]
              by_cases h : x = 0
              · subst h
                decide
              · rw [decide_eq_false h]
                symm
                simp
                omega
            subst hxb
            clear hx
            go_wp2_with fail
            go_fit HQ2.out
            rintro e w8 ⟨rfl, hb8⟩
            have HB8 := Hid.intro (HB7.out.trans (hb8.mono HB7.out.size))
            clear hb8
            go_wp2
            go_ret
            exact ⟨by simp, HB8.out⟩
          · have hxb : b4 = ((x : Int) == 2 * (m : Int) - 3) := by
              rw [HB4r.out, hx, if_neg h1]
              by_cases h : x = 2 * m - 3
              · rw [decide_eq_true h]
                symm
                simp
                omega
              · rw [decide_eq_false h]
                symm
                simp
                omega
            subst hxb
            have q8 : 0 ≤ 2 * (m : Int) - 3 := by omega
            have q9 : ¬ (2 * (m : Int) - 3 < 0) := by omega
            clear hx
            go_wp2_with fail
            go_fit HQ2.out
            rintro e w8 ⟨rfl, hb8⟩
            have HB8 := Hid.intro (HB7.out.trans (hb8.mono HB7.out.size))
            clear hb8
            go_wp2
            go_ret
            exact ⟨by simp, HB8.out⟩
end Go.Proofs.Ytgnmjaponiclhaa
