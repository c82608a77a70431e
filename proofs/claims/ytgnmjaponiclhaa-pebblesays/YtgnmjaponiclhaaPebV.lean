/- package pebble: Over. -/
import Derived.Test.YtgnmjaponiclhaaPebO
namespace Go.Proofs.Ytgnmjaponiclhaa
open Go.RowKit Go.MapKept
set_option linter.unusedVariables false
set_option linter.unusedSimpArgs false

def OverSays (n : Int) (es : List (Int × Int)) (w w' : World) (e : Ending) : Prop :=
  ∃ c at_ v, e = .returned (.tuple #[v, .agg #[.int .i64 c, .int .i64 at_]]) ∧ ChkSays n es c at_ ∧ Below w.heap.size w w' ∧
    ((c ≠ 0 ∧ v = .slice none 0 0) ∨ (c = 0 ∧ ∃ lo la, BRow w' w.heap.size v lo ∧ lo.length = es.length ∧ RunR n.toNat (es.map toE).reverse la ∧ ∀ i q, lo[i]? = some q → ∃ li, RunR n.toNat ((es.eraseIdx i).map toE).reverse li ∧ q = decide (li.countP id = la.countP id)))
theorem ERow.src {w : World} {A : Addr} {cap : Nat} {es : List (Int × Int)} (h : ERow w (some A) cap es) : ESrc w A es := fun j u hj => by
  have hjl := (List.getElem?_eq_some_iff.1 hj).1
  rw [eFlat_len] at hjl
  obtain ⟨e, hee⟩ : ∃ e, es[j / 2]? = some e := ⟨es[j / 2]'(by omega), List.getElem?_eq_getElem (by omega)⟩
  obtain ⟨b, off, h1, h2, h3, h4⟩ := h.cell (j / 2) e hee
  obtain ⟨k1, k2⟩ := eFlat_at es (j / 2) e hee
  injection h1 with h1
  rw [h1, add_at]
  rcases (by omega : j = j / 2 * 2 ∨ j = j / 2 * 2 + 1) with e1 | e1
  · rw [← e1] at k1 h3
    rw [k1] at hj
    rw [h3, hj]
  · rw [← e1] at k2
    rw [show off + j = off + j / 2 * 2 + 1 by omega, h4]
    rw [k2] at hj
    exact hj
theorem eFlat_take (es : List (Int × Int)) (i j : Nat) (u : Value) (h : ((es.take i).flatMap eCells)[j]? = some u) : (es.flatMap eCells)[j]? = some u := by
  have := List.take_append_drop i es
  rw [← this, List.flatMap_append, List.getElem?_append_left (List.getElem?_eq_some_iff.1 h).1]
  exact h
theorem eFlat_drop (es : List (Int × Int)) (i j : Nat) (hi : i ≤ es.length) (u : Value) (h : ((es.drop i).flatMap eCells)[j]? = some u) : (es.flatMap eCells)[i * 2 + j]? = some u := by
  have := List.take_append_drop i es
  rw [← this, List.flatMap_append, List.getElem?_append_right (by rw [eFlat_len, List.length_take]; omega), eFlat_len, List.length_take, Nat.min_eq_left hi, show i * 2 + j - i * 2 = j by omega]
  exact h
set_option maxRecDepth 100000 in
set_option maxHeartbeats 4000000 in
theorem peb_Over (n : Int) (a : Option Addr) (cap : Nat) (es : List (Int × Int)) (w : World) (he : ERow w a cap es) (hlen : es.length ≤ maxLen) :
    Calls Try.prog 13 #[.int .i64 n, .slice a es.length cap] w fun e w' => OverSays n es w w' e := by
  have HCK : Hid (∀ v, Below w.heap.size w v → Calls Try.prog 14 #[.int .i64 n, .slice a es.length cap] v fun e w' => ∃ c at_, e = .returned (.agg #[.int .i64 c, .int .i64 at_]) ∧ ChkSays n es c at_ ∧ Below v.heap.size v w') := Hid.intro (fun v hv => peb_Check n a cap es v (he.below hv) hlen)
  have HE := Hid.intro he
  obtain ⟨W, hW⟩ : ∃ W, w.alloc (.cells #[.int .i64 0, .int .i64 0] 31) = W := ⟨_, rfl⟩
  have HB0 : Hid (Below w.heap.size w W) := Hid.intro (by rw [← hW]; exact (Below.refl _ _).alloc (Nat.le_refl _) _)
  have HS0 : Hid (SB W w.heap.size 31 #[.int .i64 0, .int .i64 0]) := Hid.intro (by rw [← hW]; exact SB.new w _ _)
  have HW := Hid.intro hW
  clear he hlen hW
  go_enter Try.func13, Try.ntmps13
  go_wp2_with fail
  rw [HW.out]
  obtain ⟨s, hs⟩ : ∃ s, w.heap.size = s := ⟨_, rfl⟩
  rw [hs] at HS0 ⊢
  have HS := Hid.intro hs
  clear hs
  go_fit (HCK.out W HB0.out)
  rintro e w1 ⟨c, at_, rfl, hck, hb1⟩
  obtain ⟨V, hV⟩ : ∃ V, w1.alloc (.cells #[.int .i64 c, .int .i64 at_] 31) = V := ⟨_, rfl⟩
  have hb2 : Below W.heap.size W V := by rw [← hV]; exact hb1.alloc hb1.size _
  have HB2 := Hid.intro (HB0.out.trans (hb2.mono HB0.out.size))
  have HS2 := Hid.intro (HS0.out.below hb2 HS0.out.lt)
  have hp2 : SB V w1.heap.size 31 #[.int .i64 c, .int .i64 at_] := by rw [← hV]; exact SB.new w1 _ _
  have HP2 := Hid.intro hp2
  have p0 : V.cell? ⟨w1.heap.size, 0, none⟩ = some (.int .i64 c) := hp2.cell 0
  have p1 : V.cell? ⟨w1.heap.size, 1, none⟩ = some (.int .i64 at_) := hp2.cell 1
  have HCH := Hid.intro hck
  have HV := Hid.intro hV
  rw [← hV] at p0 p1
  clear hck hb1 hV hb2 hp2
  by_cases hc : c = 0
  · subst hc
    obtain rfl := Chk_at HCH.out
    obtain ⟨m, rfl, hm1, hm2, hl45, hgood, hec⟩ := Chk_good HCH.out
    have HG := Hid.intro hgood
    have HCF := Hid.intro (peb_count m hm2 a cap es V (HE.out.below HB2.out) hgood hl45)
    clear hgood hec
    go_wp2_with fail
    rw [HV.out]
    go_fit HCF.out
    rintro e w2 ⟨la, rfl, hrla, hb3⟩
    obtain ⟨x, hx⟩ : ∃ x, la.countP id = x := ⟨_, rfl⟩
    rw [hx]
    have HX := Hid.intro hx
    have HRLA := Hid.intro hrla
    have HB3 := Hid.intro hb3
    clear hrla hb3 p0 p1 hx
    go_wp2_with fail
    go_loopw [23, 8] (fun iv lv wr => ∃ (k : Nat) (lo : List Bool), k ≤ es.length ∧ iv = .int .i64 k ∧ lo.length = k ∧ BRow wr V.heap.size lv lo ∧ Below V.heap.size V wr ∧ ∀ i q, lo[i]? = some q → ∃ li, RunR m ((es.eraseIdx i).map toE).reverse li ∧ q = decide (li.countP id = x)) (fun iv _ _ => es.length - (intOf iv).toNat)
    case atStart => exact ⟨0, [], by omega, rfl, rfl, BRow.nil _ _, HB3.out, fun i q hi => by simp at hi⟩
    case round =>
      obtain ⟨k, lo, hk, rfl, hll, hbr, hbw, hall⟩ := hrel
      have HBW := Hid.intro hbw
      have HBR := Hid.intro hbr
      have HLL := Hid.intro hll
      have HALL := Hid.intro hall
      clear hbw hbr hll hall
      by_cases hlt : k < es.length
      · obtain ⟨f, hf⟩ : ∃ f, es[k]? = some f := ⟨es[k], List.getElem?_eq_getElem hlt⟩
        have hew := (HE.out.below HB2.out).below HBW.out
        have hfit := hew.fit
        obtain ⟨fb, off, rfl, hfb, d0, d1⟩ := hew.cell k f hf
        obtain ⟨A2, hA2, hsrc2⟩ : ∃ A2 : Addr, (if cap = k + 1 then some (⟨fb, off, none⟩ : Addr) else some ⟨fb, off + (k + 1) * 2, none⟩) = some A2 ∧ Hid (ESrc wr A2 (es.drop (k + 1))) := by
          by_cases hh : cap = k + 1
          · refine ⟨⟨fb, off, none⟩, by simp [hh], Hid.intro fun j u hj => ?_⟩
            have := (List.getElem?_eq_some_iff.1 hj).1
            rw [eFlat_len, List.length_drop] at this
            omega
          · refine ⟨⟨fb, off + (k + 1) * 2, none⟩, by simp [hh], Hid.intro fun j u hj => ?_⟩
            have := hew.src _ u (eFlat_drop es (k + 1) j (by omega) u hj)
            rw [add_at] at this ⊢
            rw [show off + (k + 1) * 2 + j = off + ((k + 1) * 2 + j) by omega]
            exact this
        have hsrc1 : ESrc wr ⟨fb, off, none⟩ (es.take k) := fun j u hj => hew.src j u (eFlat_take es k j u hj)
        obtain ⟨j, hj⟩ : ∃ j : Nat, k + 1 = j := ⟨_, rfl⟩
        rw [hj] at hA2 hsrc2
        have hel : (es.drop j).length = es.length - j := by rw [List.length_drop]
        have hek : (es.take k).length = k := by rw [List.length_take]; omega
        obtain ⟨X, hX⟩ : ∃ X, (wr.alloc (.cells #[.slice (some ⟨fb, off, none⟩) k cap, .slice (some A2) (es.length - j) (cap - j)] 27)).drew = X := ⟨_, rfl⟩
        have hbX : Below wr.heap.size wr X := by rw [← hX]; exact ((Below.refl _ _).alloc (Nat.le_refl _) _).drew
        have hsX : SB X wr.heap.size 27 #[.slice (some ⟨fb, off, none⟩) (es.take k).length cap, .slice (some A2) (es.drop j).length (cap - j)] := by rw [← hX, hel, hek]; exact SB.new wr _ _
        have HCC := Hid.intro (sl_Concat wr.heap.size ⟨fb, off, none⟩ A2 cap (cap - j) (es.take k) (es.drop j) X hsX (hsrc1.below hbX) (hsrc2.out.below hbX) (by rw [hel, hek]; omega))
        have HBX := Hid.intro hbX
        have HXE := Hid.intro hX
        have t2 : IntKind.i64.wrap ((k : Int) + 1) = (j : Int) := by
          rw [show ((k : Int) + 1) = (j : Int) by omega]
          simp [IntKind.wrap, IntKind.signed, IntKind.bits]
          omega
        have q1 : ((k : Int) < (es.length : Int)) := by omega
        have g1 : k ≤ cap := by omega
        have g2 : j ≤ es.length := by omega
        have g3 : j ≤ cap := by omega
        have HJ := Hid.intro hj
        clear hf hew d0 d1 hsrc1 hel hek hX hbX hsX hj hsrc2
        go_wp2_with fail
        go_region_with (first | (go_at_call 27; rw [HXE.out]; refine Calls.mono HCC.out ?_; rintro e w4 ⟨v4, rfl, ho4, hb4⟩) | fail)
        have hers : es.take k ++ es.drop j = es.eraseIdx k := by rw [← HJ.out, List.eraseIdx_eq_take_drop_succ]
        rw [hers] at ho4
        obtain ⟨a5, c5, rfl, hr5, _⟩ := ho4.row
        have hsub : ∀ e ∈ es.eraseIdx k, e ∈ es := fun e he => (List.eraseIdx_sublist _ _).subset he
        have hlen5 : (es.eraseIdx k).length ≤ es.length := List.length_eraseIdx_le _ _
        have HCT := Hid.intro (peb_count m hm2 a5 c5 (es.eraseIdx k) w4 hr5 (fun e he => HG.out e (hsub e he)) (Nat.le_trans hlen5 hl45))
        have hbw4 : Below wr.heap.size wr w4 := HBX.out.trans (hb4.mono HBX.out.size)
        have HBW4 := Hid.intro hbw4
        clear ho4 hb4 hers hr5 hsub hlen5 hbw4
        go_wp2_with fail
        go_fit HCT.out
        rintro e w5 ⟨li, rfl, hrli, hb5⟩
        obtain ⟨y, hy⟩ : ∃ y, li.countP id = y := ⟨_, rfl⟩
        rw [hy]
        obtain ⟨r, hr⟩ : ∃ r, decide (y = x) = r := ⟨_, rfl⟩
        have e5 : ((y : Int) == (x : Int)) = r := by
          rw [← hr]
          by_cases h : y = x
          · simp [h]
          · simp [h]
            omega
        have hb45 := HBW4.out.trans (hb5.mono HBW4.out.size)
        have hbV5 := HBW.out.trans (hb45.mono HBW.out.size)
        obtain ⟨X5, hX5⟩ : ∃ X5, w5.alloc (.cells #[.bool r] 4) = X5 := ⟨_, rfl⟩
        have hrX : BRow X5 V.heap.size u8 lo := by rw [← hX5]; exact (HBR.out.below hb45).alloc _
        have hbX5 : Below V.heap.size V X5 := by rw [← hX5]; exact hbV5.alloc hbV5.size _
        have hcX : X5.cell? ⟨w5.heap.size, 0, none⟩ = some (.bool r) := by rw [← hX5]; exact (SB.new w5 4 #[.bool r]).cell 0
        obtain ⟨v6, w6, happ, hr6, hg6⟩ := hrX.app (by rw [HLL.out]; omega) hbX5.size ⟨w5.heap.size, 0, none⟩ r hcX 1
        have HB6 : Hid (Below V.heap.size V w6) := Hid.intro (hbX5.trans ⟨hg6.os, hg6.tape, hg6.output, hg6.size, fun b hb => hg6.block b (by have := hbX5.size; omega) (fun e => by have := (hrX.block e.symm).1; omega)⟩)
        have HR6 := Hid.intro hr6
        have HA6 : Hid (∀ i q, (lo ++ [r])[i]? = some q → ∃ li, RunR m ((es.eraseIdx i).map toE).reverse li ∧ q = decide (li.countP id = x)) := Hid.intro (fun i q hi => by
          by_cases hil : i < lo.length
          · rw [List.getElem?_append_left hil] at hi
            exact HALL.out i q hi
          · rw [List.getElem?_append_right (by omega)] at hi
            have h1 := (List.getElem?_eq_some_iff.1 hi).1
            simp at h1
            have h2 : i = k := by have := HLL.out; omega
            subst h2
            have h3 : i - lo.length = 0 := by omega
            rw [h3] at hi
            simp at hi
            exact ⟨li, hrli, by rw [← hi, hy]; exact hr.symm⟩)
        rw [← hX5] at happ
        clear hrli hb5 hy hr hb45 hbV5 hX5 hrX hbX5 hcX hr6 hg6
        go_wp2
        go_roundw
        case rel =>
          have hj := HJ.out
          exact ⟨j, lo ++ [r], by omega, by first | rfl | go_num, by rw [List.length_append, HLL.out]; simp; omega, HR6.out, HB6.out, HA6.out⟩
        case measure =>
          have hj := HJ.out
          simp [intOf]
          omega
      · obtain rfl : k = es.length := by omega
        have hsw := HS2.out.below HBW.out HS2.out.lt
        have HSW := Hid.intro hsw
        have z0 : wr.cell? ⟨s, 0, none⟩ = some (.int .i64 0) := hsw.cell 0
        have z1 : wr.cell? ⟨s, 1, none⟩ = some (.int .i64 0) := hsw.cell 1
        have f0 : wr.frozen? ⟨s, 0, none⟩ = false := hsw.free 0
        have f1 : wr.frozen? ⟨s, 1, none⟩ = false := hsw.free 1
        clear hsw
        go_wp2
        refine bodyPost_ret (results_two_cell rfl _ _ s 31 #[.int .i64 0, .int .i64 0] (0, 0) _ rfl ((HSW.out.set 0 _).set 1 _) Try.underlying31 rfl faultInfo) rfl ?_
        have hbf := HB2.out.trans (HBW.out.mono HB2.out.size)
        refine ⟨0, 0, u8, rfl, HCH.out, (hbf.setCell (by rw [HS.out]; exact Nat.le_refl _) _).setCell (by rw [HS.out]; exact Nat.le_refl _) _, Or.inr ⟨rfl, lo, la, ?_, HLL.out, ?_, fun i q hi => ?_⟩⟩
        · refine (BRow.mono (B' := w.heap.size) HBR.out HB2.out.size).keep (fun b hb => ?_)
          have := (HBR.out.block hb).1
          have hsl := HS2.out.lt
          have hbs : b ≠ s := by omega
          rw [Below.heap_setCell _ _ _ _ hbs, Below.heap_setCell _ _ _ _ hbs]
        · rw [Int.toNat_natCast]; exact HRLA.out
        · rw [Int.toNat_natCast, HX.out]
          exact HALL.out i q hi
  · skip
    have z0 : V.cell? ⟨s, 0, none⟩ = some (.int .i64 0) := HS2.out.cell 0
    have z1 : V.cell? ⟨s, 1, none⟩ = some (.int .i64 0) := HS2.out.cell 1
    have f0 : V.frozen? ⟨s, 0, none⟩ = false := HS2.out.free 0
    have f1 : V.frozen? ⟨s, 1, none⟩ = false := HS2.out.free 1
    have e0 : (c != 0) = true := by simpa using hc
    go_wp2_with fail
    rw [HV.out]
    clear p0 p1
    have y0 : V.cell? ⟨w1.heap.size, 0, none⟩ = some (.int .i64 c) := HP2.out.cell 0
    have y1 : V.cell? ⟨w1.heap.size, 1, none⟩ = some (.int .i64 at_) := HP2.out.cell 1
    go_region
    go_wp2
    refine bodyPost_ret (results_two_cell rfl _ _ s 31 #[.int .i64 c, .int .i64 at_] (0, 0) _ rfl ((HS2.out.set 0 _).set 1 _) Try.underlying31 rfl faultInfo) rfl ?_
    exact ⟨c, at_, _, rfl, HCH.out, by refine Below.drew (Below.setCell (Below.setCell HB2.out ?_ _) ?_ _) <;> (rw [HS.out]; exact Nat.le_refl _), Or.inl ⟨hc, rfl⟩⟩
end Go.Proofs.Ytgnmjaponiclhaa
