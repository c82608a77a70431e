/- num's divideStep. num's divideNats, quotientOf. -/
import Derived.Test.YtmgebbnmcgfnjaaGreatDoorC21NatGuess
namespace Go.Proofs.YtmgebbnmcgfnjaaGreatDoor
open Go.RowKit
set_option linter.unusedVariables false
set_option linter.unusedSimpArgs false

theorem below_drewN {B : Nat} {u w : World} (h : Below B u w) (n : Nat) : Below B u (w.drewN n) := ⟨h.os, h.tape, h.output, h.size, h.block⟩

theorem RowDone.trans {w w1 w2 : World} {g off n : Nat} {rs r1 r2 : List Nat} (h : RowDone w w1 g off n rs r1) (k : RowDone w1 w2 g off n r1 r2) : RowDone w w2 g off n rs r2 :=
  ⟨k.blk, k.len.trans h.len, k.small, h.only.trans k.only, fun p hp => (k.out p hp).trans (h.out p hp)⟩
theorem RowDone.more {w w1 : World} {g off n m : Nat} {rs r1 : List Nat} (h : RowDone w w1 g off n rs r1) (hm : n ≤ m) : RowDone w w1 g off m rs r1 :=
  ⟨h.blk, h.len, h.small, h.only, fun p hp => h.out p (by omega)⟩
theorem RowDone.drewN {w w1 : World} {g off n : Nat} {rs r1 : List Nat} (h : RowDone w w1 g off n rs r1) (k : Nat) : RowDone w (w1.drewN k) g off n rs r1 :=
  ⟨h.blk, h.len, h.small, h.only.drewN k, h.out⟩
theorem RowDone.refl {w : World} {g off n : Nat} {rs : List Nat} (h : Blk .u64 209 w g rs) (hs : Small 18446744073709551616 rs) : RowDone w w g off n rs rs := ⟨h, rfl, hs, Only.refl _ _, fun _ _ => rfl⟩

/-- what stands below a place, at it, and above: where nothing above has turned -/
theorem val_at (B : Nat) (rs : List Nat) (p : Nat) (hp : p < rs.length) : val B rs = val B (rs.take p) + B ^ p * rs.getD p 0 + B ^ (p + 1) * val B (rs.drop (p + 1)) := by
  rw [val_split B rs p (by omega), val_drop B rs p hp, Nat.mul_add, ← Nat.mul_assoc, Nat.pow_succ]
  omega

/-- the words from j on of two blocks that are alike below j -/
theorem val_drop_eq {B j x : Nat} {us vs : List Nat} (hB : 0 < B) (hj : j ≤ us.length) (hl : vs.length = us.length) (hbel : ∀ p, p < j → vs.getD p 0 = us.getD p 0) (t : Nat) (h : val B vs + B ^ j * x = val B us + B ^ j * t) : val B (vs.drop j) + x = val B (us.drop j) + t := by
  have e1 : vs.take j = us.take j := by
    apply List.ext_getElem
    · simp [hl]
    · intro i h1 h2
      have hi : i < j := by simp at h1; omega
      have := hbel i hi
      rw [List.getD_eq_getElem?_getD, List.getD_eq_getElem?_getD, List.getElem?_eq_getElem (by simp at h1; omega), List.getElem?_eq_getElem (by simp at h2; omega)] at this
      simp only [List.getElem_take]
      simpa using this
  rw [val_split B vs j (by omega), val_split B us j hj, e1] at h
  have h2 : B ^ j * (val B (vs.drop j) + x) = B ^ j * (val B (us.drop j) + t) := by rw [Nat.mul_add, Nat.mul_add]; omega
  exact Nat.eq_of_mul_eq_mul_left (Nat.pow_pos hB) h2

/-- the highest word laid onto the rest -/
theorem step_start {B e y top lack bo X Y : Nat} {us1 : List Nat} (he : e < us1.length) (hy : us1.getD e 0 = y) (h : val B us1 + X = Y + B ^ e * lack) (ht : top + lack = y + B * bo) : val B (us1.set e top) + X = Y + B ^ (e + 1) * bo := by
  have h1 := val_set_add B us1 e top he
  rw [hy] at h1
  have h2 : B ^ e * (top + lack) = B ^ e * (y + B * bo) := by rw [ht]
  rw [Nat.mul_add, Nat.mul_add, ← Nat.mul_assoc] at h2
  rw [Nat.pow_succ]
  omega
theorem step_next {B e y top c top2 ca bo Dj Y qD : Nat} {us1 us2 : List Nat} (he : e < us1.length) (he2 : e < us2.length) (hy : us1.getD e 0 = y) (hy2 : us2.getD e 0 = y) (h : val B (us1.set e top) + (qD + Dj) = Y + B ^ (e + 1) * (bo + ca)) (ha : val B us2 + B ^ e * c = val B us1 + Dj) (ht : top2 + B * ca = top + c) : val B (us2.set e top2) + qD = Y + B ^ (e + 1) * bo := by
  have h1 := val_set_add B us1 e top he
  have h3 := val_set_add B us2 e top2 he2
  rw [hy] at h1
  rw [hy2] at h3
  have h2 : B ^ e * (top2 + B * ca) = B ^ e * (top + c) := by rw [ht]
  rw [Nat.mul_add, Nat.mul_add, ← Nat.mul_assoc] at h2
  rw [Nat.pow_succ, Nat.mul_add] at h
  rw [Nat.pow_succ]
  omega
theorem step_rem {r q D L : Nat} (hD : 0 < D) (h : r + q * D = L) (hq : L / D ≤ q) : r < D := by
  have h1 : q ≤ L / D := (Nat.le_div_iff_mul_le hD).2 (by omega)
  have h2 := Nat.div_add_mod L D
  have h3 := Nat.mod_lt L hD
  have h4 : L / D = q := by omega
  rw [h4, Nat.mul_comm] at h2
  omega
theorem step_gt {r q D L T : Nat} (hD : 0 < D) (h : r + q * D = L + T) (hr : r < T) : L / D < q := by
  rw [Nat.div_lt_iff_lt_mul hD]
  omega

set_option maxRecDepth 100000 in
set_option maxHeartbeats 4000000 in
theorem num_divideStep (g j n cap N p : Nat) (us : List Nat) (a2 : Option Addr) (c2 : Nat) (m : List Nat) (D : Nat) (w : World) (hB : Blk .u64 209 w g us) (hsm : Small 18446744073709551616 us) (hm : U64 w a2 c2 m D) (hn : m.length = N) (hNn : N = n + 2) (hpn : p = n + 1) (hne : ∀ b o, a2 = some ⟨b, o, none⟩ → b ≠ g)
    (hj : j + N + 1 ≤ us.length) (hz : val 18446744073709551616 (us.drop (j + N + 1)) = 0) (hL : val 18446744073709551616 (us.drop j) < 18446744073709551616 * D) (hcap : N + 1 ≤ cap) :
    Calls Tryz.prog 288 #[.slice (some ⟨g, j, none⟩) (N + 1) cap, .slice a2 N c2] w fun e w' => ∃ (q : Nat) (us' : List Nat), e = .returned (.int .u64 (q : Int)) ∧ q < 18446744073709551616 ∧ RowDone w w' g j (N + 1) us us' ∧ val 18446744073709551616 us' + 18446744073709551616 ^ j * (q * D) = val 18446744073709551616 us ∧ val 18446744073709551616 (us'.drop j) < D := by
  have hms := hm.short
  rw [hn] at hms
  have HB0 := Hid.intro hB
  have HSM := Hid.intro hsm
  have HM := Hid.intro hm
  have HNE := Hid.intro hne
  obtain ⟨b, o, rfl, hb1, hd1⟩ := hm.row.cell p (by omega)
  obtain ⟨b', o', hbb, hb2, hd0⟩ := hm.row.cell n (by omega)
  obtain ⟨rfl, rfl⟩ : b = b' ∧ o = o' := by simpa using hbb
  obtain ⟨x1, hx1⟩ : ∃ x, m.getD p 0 = x := ⟨_, rfl⟩
  obtain ⟨x0, hx0⟩ : ∃ x, m.getD n 0 = x := ⟨_, rfl⟩
  rw [hx1] at hd1
  rw [hx0] at hd0
  obtain ⟨y2, hy2⟩ : ∃ x, us.getD (j + N) 0 = x := ⟨_, rfl⟩
  obtain ⟨y1, hy1⟩ : ∃ x, us.getD (j + p) 0 = x := ⟨_, rfl⟩
  obtain ⟨y0, hy0⟩ : ∃ x, us.getD (j + n) 0 = x := ⟨_, rfl⟩
  have k2 := hB.cell (j + N) (by omega)
  have k1 := hB.cell (j + p) (by omega)
  have k0 := hB.cell (j + n) (by omega)
  rw [hy2] at k2
  rw [hy1] at k1
  rw [hy0] at k0
  have hx1p : 0 < x1 := by
    rcases hm.num.trim with h | h
    · rw [h] at hn; simp at hn; omega
    · rw [hn, hNn, show n + 2 - 1 = p by omega, hx1] at h; omega
  have ht : Tops y2 y1 y0 x1 x0 (18446744073709551616 ^ n) (val 18446744073709551616 ((us.drop j).take n)) (val 18446744073709551616 (m.take n)) (val 18446744073709551616 (us.drop j)) D := by
    refine ⟨Nat.pow_pos (by decide), ?_, ?_, ?_, hx1p, hL, ?_, ?_, ?_, ?_, ?_⟩
    · rw [window 18446744073709551616 us j n (by omega) (by rw [show j + n + 3 = j + N + 1 by omega]; exact hz), show j + n + 2 = j + N by omega, show j + n + 1 = j + p by omega, hy2, hy1, hy0]
    · rw [← hm.num.eq, top_two 18446744073709551616 m n (by omega), ← hpn, hx1, hx0]
    · have := val_lt (B := 18446744073709551616) (by decide) ((hsm.drop j).take n)
      rw [List.length_take, List.length_drop, Nat.min_eq_left (by omega)] at this
      exact this
    · rw [← hy2]; exact hsm.getD (by decide) _
    · rw [← hy1]; exact hsm.getD (by decide) _
    · rw [← hy0]; exact hsm.getD (by decide) _
    · rw [← hx1]; exact hm.num.small.getD (by decide) _
    · rw [← hx0]; exact hm.num.small.getD (by decide) _
  have HT := Hid.intro ht
  have HY2 := Hid.intro hy2
  have HZ := Hid.intro hz
  have HN := Hid.intro hn
  have hy2b := ht.b2
  have w1' : IntKind.i64.wrap ((N : Int) - 1) = (p : Int) := by rw [wrap_i64 _ (by omega) (by omega)]; omega
  have w2' : IntKind.i64.wrap ((N : Int) - 2) = (n : Int) := by rw [wrap_i64 _ (by omega) (by omega)]; omega
  have i0 : (0 : Int) ≤ (N : Int) := by omega
  have i1 : (N : Int) < (N : Int) + 1 := by omega
  have i2 : (0 : Int) ≤ (p : Int) := by omega
  have i3 : (p : Int) < (N : Int) + 1 := by omega
  have i4 : (p : Int) < (N : Int) := by omega
  have i5 : (0 : Int) ≤ (n : Int) := by omega
  have i6 : (n : Int) < (N : Int) + 1 := by omega
  have i7 : (n : Int) < (N : Int) := by omega
  clear hB hsm hm hne ht hx1 hx0 hy2 hy1 hy0 hx1p hz hL hbb hNn hpn hn
  go_enter Tryz.func288, Tryz.ntmps288
  go_wp2_with fail
  go_region_held3 (fun w' => w'.cell? ⟨g, j + N, none⟩ = some (.int .u64 y2) ∧ w'.cell? ⟨g, j + p, none⟩ = some (.int .u64 y1) ∧ w'.cell? ⟨g, j + n, none⟩ = some (.int .u64 y0) ∧ w'.cell? ⟨b, o + p, none⟩ = some (.int .u64 x1) ∧ w'.cell? ⟨b, o + n, none⟩ = some (.int .u64 x0)) ((simp [*])) (first | (go_at_call 306; go_fit (num_guess y2 y1 y0 x1 x0 _ _ _ _ D _ HT.out); rintro e w1 ⟨q, rfl, hq, hqL, n1, hw1⟩; subst hw1))
  have hd0 : 0 < D := HT.out.pos
  have HO1 : Hid (Only g w (w.drewN (1 + n1))) := Hid.intro ((Only.refl g w).drewN _)
  have HB1 : Hid (Blk .u64 209 (w.drewN (1 + n1)) g us) := Hid.intro HB0.out
  have HM1 : Hid (U64 (w.drewN (1 + n1)) (some ⟨b, o, none⟩) c2 m D) := Hid.intro (HM.out.below (below_drewN (Below.refl _ _) _))
  have HQL := Hid.intro hqL
  clear hqL
  go_wp2_with fail
  generalize w.drewN (1 + n1) = W1 at *
  have hC := num_takeMultiple g j cap us (some ⟨b, o, none⟩) c2 m q W1 HB1.out HSM.out HM1.out.row HM1.out.num.small HM1.out.short hq (by have := HN.out; omega) (by have := HN.out; omega) HNE.out
  rw [HN.out, HM.out.num.eq] at hC
  refine hC.mono ?_
  rintro e w2 ⟨lack, us1, rfl, hlb, hdone, hval⟩
  have hlen1 : us1.length = us.length := hdone.len
  have hyy : us1.getD (j + N) 0 = y2 := by rw [hdone.out _ (.inr (Nat.le_refl _))]; exact HY2.out
  have kk := hdone.blk.cell (j + N) (by omega)
  rw [hyy] at kk
  obtain ⟨top, bo, htb, hbb, htl, hcs⟩ := sub64_0 y2 lack hy2b hlb
  have HE := Hid.intro (step_start (by omega) hyy hval htl)
  have HD := Hid.intro (show RowDone w w2 g j N us us1 from ⟨hdone.blk, hdone.len, hdone.small, HO1.out.trans hdone.only, hdone.out⟩)
  clear hC hdone hval hyy htl HM1 HB1 k0 k1 k2 hlen1
  go_wp2_with (simp only [hcs])
  clear kk hcs
  go_loopw [6, 8, 9] (fun qv tv bv wr => ∃ (q top bo : Nat) (u1 : List Nat), qv = .int .u64 q ∧ tv = .int .u64 top ∧ bv = .int .u64 bo ∧ q < 18446744073709551616 ∧ top < 18446744073709551616 ∧ bo ≤ 1 ∧ RowDone w wr g j N us u1 ∧ val 18446744073709551616 (u1.set (j + N) top) + 18446744073709551616 ^ j * (q * D) = val 18446744073709551616 us + 18446744073709551616 ^ (j + N + 1) * bo ∧ val 18446744073709551616 (us.drop j) / D ≤ q) (fun qv _ _ _ => (intOf qv).toNat)
  case atStart => exact ⟨q, top, bo, us1, rfl, rfl, rfl, hq, htb, hbb, HD.out, HE.out, HQL.out⟩
  case round =>
    clear hq htb hbb HE HD HQL
    obtain ⟨q, top, bo, u1, rfl, rfl, rfl, hq, htb, hbb, hdone, hE, hQL⟩ := hrel
    have hlen1 : u1.length = us.length := hdone.len
    have hyy : u1.getD (j + N) 0 = y2 := by rw [hdone.out _ (.inr (Nat.le_refl _))]; exact HY2.out
    have HLEN := Hid.intro hlen1
    have HYY := Hid.intro hyy
    have HDO := Hid.intro hdone
    have HE := Hid.intro hE
    have HQL := Hid.intro hQL
    -- what stands from j on
    have HDR : Hid (val 18446744073709551616 ((u1.set (j + N) top).drop j) + q * D = val 18446744073709551616 (us.drop j) + 18446744073709551616 ^ (N + 1) * bo) := Hid.intro (by
      refine val_drop_eq (by decide) (by omega) (by rw [List.length_set]; exact hlen1) (fun p hp => by rw [getD_set_ne _ _ _ _ (by omega)]; exact hdone.out p (.inl hp)) _ ?_
      rw [hE, ← Nat.mul_assoc, ← Nat.pow_add, Nat.add_assoc])
    have HSMALL : Hid (val 18446744073709551616 ((u1.set (j + N) top).drop j) < 18446744073709551616 ^ (N + 1)) := Hid.intro (by
      have hs := (hdone.small.set (j + N) htb).drop j
      have hlt := val_lt (B := 18446744073709551616) (by decide) (hs.take (N + 1))
      rw [List.length_take, List.length_drop, List.length_set, Nat.min_eq_left (by omega)] at hlt
      rw [val_split 18446744073709551616 _ (N + 1) (by rw [List.length_drop, List.length_set]; omega), List.drop_drop]
      have hz0 : val 18446744073709551616 ((u1.set (j + N) top).drop (j + (N + 1))) = 0 := by
        apply val_of_zero
        intro i
        rw [getD_drop, getD_set_ne _ _ _ _ (by omega), hdone.out _ (.inr (by omega))]
        have := zero_of_val 18446744073709551616 (by decide) _ HZ.out i
        rw [getD_drop] at this
        rw [show j + (N + 1) + i = j + N + 1 + i by omega]
        exact this
      rw [hz0, Nat.mul_zero, Nat.add_zero]
      exact hlt)
    by_cases hb0 : bo = 0
    · subst hb0
      have g1 := hdone.blk.free (j + N)
      have g2 := hdone.blk.cell (j + N) (by omega)
      rw [hyy] at g2
      clear hdone hE hQL hlen1 hyy
      go_wp2
      go_ret
      refine ⟨q, u1.set (j + N) top, rfl, hq, ⟨HDO.out.blk.set _ _, by rw [List.length_set]; exact HLEN.out, HDO.out.small.set _ htb, HDO.out.only.setCell _ _, fun p hp => by rw [getD_set_ne _ _ _ _ (by omega)]; exact HDO.out.out p (by omega)⟩, by have := HE.out; rw [Nat.mul_zero, Nat.add_zero] at this; exact this, ?_⟩
      have := HDR.out
      rw [Nat.mul_zero, Nat.add_zero] at this
      exact step_rem hd0 this HQL.out
    · have hb1 : bo = 1 := by omega
      subst hb1
      have HGT : Hid (val 18446744073709551616 (us.drop j) / D < q) := Hid.intro (step_gt hd0 (by have := HDR.out; rw [Nat.mul_one] at this; exact this) HSMALL.out)
      obtain ⟨qm, hqm⟩ : ∃ qm, q = qm + 1 := ⟨q - 1, by have := Nat.lt_of_le_of_lt (Nat.zero_le _) HGT.out; omega⟩
      have eq1 : (q : Int) - 1 = (qm : Int) := by omega
      have hqmb : qm < 18446744073709551616 := by omega
      have HQM := Hid.intro hqm
      have HQ1 : Hid (val 18446744073709551616 (us.drop j) / D ≤ qm) := Hid.intro (by have h := HGT.out; rw [hqm] at h; exact Nat.le_of_lt_succ h)
      have hC := num_addInto g j cap u1 (some ⟨b, o, none⟩) c2 m wr HDO.out.blk HDO.out.small (HM.out.row.onlyG HDO.out.only HNE.out) HM.out.num.small HM.out.short (by have := HN.out; omega) (by have := HN.out; omega) HNE.out
      rw [HN.out, HM.out.num.eq] at hC
      have HC := Hid.intro hC
      clear hdone hE hQL hlen1 hyy hqm hC
      go_wp2_with fail
      refine HC.out.mono ?_
      rintro e w3 ⟨c, u2, rfl, hcb, hdone2, hval2⟩
      obtain ⟨top2, ca, ht2b, hcab, ht2, hca⟩ := add64_0 top c htb (by omega)
      have hy2' : u2.getD (j + N) 0 = y2 := by rw [hdone2.out _ (.inr (Nat.le_refl _))]; exact HYY.out
      have HDO2 := Hid.intro (HDO.out.trans hdone2)
      have HE2 : Hid (val 18446744073709551616 (u2.set (j + N) top2) + 18446744073709551616 ^ j * (qm * D) = val 18446744073709551616 us + 18446744073709551616 ^ (j + N + 1) * (1 - ca)) := Hid.intro (by
        have h := HE.out
        rw [HQM.out, Nat.succ_mul, Nat.mul_add] at h
        rw [Nat.one_mul] at hval2
        have hl2 := hdone2.len
        have hl1 := HLEN.out
        refine step_next (us1 := u1) (us2 := u2) (by omega) (by omega) HYY.out hy2' ?_ hval2 ht2
        rw [show 1 - ca + ca = 1 by omega]
        exact h)
      have ebo : (1 : Int) - (ca : Int) = ((1 - ca : Nat) : Int) := by omega
      obtain ⟨b2, hb2'⟩ : ∃ b2, 1 - ca = b2 := ⟨_, rfl⟩
      rw [hb2'] at HE2 ebo
      have hb2b : b2 ≤ 1 := by omega
      clear hdone2 hval2 ht2 hy2' HC hb2'
      go_wp2_with (simp only [hca])
      go_roundw
      case rel => exact ⟨qm, top2, b2, u2, by go_num, rfl, by go_num, hqmb, ht2b, hb2b, HDO2.out, HE2.out, HQ1.out⟩
      case measure => have := HQM.out; simp [intOf]; omega
end Go.Proofs.YtmgebbnmcgfnjaaGreatDoor
namespace Go.Proofs.YtmgebbnmcgfnjaaGreatDoor
open Go.RowKit
set_option linter.unusedVariables false
set_option linter.unusedSimpArgs false

/-- a quotient and a rest -/
def QR (w : World) (q r : Nat) (e : Ending) (w' : World) : Prop :=
  (∃ aq cq lq ar cr lr, e = .returned (.tuple #[.slice aq (List.length lq) cq, .slice ar (List.length lr) cr]) ∧ U64 w' aq cq lq q ∧ U64 w' ar cr lr r) ∧ Below w.heap.size w w'

set_option maxHeartbeats 400000 in
theorem num_divide_less (a1 a2 : Option Addr) (c1 c2 : Nat) (l m : List Nat) (x y : Nat) (w : World) (h1 : U64 w a1 c1 l x) (h2 : U64 w a2 c2 m y) (hlt : x < y) :
    Calls Tryz.prog 246 #[.slice a1 l.length c1, .slice a2 m.length c2] w (QR w (x / y) (x % y)) := by
  have HC := Hid.intro (num_compare a1 a2 c1 c2 l m x y w h1 h2)
  rw [cmp3_lt hlt] at HC
  have H1 := Hid.intro h1
  clear h1 h2
  go_enter Tryz.func246, Tryz.ntmps246
  go_wp2_with fail
  refine HC.out.mono ?_
  rintro e w1 ⟨rfl, hb⟩
  have HB := Hid.intro hb
  clear hb HC
  go_wp2
  go_ret2
  exact ⟨⟨none, 0, [], a1, c1, l, rfl, by rw [Nat.div_eq_of_lt hlt]; exact U64.nil _, by rw [Nat.mod_eq_of_lt hlt]; exact H1.out.below HB.out⟩, HB.out⟩

theorem div_mod_of {q d r x : Nat} (h : q * d + r = x) (hr : r < d) : q = x / d ∧ r = x % d := by
  rw [← h, Nat.mul_comm q d]
  constructor
  · rw [Nat.mul_add_div (by omega), Nat.div_eq_of_lt hr, Nat.add_zero]
  · rw [Nat.mul_add_mod, Nat.mod_eq_of_lt hr]

set_option maxHeartbeats 1000000 in
theorem num_divide_one (a1 a2 : Option Addr) (c1 c2 : Nat) (l m : List Nat) (x y : Nat) (w : World) (h1 : U64 w a1 c1 l x) (h2 : U64 w a2 c2 m y) (hle : y ≤ x) (h0 : 0 < y) (hm : m.length = 1) :
    Calls Tryz.prog 246 #[.slice a1 l.length c1, .slice a2 m.length c2] w (QR w (x / y) (x % y)) := by
  have HC := Hid.intro (num_compare a1 a2 c1 c2 l m x y w h1 h2)
  have hcmp : ¬ (cmp3 x y < 0) := fun h => by have := (cmp3_neg_iff x y).1 h; omega
  have hll : 0 < l.length := by
    rcases Nat.eq_zero_or_pos l.length with h | h
    · have := (h1.num.len_zero (by decide)).2 h; omega
    · exact h
  obtain ⟨b, o, rfl, hb1, hc1⟩ := h2.row.cell 0 (by omega)
  have hy : m.getD 0 0 = y := by
    have he := h2.num.eq
    obtain ⟨d, rfl⟩ := List.length_eq_one_iff.1 hm
    rw [val_cons, val_nil, Nat.mul_zero, Nat.add_zero] at he
    exact he
  rw [hy, Nat.add_zero] at hc1
  have hyb : y < 18446744073709551616 := by rw [← hy]; exact h2.num.small.getD (by decide) 0
  have hls := h1.short
  have H1 := Hid.intro h1
  rw [hm] at HC
  rw [hm]
  have q1 : ((1 : Int) == 1) = true := rfl
  clear h1 h2 hy
  go_enter Tryz.func246, Tryz.ntmps246
  go_wp2_with fail
  refine HC.out.mono ?_
  rintro e w1 ⟨rfl, hb⟩
  have HB1 := Hid.intro hb
  have c0' := (hb.cell (p := ⟨b, o, none⟩) hb1).trans hc1
  clear hb HC
  go_wp2_with fail
  refine (num_clone a1 c1 l x _ (H1.out.below HB1.out) hll).mono ?_
  rintro e w2 ⟨⟨g, cap', rfl, hcap, hg, hP⟩, hb⟩
  have HB2 := Hid.intro hb
  have c2' := (hb.cell (p := ⟨b, o, none⟩) (by have := HB1.out.size; show b < _; omega)).trans c0'
  have HP := Hid.intro hP
  clear hb hP
  go_wp2_with fail
  refine (num_divideInPlace g cap' y l _ HP.out H1.out.num.small hls h0 hyb).mono ?_
  rintro e w3 ⟨rs', r, rfl, hr, hP3, hl3, hs3, hv3, hon3⟩
  have HB3 := Hid.intro (show Below w.heap.size w w3 from ((HB1.out.trans (HB2.out.mono HB1.out.size)).trans (hon3.below (by have := HB1.out.size; omega) (Nat.le_trans HB1.out.size HB2.out.size))))
  rw [H1.out.num.eq] at hv3
  have HQ := Hid.intro (div_mod_of hv3 hr)
  have HP3 := Hid.intro hP3
  have HS3 := Hid.intro hs3
  have HT := Hid.intro (num_trim (some ⟨g, 0, none⟩) cap' rs' w3 (hP3.row cap' (by omega)) (by omega))
  rw [hl3] at HT
  have HL3 := Hid.intro hl3
  clear hP3 hs3 hv3 hon3 hl3
  go_wp2_with fail
  refine HT.out.mono ?_
  rintro e w4 ⟨⟨k, hk, rfl, hkv, hkt⟩, hw⟩
  subst hw
  have HU : Hid (U64 w4 (some ⟨g, 0, none⟩) cap' (rs'.take k) (x / y)) := Hid.intro ⟨(HP3.out.row cap' (by have := HL3.out; omega)).take k (by have := HL3.out; omega), ⟨HS3.out.take k, hkt, by rw [hkv, HQ.out.1]⟩, by rw [List.length_take]; omega⟩
  have HK := Hid.intro (show (rs'.take k).length = k by rw [List.length_take]; have := HL3.out; omega)
  clear hkv hkt HT
  go_wp2_with fail
  refine (num_ofWord r _ (by omega)).mono ?_
  rintro e w5 ⟨⟨ar, cr, lr, rfl, hur⟩, hb5⟩
  have HUR := Hid.intro hur
  have HB5 := Hid.intro hb5
  clear hur hb5
  go_wp2
  go_ret2
  exact ⟨⟨some ⟨g, 0, none⟩, cap', rs'.take k, ar, cr, lr, by rw [HK.out]; rfl, HU.out.below HB5.out, by rw [← HQ.out.2]; exact HUR.out⟩, HB3.out.trans (HB5.out.mono HB3.out.size)⟩

/-- what is known while words are divided: k words of the quotient are still to come -/
structure DInv (X D N M k : Nat) (us qs : List Nat) : Prop where
  ul : us.length = M + N
  ql : qs.length = M
  su : Small 18446744073709551616 us
  sq : Small 18446744073709551616 qs
  eq : val 18446744073709551616 us + D * (18446744073709551616 ^ k * val 18446744073709551616 (qs.drop k)) = X
  rem : val 18446744073709551616 (us.drop k) < D

theorem DInv.zero {X D N M k : Nat} {us qs : List Nat} (h : DInv X D N M k us qs) (hk : k ≤ M) (hD : D < 18446744073709551616 ^ N) : val 18446744073709551616 (us.drop (k + N)) = 0 := by
  have := val_drop_zero 18446744073709551616 (by decide) (us.drop k) N (Nat.lt_trans h.rem hD) (by rw [List.length_drop, h.ul]; omega)
  rw [List.drop_drop] at this
  exact this

theorem DInv.next {X D N M j q : Nat} {us qs us' : List Nat} (h : DInv X D N M (j + 1) us qs) (hj : j < M) (hl : us'.length = us.length) (hs : Small 18446744073709551616 us') (hq : q < 18446744073709551616) (hv : val 18446744073709551616 us' + 18446744073709551616 ^ j * (q * D) = val 18446744073709551616 us) (hr : val 18446744073709551616 (us'.drop j) < D) : DInv X D N M j us' (qs.set j q) := by
  refine ⟨hl.trans h.ul, by rw [List.length_set]; exact h.ql, hs, h.sq.set j hq, ?_, hr⟩
  rw [val_drop _ _ j (by rw [List.length_set, h.ql]; exact hj), getD_set_self _ _ _ (by rw [h.ql]; exact hj), List.drop_set, if_pos (by omega), ← h.eq, ← hv, Nat.mul_add, Nat.mul_add, Nat.pow_succ, ← Nat.mul_assoc (18446744073709551616 ^ j) 18446744073709551616, Nat.mul_left_comm D (18446744073709551616 ^ j) q, Nat.mul_comm D q]
  omega

theorem DInv.win {X D N M j : Nat} {us qs : List Nat} (h : DInv X D N M (j + 1) us qs) (hj : j < M) (hD : 0 < D) : val 18446744073709551616 (us.drop j) < 18446744073709551616 * D := by
  rw [val_drop _ us j (by rw [h.ul]; omega)]
  have h1 := h.su.getD (by decide) j
  have h2 := Nat.mul_le_mul_left 18446744073709551616 (show val 18446744073709551616 (us.drop (j + 1)) + 1 ≤ D from h.rem)
  omega

/-- the divisor, moved up -/
theorem up_len {top low s N y : Nat} {md : List Nat} (hN : 0 < N) (hy : y = low + 18446744073709551616 ^ (N - 1) * top) (hlow : low < 18446744073709551616 ^ (N - 1)) (hs : s < 64) (h1 : 9223372036854775808 ≤ top * 2 ^ s) (h2 : top * 2 ^ s < 18446744073709551616) (hmd : Num 18446744073709551616 md (y * 2 ^ s)) : md.length = N ∧ y * 2 ^ s < 18446744073709551616 ^ N ∧ 9223372036854775808 * 18446744073709551616 ^ (N - 1) ≤ y * 2 ^ s := by
  obtain ⟨K, rfl⟩ : ∃ K, N = K + 1 := ⟨N - 1, by omega⟩
  rw [Nat.add_sub_cancel] at *
  have e1 : (top + 1) * 2 ^ s ≤ 18446744073709551616 := by
    have hp := pow_split64 (s := s) (by omega)
    rw [← hp, Nat.mul_comm (2 ^ s)]
    apply Nat.mul_le_mul_right
    rw [← hp, Nat.mul_comm (2 ^ s)] at h2
    exact Nat.lt_of_mul_lt_mul_right h2
  have e2 : y * 2 ^ s < 18446744073709551616 ^ (K + 1) := by
    have h3 : y < 18446744073709551616 ^ K * (top + 1) := by rw [Nat.mul_add]; omega
    have h4 := Nat.mul_lt_mul_of_pos_right h3 (Nat.two_pow_pos s)
    rw [Nat.mul_assoc] at h4
    have h5 := Nat.mul_le_mul_left (18446744073709551616 ^ K) e1
    rw [Nat.pow_succ]
    omega
  have e3 : 9223372036854775808 * 18446744073709551616 ^ K ≤ y * 2 ^ s := by
    have h3 : 18446744073709551616 ^ K * top ≤ y := by omega
    have h4 := Nat.mul_le_mul_right (2 ^ s) h3
    rw [Nat.mul_assoc] at h4
    have h5 := Nat.mul_le_mul_left (18446744073709551616 ^ K) h1
    rw [Nat.mul_comm (18446744073709551616 ^ K) 9223372036854775808] at h5
    omega
  refine ⟨?_, e2, e3⟩
  apply Nat.le_antisymm
  · exact hmd.length_le_of_lt (by decide) e2
  · apply Classical.byContradiction
    intro hc
    have h6 := val_lt (B := 18446744073709551616) (by decide) hmd.small
    rw [hmd.eq] at h6
    have h7 : 18446744073709551616 ^ md.length ≤ 18446744073709551616 ^ K := Nat.pow_le_pow_right (by decide) (by omega)
    omega

/-- at the start what stands above is below the divisor -/
theorem start_rem {x s L M N D : Nat} {us : List Nat} (hx : x < 18446744073709551616 ^ L) (hML : M + N = L + 1) (hN : 0 < N) (hs : s < 64) (hD : 9223372036854775808 * 18446744073709551616 ^ (N - 1) ≤ D) (hul : us.length = M + N) (hv : val 18446744073709551616 us = x * 2 ^ s) : val 18446744073709551616 (us.drop M) < D := by
  apply Classical.byContradiction
  intro hc
  have h1 := val_split 18446744073709551616 us M (by omega)
  have h2 : 18446744073709551616 ^ M * (9223372036854775808 * 18446744073709551616 ^ (N - 1)) ≤ 18446744073709551616 ^ M * val 18446744073709551616 (us.drop M) := Nat.mul_le_mul_left _ (by omega)
  have h3 : 2 ^ s ≤ 9223372036854775808 := Nat.pow_le_pow_right (by decide) (show s ≤ 63 by omega)
  have h4 : x * 2 ^ s < 18446744073709551616 ^ L * 9223372036854775808 := Nat.lt_of_le_of_lt (Nat.mul_le_mul_left x h3) (Nat.mul_lt_mul_of_pos_right hx (by decide))
  rw [Nat.mul_left_comm, ← Nat.pow_add, show M + (N - 1) = L by omega, Nat.mul_comm] at h2
  omega

theorem small_top {l : List Nat} {y N : Nat} (h : Num 18446744073709551616 l y) (hl : l.length = N + 1) : ∃ low top, l.getD N 0 = top ∧ y = low + 18446744073709551616 ^ N * top ∧ low < 18446744073709551616 ^ N ∧ 0 < top ∧ top < 18446744073709551616 := by
  refine ⟨val 18446744073709551616 (l.take N), l.getD N 0, rfl, ?_, ?_, ?_, h.small.getD (by decide) N⟩
  · have h1 := val_take_succ 18446744073709551616 l N (by omega)
    rw [List.take_of_length_le (by omega), h.eq] at h1
    exact h1
  · have := val_lt (B := 18446744073709551616) (by decide) (h.small.take N)
    rw [List.length_take, Nat.min_eq_left (by omega)] at this
    exact this
  · rcases h.trim with h1 | h1
    · rw [h1] at hl; simp at hl
    · rw [hl, Nat.add_sub_cancel] at h1; omega

end Go.Proofs.YtmgebbnmcgfnjaaGreatDoor
