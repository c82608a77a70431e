/- num's divideNats, where the divisor has two words or more. num's quotientOf, gcdWords, restByWord, multiplyAdd, lessMultiples. -/
import Derived.Test.YtmgebbnmcgfnjaaGreatDoorC22NatDiv
namespace Go.Proofs.YtmgebbnmcgfnjaaGreatDoor
open Go.RowKit
set_option linter.unusedVariables false
set_option linter.unusedSimpArgs false

theorem Blk.onlyG {k : IntKind} {t : TypeId} {w w' : World} {g c : Nat} {l : List Nat} (h : Blk k t w g l) (ho : Only c w w') (hne : g ≠ c) : Blk k t w' g l := by
  have := h.lt
  unfold Blk at h ⊢
  rw [ho.block g this hne]; exact h

set_option maxRecDepth 100000 in
set_option maxHeartbeats 2000000 in
theorem num_divide_many (a1 a2 : Option Addr) (c1 c2 n : Nat) (l m : List Nat) (x y : Nat) (w : World) (h1 : U64 w a1 c1 l x) (h2 : U64 w a2 c2 m y) (hle : y ≤ x) (hm : m.length = n + 2) (hlb : l.length < 1099511627770) :
    Calls Tryz.prog 246 #[.slice a1 l.length c1, .slice a2 m.length c2] w (QR w (x / y) (x % y)) := by
  have HC := Hid.intro (num_compare a1 a2 c1 c2 l m x y w h1 h2)
  have hcmp : ¬ (cmp3 x y < 0) := fun h => by have := (cmp3_neg_iff x y).1 h; omega
  have hml : m.length ≤ l.length := by
    apply Classical.byContradiction
    intro hc
    have := lt_of_length (B := 18446744073709551616) (by decide) h1.num.small h2.num.trim (by omega)
    rw [h1.num.eq, h2.num.eq] at this
    omega
  obtain ⟨low, top, htop, hy, hlow, htp, htb⟩ := small_top (N := n + 1) h2.num hm
  obtain ⟨b, o, rfl, hb1, hc1⟩ := h2.row.cell (n + 1) (by omega)
  rw [htop] at hc1
  obtain ⟨s, hs64, hs, hs1, hs2⟩ := lead_spec top htp htb
  have HLEAD := Hid.intro (fun w => lead64 (top : Int) w (by omega) (by omega))
  rw [hs] at HLEAD
  obtain ⟨N, hN⟩ : ∃ N, m.length = N := ⟨_, rfl⟩
  obtain ⟨p, hp⟩ : ∃ p, n + 1 = p := ⟨_, rfl⟩
  have hNp : N = p + 1 := by omega
  rw [hp] at hc1
  have H1 := Hid.intro h1
  have H2 := Hid.intro h2
  rw [hN] at HC
  rw [hN]
  have hxs := val_lt (B := 18446744073709551616) (by decide) h1.num.small
  rw [h1.num.eq] at hxs
  have HXS := Hid.intro hxs
  have HY := Hid.intro hy
  have q1 : ((N : Int) == 1) = false := by rw [beq_eq_false_iff_ne]; omega
  have w1' : IntKind.i64.wrap ((N : Int) - 1) = (p : Int) := by rw [wrap_i64 _ (by omega) (by omega)]; omega
  have HS1 := Hid.intro hs1
  have HS2 := Hid.intro hs2
  have HLOW := Hid.intro hlow
  have HP := Hid.intro hp
  have HNP := Hid.intro hNp
  have HM := Hid.intro hm
  have HN := Hid.intro hN
  have hN1 : 1 ≤ N := by omega
  have hpN : p < N := by omega
  have hpN' : (p : Int) < (N : Int) := by omega
  have hN2 : 2 ≤ N := by omega
  rw [hN] at hml
  clear h1 h2 hy hs htop hxs hs1 hs2 hlow hp hNp hm hN
  go_enter Tryz.func246, Tryz.ntmps246
  go_wp2_with fail
  go_fit HC.out
  rintro e w1 ⟨rfl, hb⟩
  have HB1 := Hid.intro hb
  have c1' := (hb.cell (p := ⟨b, o + p, none⟩) hb1).trans hc1
  clear hb HC hc1
  go_wp2_with fail
  go_fit (HLEAD.out _)
  rintro e w2 ⟨rfl, hw⟩
  subst hw
  clear HLEAD
  go_wp2_with fail
  go_fit (num_shiftedUp a1 c1 s l x _ (H1.out.below HB1.out) (by omega) hs64)
  rintro e w3 ⟨⟨us, rfl, hBu, hul, hus, huv⟩, hb⟩
  have HB3 := Hid.intro (HB1.out.trans (hb.mono HB1.out.size))
  have hsz3 : w2.heap.size < w3.heap.size := hBu.lt
  have hU2 := num_shiftedUp (some ⟨b, o, none⟩) c2 s m y w3 (H2.out.below HB3.out) (by have := HN.out; omega) hs64
  rw [HN.out] at hU2
  have HU2 := Hid.intro hU2
  have HBU := Hid.intro hBu
  have HUL := Hid.intro hul
  have HUS := Hid.intro hus
  have HUV := Hid.intro huv
  clear hb hBu hul hus huv hU2
  go_wp2_with fail
  go_fit HU2.out
  rintro e w4 ⟨⟨vs, rfl, hBv, hvl, hvs, hvv⟩, hb⟩
  have HB4 := Hid.intro hb
  have hsz4 : w3.heap.size < w4.heap.size := hBv.lt
  have HTR := Hid.intro (num_trim_at w3.heap.size (N + 1) (N + 1) (y * 2 ^ s) vs w4 hBv hvl hvs (Nat.le_refl _) (by omega) hvv)
  clear hb hBv hvl hvs hvv HU2
  go_wp2_with fail
  go_fit HTR.out
  rintro e w5 ⟨⟨md, rfl, hmd⟩, hw⟩
  subst hw
  have hup := up_len (N := N) (by omega) (by have h := HY.out; rw [HP.out, show p = N - 1 by have := HNP.out; omega] at h; exact h) (by have h := HLOW.out; rw [HP.out, show p = N - 1 by have := HNP.out; omega] at h; exact h) hs64 HS1.out HS2.out hmd.num
  rw [hup.1]
  obtain ⟨D, hD⟩ : ∃ D, y * 2 ^ s = D := ⟨_, rfl⟩
  rw [hD] at hmd hup
  obtain ⟨M, hM, hM1⟩ : ∃ M, M + N = l.length + 1 ∧ 1 ≤ M := ⟨l.length + 1 - N, by omega, by omega⟩
  have HDL := Hid.intro hup.1
  have HDB := Hid.intro hup.2.1
  have HDT := Hid.intro hup.2.2
  have HMD := Hid.intro hmd
  have HDE := Hid.intro hD
  clear hmd hup hD HTR
  have wm : IntKind.i64.wrap ((l.length : Int) + 1 - (N : Int)) = (M : Int) := by rw [wrap_i64 _ (by omega) (by omega)]; omega
  have wm2 : (l.length : Int) + 1 - (N : Int) = (M : Int) := by omega
  have hmk : ∀ w, (Instr.makeSlice 120 (.int .i64 (M : Int)) (.int .i64 (M : Int))).run Tryz.prog w = .ok (.slice (some ⟨w.heap.size, 0, none⟩) M M) (w.alloc (.cells (wordCells .u64 (zeros M)) 209)) :=
    fun w => make64 _ M rfl (by omega) w
  have HMN := Hid.intro hM
  clear hM
  go_wp2_with fail
  clear hmk
  have hd0 : 0 < D := Nat.lt_of_lt_of_le (Nat.mul_pos (by decide) (Nat.pow_pos (by decide))) HDT.out
  have hsz2 : w.heap.size ≤ w2.heap.size := HB1.out.size
  go_loopw [11] (fun i wr => ∃ (k : Nat) (us qs : List Nat), k ≤ M ∧ i = .int .i64 ((k : Int) - 1) ∧ Blk .u64 209 wr w2.heap.size us ∧ Blk .u64 209 wr w5.heap.size qs ∧ U64 wr (some ⟨w3.heap.size, 0, none⟩) (N + 1) md D ∧ DInv (x * 2 ^ s) D N M k us qs ∧ Below w.heap.size w wr) (fun i _ => (intOf i + 1).toNat)
  case atStart =>
    refine ⟨M, us, zeros M, Nat.le_refl _, rfl, (HBU.out.below HB4.out (by omega)).alloc _, Blk.new _ _ _ _, HMD.out.below ((Below.refl _ _).alloc (Nat.le_refl _) _), ⟨?_, zeros_length _, HUS.out, zeros_small _ _ (by decide), ?_, ?_⟩, (HB3.out.trans (HB4.out.mono (by omega))).alloc (by omega) _⟩
    · rw [HUL.out]; have := HMN.out; omega
    · rw [List.drop_of_length_le (by rw [zeros_length]; exact Nat.le_refl _), val_nil, Nat.mul_zero, Nat.mul_zero, Nat.add_zero]; exact HUV.out
    · exact start_rem HXS.out HMN.out (by omega) hs64 HDT.out (by rw [HUL.out]; have := HMN.out; omega) HUV.out
  case round =>
    clear HBU HUL HUS HUV
    obtain ⟨k, us, qs, hk, rfl, hBu, hBq, hUd, hI, hb⟩ := hrel
    have HBU := Hid.intro hBu
    have HBQ := Hid.intro hBq
    have HUD := Hid.intro hUd
    have HI := Hid.intro hI
    have HB := Hid.intro hb
    by_cases h0 : k = 0
    · subst h0
      have hrem := hI.rem
      have heq := hI.eq
      rw [List.drop_zero] at hrem
      rw [List.drop_zero, Nat.pow_zero, Nat.one_mul] at heq
      have HDD := Hid.intro (div_done (Nat.two_pow_pos s) rfl HDE.out heq hrem)
      have htk : val 18446744073709551616 (us.take N) = val 18446744073709551616 us := by
        have h1 := val_drop_zero 18446744073709551616 (by decide) us N (Nat.lt_trans hrem HDB.out) (by rw [hI.ul]; omega)
        have h2 := val_split 18446744073709551616 us N (by rw [hI.ul]; omega)
        rw [h1, Nat.mul_zero, Nat.add_zero] at h2
        exact h2.symm
      have hul : us.length = l.length + 1 := by rw [hI.ul]; exact HMN.out
      have HT1 := Hid.intro (num_trim_at w5.heap.size M M (x / y) qs wr.drew hBq.drew hI.ql hI.sq (Nat.le_refl _) (by omega) HDD.out.1)
      have hDn := num_shiftedDown (some ⟨w2.heap.size, 0, none⟩) (l.length + 1) s (us.take N) wr.drew ((hBu.drew).row N (by omega) (l.length + 1) (by omega)) (hI.su.take N) (by rw [List.length_take]; omega) hs64
      rw [List.length_take, Nat.min_eq_left (by omega), htk, HDD.out.2] at hDn
      have HDN := Hid.intro hDn
      clear hrem heq htk hul hBu hBq hUd hI hb hDn
      go_wp2_with fail
      have iN : (0 : Int) ≤ (N : Int) := by omega
      have iN' : (N : Int) ≤ (l.length : Int) + 1 := by omega
      go_region_held3 (fun _ => True) (trivial) (first
        | (go_at_call 254
           go_fit HT1.out
           rintro e w6 ⟨⟨r, rfl, hu⟩, hw⟩
           subst hw
           have HU := Hid.intro hu
           clear hu)
        | (go_at_call 289
           go_fit HDN.out
           rintro e w7 ⟨⟨ar, cr, lr, rfl, hur⟩, hb7⟩
           have HUR := Hid.intro hur
           have HB7 := Hid.intro hb7
           clear hur hb7))
      go_wp2
      go_ret2
      exact ⟨⟨_, _, r, ar, cr, lr, rfl, HU.out.below HB7.out, HUR.out⟩, HB.out.drew.trans (HB7.out.mono HB.out.size)⟩
    · obtain ⟨j, rfl⟩ : ∃ j, k = j + 1 := ⟨k - 1, by omega⟩
      obtain ⟨z, hz⟩ : ∃ z, qs.getD j 0 = z := ⟨_, rfl⟩
      have hjM : j < M := by omega
      have hcapj : j + N ≤ l.length := by have := HMN.out; omega
      have hul : us.length = l.length + 1 := by rw [hI.ul]; exact HMN.out
      have hS := num_divideStep w2.heap.size j n (l.length + 1 - j) N p us (some ⟨w3.heap.size, 0, none⟩) (N + 1) md D wr hBu hI.su hUd HDL.out (by have := HM.out; have := HN.out; omega) HP.out.symm (fun b' o' h => by
        obtain ⟨rfl, rfl⟩ : w3.heap.size = b' ∧ 0 = o' := by simpa using h
        omega) (by omega) (by have := hI.zero (by omega) HDB.out; rw [show j + N + 1 = j + 1 + N by omega]; exact this) (hI.win hjM hd0) (by omega)
      have HS := Hid.intro hS
      have HQL := Hid.intro hI.ql
      have HZ := Hid.intro hz
      have ei : ((j + 1 : Nat) : Int) - 1 = (j : Int) := by omega
      rw [ei]
      clear ei hBu hBq hUd hI hb hz hS
      go_wp2_with fail
      rw [show j + N + 1 - j = N + 1 by omega]
      go_fit HS.out
      rintro e w6 ⟨q, us', rfl, hq, hdone, hval, hrem⟩
      have hBq6 := HBQ.out.onlyG hdone.only (by omega)
      have g1 := hBq6.free j
      have g2 := hBq6.cell j (by have := HQL.out; omega)
      rw [HZ.out] at g2
      have HI6 := Hid.intro (HI.out.next hjM hdone.len hdone.small hq hval hrem)
      have HBQ6 := Hid.intro hBq6
      have HDO := Hid.intro hdone
      clear hBq6 hdone hval hrem HS
      go_wp2
      go_roundw
      case rel =>
        have hs6 := HB.out.size
        refine ⟨j, us', qs.set j q, by omega, by go_num, HDO.out.blk.other (by omega) _ _, HBQ6.out.set j q, ?_, HI6.out, (HB.out.trans (HDO.out.only.below (by omega) hs6)).setCell (by show w.heap.size ≤ w5.heap.size; omega) _⟩
        have hu6 := HUD.out.onlyG HDO.out.only (fun b' o' h => by
          obtain ⟨rfl, rfl⟩ : w3.heap.size = b' ∧ 0 = o' := by simpa using h
          omega)
        exact hu6.onlyG ((Only.refl w5.heap.size w6).setCell _ _) (fun b' o' h => by
          obtain ⟨rfl, rfl⟩ : w3.heap.size = b' ∧ 0 = o' := by simpa using h
          omega)
      case measure => simp [intOf]
end Go.Proofs.YtmgebbnmcgfnjaaGreatDoor
namespace Go.Proofs.YtmgebbnmcgfnjaaGreatDoor
open Go.RowKit
set_option linter.unusedVariables false
set_option linter.unusedSimpArgs false

theorem num_divide (a1 a2 : Option Addr) (c1 c2 : Nat) (l m : List Nat) (x y : Nat) (w : World) (h1 : U64 w a1 c1 l x) (h2 : U64 w a2 c2 m y) (h0 : 0 < y) (hlb : l.length < 1099511627770) :
    Calls Tryz.prog 246 #[.slice a1 l.length c1, .slice a2 m.length c2] w (QR w (x / y) (x % y)) := by
  by_cases hlt : x < y
  · exact num_divide_less a1 a2 c1 c2 l m x y w h1 h2 hlt
  · have hm0 : m.length ≠ 0 := fun h => by have := (h2.num.len_zero (by decide)).2 h; omega
    by_cases hm1 : m.length = 1
    · exact num_divide_one a1 a2 c1 c2 l m x y w h1 h2 (by omega) h0 hm1
    · exact num_divide_many a1 a2 c1 c2 (m.length - 2) l m x y w h1 h2 (by omega) (by omega) hlb

/-- a whole number that is answered -/
def Nat64 (w : World) (n : Nat) (e : Ending) (w' : World) : Prop := (∃ a cap l, e = .returned (.slice a (List.length l) cap) ∧ U64 w' a cap l n) ∧ Below w.heap.size w w'

set_option maxHeartbeats 400000 in
theorem num_quotientOf (a1 a2 : Option Addr) (c1 c2 : Nat) (l m : List Nat) (x y : Nat) (w : World) (h1 : U64 w a1 c1 l x) (h2 : U64 w a2 c2 m y) (h0 : 0 < y) (hlb : l.length < 1099511627770) :
    Calls Tryz.prog 200 #[.slice a1 l.length c1, .slice a2 m.length c2] w (Nat64 w (x / y)) := by
  have HO := Hid.intro (num_isOne a2 c2 m y w h2)
  have HD := Hid.intro (num_divide a1 a2 c1 c2 l m x y w h1 h2 h0 hlb)
  have H1 := Hid.intro h1
  clear h1 h2
  by_cases hy : y = 1
  · rw [show decide (y = 1) = true by simpa using hy] at HO
    go_enter Tryz.func200, Tryz.ntmps200
    go_wp2_with fail
    go_fit HO.out
    rintro e w1 ⟨rfl, hw⟩
    subst hw
    clear HO HD
    go_wp2
    go_ret
    exact ⟨⟨a1, c1, l, rfl, by rw [hy, Nat.div_one]; exact H1.out⟩, Below.refl _ _⟩
  · rw [show decide (y = 1) = false by simpa using hy] at HO
    go_enter Tryz.func200, Tryz.ntmps200
    go_wp2_with fail
    go_fit HO.out
    rintro e w1 ⟨rfl, hw⟩
    subst hw
    go_wp2_with fail
    go_fit HD.out
    rintro e w2 ⟨⟨aq, cq, lq, ar, cr, lr, rfl, hq, hr⟩, hb⟩
    have HQ := Hid.intro hq
    have HB := Hid.intro hb
    clear hq hr hb HO HD
    go_wp2
    go_ret
    exact ⟨⟨aq, cq, lq, rfl, HQ.out⟩, HB.out⟩

set_option maxHeartbeats 400000 in
theorem num_gcdWords (x y : Nat) (w : World) (hx : x < 18446744073709551616) (hy : y < 18446744073709551616) :
    Calls Tryz.prog 249 #[.int .u64 x, .int .u64 y] w fun e w' => e = .returned (.int .u64 ((Nat.gcd x y : Nat) : Int)) ∧ Below w.heap.size w w' := by
  obtain ⟨G, hG⟩ : ∃ G, Nat.gcd x y = G := ⟨_, rfl⟩
  rw [hG]
  have HG := Hid.intro hG
  clear hG
  go_enter Tryz.func249, Tryz.ntmps249
  go_wp2
  go_loopw [0, 1] (fun xv yv wr => ∃ a b : Nat, xv = .int .u64 a ∧ yv = .int .u64 b ∧ a < 18446744073709551616 ∧ b < 18446744073709551616 ∧ Nat.gcd a b = G ∧ Below w.heap.size w wr) (fun _ yv _ => (intOf yv).toNat)
  case atStart => exact ⟨x, y, rfl, rfl, hx, hy, HG.out, Below.refl _ _⟩
  case round =>
    obtain ⟨a, b, rfl, rfl, ha, hb, hg, hbl⟩ := hrel
    have HGG := Hid.intro hg
    have HB := Hid.intro hbl
    clear hg hbl
    by_cases h0 : b = 0
    · subst h0
      go_wp2
      go_ret
      exact ⟨by rw [← HGG.out, Nat.gcd_zero_right]; rfl, HB.out⟩
    · obtain ⟨r, hr⟩ : ∃ r, a % b = r := ⟨_, rfl⟩
      have hrb : r < b := by rw [← hr]; exact Nat.mod_lt _ (by omega)
      have d1 : (a : Int) % (b : Int) = (r : Int) := by rw [← hr]; rfl
      have d2 : Int.tmod (a : Int) (b : Int) = (r : Int) := by rw [← hr]; rfl
      have q0 : ((b : Int) != 0) = true := by rw [bne_iff_ne]; omega
      have q1 : ((b : Int) == 0) = false := by rw [beq_eq_false_iff_ne]; omega
      have HR := Hid.intro hr
      clear hr
      go_wp2_with fail
      go_region
      all_goals
        go_wp2
        go_roundw
        case rel => exact ⟨b, r, rfl, rfl, hb, by omega, by rw [← HGG.out, ← HR.out, Nat.gcd_comm a b, Nat.gcd_rec b a, Nat.gcd_comm], HB.out.drew⟩
        case measure => simp [intOf]; omega

set_option maxHeartbeats 1000000 in
theorem num_restByWord (a : Option Addr) (cap d : Nat) (l : List Nat) (x : Nat) (w : World) (h : U64 w a cap l x) (hd0 : 0 < d) (hd : d < 18446744073709551616) :
    Calls Tryz.prog 250 #[.slice a l.length cap, .int .u64 d] w fun e w' => e = .returned (.int .u64 ((x % d : Nat) : Int)) ∧ Below w.heap.size w w' := by
  have hs := h.short
  obtain ⟨R, hR⟩ : ∃ R, x % d = R := ⟨_, rfl⟩
  rw [hR]
  have HR := Hid.intro hR
  have H := Hid.intro h
  clear hR h
  go_enter Tryz.func250, Tryz.ntmps250
  go_wp2
  go_loopw [5, 6] (fun r i wr => ∃ (k r' : Nat), k ≤ l.length ∧ r' < d ∧ r = .int .u64 r' ∧ i = .int .i64 ((k : Int) - 1) ∧ val 18446744073709551616 (l.drop k) % d = r' ∧ Below w.heap.size w wr) (fun _ i _ => (intOf i + 1).toNat)
  case atStart => exact ⟨l.length, 0, Nat.le_refl _, hd0, rfl, rfl, by rw [List.drop_of_length_le (Nat.le_refl _), val_nil, Nat.zero_mod], Below.refl _ _⟩
  case round =>
    obtain ⟨k, r, hk, hr, rfl, rfl, hv, hb⟩ := hrel
    have HV := Hid.intro hv
    have HB := Hid.intro hb
    clear hv hb
    by_cases h0 : k = 0
    · subst h0
      go_wp2
      go_ret
      exact ⟨by rw [← HR.out, ← H.out.num.eq]; have := HV.out; rw [List.drop_zero] at this; rw [this]; rfl, HB.out⟩
    · obtain ⟨j, rfl⟩ : ∃ j, k = j + 1 := ⟨k - 1, by omega⟩
      obtain ⟨b, off, rfl, hb1, hc1⟩ := (H.out.row.below HB.out).cell j (by omega)
      obtain ⟨z, hz⟩ : ∃ z, l.getD j 0 = z := ⟨_, rfl⟩
      rw [hz] at hc1
      have hzb : z < 18446744073709551616 := by rw [← hz]; exact H.out.num.small.getD (by omega) j
      obtain ⟨q, r', hq, hr', hqr, hcd⟩ := div64 r z d hr hzb hd
      have HCD := Hid.intro hcd
      have HN : Hid (val 18446744073709551616 (l.drop j) % d = r') := Hid.intro (by
        rw [val_drop _ l j (by omega), hz]
        have h1 := Nat.div_add_mod (val 18446744073709551616 (l.drop (j + 1))) d
        rw [HV.out] at h1
        rw [← h1, Nat.mul_add, show z + (18446744073709551616 * (d * (val 18446744073709551616 (l.drop (j + 1)) / d)) + 18446744073709551616 * r) = d * (18446744073709551616 * (val 18446744073709551616 (l.drop (j + 1)) / d)) + (d * q + r') by rw [Nat.mul_left_comm]; omega, Nat.mul_add_mod, Nat.mul_add_mod, Nat.mod_eq_of_lt hr'])
      have ei : ((j + 1 : Nat) : Int) - 1 = (j : Int) := by omega
      rw [ei]
      clear ei hcd hqr hz
      go_wp2_with fail
      go_fit (HCD.out _)
      rintro e w2 ⟨rfl, n2, hw2⟩
      have HB2 : Hid (Below w.heap.size w w2) := Hid.intro (by rw [hw2]; exact below_drewN HB.out n2)
      clear hw2 HCD
      go_wp2
      go_roundw
      case rel => exact ⟨j, r', by omega, hr', rfl, by go_num, HN.out, HB2.out⟩
      case measure => simp [intOf]

set_option maxHeartbeats 400000 in
theorem num_multiplyAdd (x y c : Nat) (hx : x < 18446744073709551616) (hy : y < 18446744073709551616) (hc : c < 18446744073709551616) : ∃ h l : Nat, h < 18446744073709551616 ∧ l < 18446744073709551616 ∧ l + 18446744073709551616 * h = x * y + c ∧
    ∀ w, Calls Tryz.prog 295 #[.int .u64 x, .int .u64 y, .int .u64 c] w fun e w' => e = .returned (.tuple #[.int .u64 (h : Int), .int .u64 (l : Int)]) ∧ w' = w := by
  obtain ⟨h, l, hh, hl, hhl, hcm⟩ := mul64 x y hx hy
  obtain ⟨l', c1, hl', hc1, hlc, hca⟩ := add64_0 l c hl hc
  have hfit := words_fit (over := c) hx hy
  have hsum : l' + 18446744073709551616 * (h + c1) = x * y + c := by omega
  have hob : h + c1 < 18446744073709551616 := by omega
  refine ⟨h + c1, l', hob, hl', hsum, fun w => ?_⟩
  have HCM := Hid.intro hcm
  clear hcm hhl hlc hsum hfit
  go_enter Tryz.func295, Tryz.ntmps295
  go_wp2_with (first | (go_at_call 294; go_fit (HCM.out _); rintro e w2 ⟨rfl, hw2⟩; subst hw2) | simp only [hca])
  go_ret2
  exact ⟨by rw [Int.natCast_add]; rfl, rfl⟩

theorem less_step {B k u v d e r ox oy bo ox' oy' bo' lx ly : Nat} {rs xs ys : List Nat} (hk : k < rs.length) (hd : xs.getD k 0 = d) (he : ys.getD k 0 = e) (h1 : lx + B * ox' = d * u + ox) (h2 : ly + B * oy' = e * v + oy) (h3 : r + bo + ly = lx + B * bo')
    (h : val B (rs.take k) + v * val B (ys.take k) + B ^ k * ox = u * val B (xs.take k) + B ^ k * (oy + bo)) :
    val B ((rs.set k r).take (k + 1)) + v * val B (ys.take (k + 1)) + B ^ (k + 1) * ox' = u * val B (xs.take (k + 1)) + B ^ (k + 1) * (oy' + bo') := by
  rw [take_set _ _ _ hk, val_snoc, List.length_take, Nat.min_eq_left (by omega), val_take_succ', val_take_succ', hd, he, Nat.pow_succ, Nat.mul_add v, Nat.mul_add u]
  have e1 : B ^ k * (lx + B * ox') = B ^ k * (d * u + ox) := by rw [h1]
  have e2 : B ^ k * (ly + B * oy') = B ^ k * (e * v + oy) := by rw [h2]
  have e3 : B ^ k * (r + bo + ly) = B ^ k * (lx + B * bo') := by rw [h3]
  rw [Nat.mul_add, Nat.mul_add, ← Nat.mul_assoc] at e1 e2
  rw [Nat.mul_add, Nat.mul_add, Nat.mul_add, ← Nat.mul_assoc] at e3
  rw [Nat.mul_add] at h
  rw [Nat.mul_add, Nat.mul_left_comm v, Nat.mul_left_comm u, Nat.mul_comm v e, Nat.mul_comm u d]
  omega

theorem less_end {B n z V ox oy bo U : Nat} (hB : 0 < B) (hV : V < B ^ n) (hz : z < B ^ n) (h : V + U + B ^ n * ox = U + z + B ^ n * (oy + bo)) : V = z := by
  have h1 : V + B ^ n * ox = z + B ^ n * (oy + bo) := by omega
  have h2 := congrArg (· % B ^ n) h1
  simp only [Nat.add_mul_mod_self_left] at h2
  rw [Nat.mod_eq_of_lt hV, Nat.mod_eq_of_lt hz] at h2
  exact h2
end Go.Proofs.YtmgebbnmcgfnjaaGreatDoor
