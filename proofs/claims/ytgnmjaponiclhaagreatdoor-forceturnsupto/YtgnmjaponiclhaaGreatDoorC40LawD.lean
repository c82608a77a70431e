/- rafterlaw's ForceTurns. rafterlaw's ForceTurns where the forces come to one. -/
import Derived.Test.YtgnmjaponiclhaaGreatDoorC39LawB
namespace Go.Proofs.YtgnmjaponiclhaaGreatDoor
open Go.RowKit
set_option linter.unusedVariables false
set_option linter.unusedSimpArgs false

set_option maxRecDepth 100000 in
set_option maxHeartbeats 1000000 in
theorem turns_many (a b : Option Addr) (cap cap2 l m : Nat) (sx sy : ByteArray) (w : World) (hg : Glob w) (hl : 60 < l) :
    Calls Tryz.prog 4 #[.slice a l cap, .slice b m cap2, .agg #[.string sx, .string sy]] w fun e w' => e = .returned (.bool true) ∧ Below w.heap.size w w' := by
  have HG := Hid.intro hg
  have q1 : ((60 : Int) < (l : Int)) := by omega
  clear hg
  go_enter Tryz.func4, Tryz.ntmps4
  go_wp2_with fail
  obtain ⟨wA, hwA⟩ : ∃ wA, w.alloc (.cells #[.string sx, .string sy] 25) = wA := ⟨_, rfl⟩
  have HBA : Hid (Below w.heap.size w wA) := Hid.intro (by rw [← hwA]; exact (Below.refl _ _).alloc (Nat.le_refl _) _)
  rw [hwA]
  have HWA := Hid.intro hwA
  clear hwA
  go_fit (law_turns wA (HG.out.below HBA.out))
  rintro e w1 ⟨rfl, hb1⟩
  have HB1 := Hid.intro (HBA.out.trans (hb1.mono HBA.out.size))
  clear hb1
  go_wp2_with fail
  go_fit (force_Sum_many a cap l w1 hl)
  rintro e w2 ⟨rfl, hb2⟩
  have HB2 := Hid.intro (HB1.out.trans (hb2.mono HB1.out.size))
  clear hb2
  go_wp2
  go_ret
  exact ⟨by simp [q1], HB2.out.alloc HB2.out.size _⟩

/-- what the law asks of the forces -/
structure Sized (fs : List F4) : Prop where
  len : fs.length ≤ 60
  wt0 : wt 0 fs ≤ 20000000
  wtm : wt 1048576 fs ≤ 600000000
  sz : ∀ f, f ∈ fs → sz f ≤ 1048576

set_option maxRecDepth 100000 in
set_option maxHeartbeats 1000000 in
theorem turns_far_many (a b : Option Addr) (cap cap2 m : Nat) (fs : List F4) (sx sy : ByteArray) (w : World) (hg : Glob w) (hf : FRow w a cap fs) (hs : Sized fs) (hm : 60 < m) (hk : ∀ x y t, Sums 0 0 fs x y t → kindOf x y t ≠ 3) :
    Calls Tryz.prog 4 #[.slice a fs.length cap, .slice b m cap2, .agg #[.string sx, .string sy]] w fun e w' => e = .returned (.bool true) ∧ Below w.heap.size w w' := by
  have HG := Hid.intro hg
  have HF := Hid.intro hf
  have HS := Hid.intro hs
  have HK := Hid.intro hk
  have HM := Hid.intro hm
  clear hg hf hs hk hm
  go_enter Tryz.func4, Tryz.ntmps4
  go_wp2_with fail
  obtain ⟨wA, hwA⟩ : ∃ wA, w.alloc (.cells #[.string sx, .string sy] 25) = wA := ⟨_, rfl⟩
  have HBA : Hid (Below w.heap.size w wA) := Hid.intro (by rw [← hwA]; exact (Below.refl _ _).alloc (Nat.le_refl _) _)
  rw [hwA]
  have HWA := Hid.intro hwA
  clear hwA
  go_fit (law_turns wA (HG.out.below HBA.out))
  rintro e w1 ⟨rfl, hb1⟩
  have HB1 := Hid.intro (HBA.out.trans (hb1.mono HBA.out.size))
  clear hb1
  go_wp2_with fail
  go_fit (force_Sum a cap 20000000 fs w1 (HG.out.below HB1.out) (HF.out.below HB1.out) HS.out.len HS.out.wt0 (by decide) (fun f hf => Nat.le_trans (HS.out.sz f hf) (by decide)))
  rintro e w2 ⟨x, y, t, s1, s2, s3, s4, s5, hsum, h1, h2, h3, h4, h5, rfl, hb2⟩
  have HB2 := Hid.intro (HB1.out.trans (hb2.mono HB1.out.size))
  have hkk := HK.out x y t hsum
  obtain ⟨kd, hkd⟩ : ∃ kd, kindOf x y t = kd := ⟨_, rfl⟩
  rw [hkd] at hkk ⊢
  have HSUM := Hid.intro hsum
  clear hb2 h1 h2 h3 h4 h5 hkd hsum HK
  go_wp2_with fail
  obtain ⟨wB, hwB⟩ : ∃ wB, w2.alloc (.cells #[.int .i64 kd, .string s1, .string s2, .string s3, .string s4, .string s5] 34) = wB := ⟨_, rfl⟩
  have HB3 : Hid (Below w.heap.size w wB) := Hid.intro (by rw [← hwB]; exact HB2.out.alloc HB2.out.size _)
  rw [hwB]
  clear hwB
  go_fit (force_Alike_many a b cap cap2 fs.length m wB (.inr HM.out))
  rintro e w3 ⟨rfl, rfl⟩
  go_wp2
  go_ret
  exact ⟨rfl, HB3.out⟩

set_option maxRecDepth 100000 in
set_option maxHeartbeats 1000000 in
theorem turns_far (a b : Option Addr) (cap cap2 : Nat) (fs gs : List F4) (sx sy : ByteArray) (w : World) (hg : Glob w) (hf : FRow w a cap fs) (hf2 : FRow w b cap2 gs) (hs : Sized fs) (hs2 : Sized gs) (hsx : sx.size ≤ 1048576) (hsy : sy.size ≤ 1048576) (hk : ∀ x y t, Sums 0 0 fs x y t → kindOf x y t ≠ 3) :
    Calls Tryz.prog 4 #[.slice a fs.length cap, .slice b gs.length cap2, .agg #[.string sx, .string sy]] w fun e w' => e = .returned (.bool true) ∧ Below w.heap.size w w' := by
  have HG := Hid.intro hg
  have HF := Hid.intro hf
  have HF2 := Hid.intro hf2
  have HS := Hid.intro hs
  have HS2 := Hid.intro hs2
  have HK := Hid.intro hk
  have HSX := Hid.intro hsx
  have HSY := Hid.intro hsy
  clear hg hf hf2 hs hs2 hk hsx hsy
  go_enter Tryz.func4, Tryz.ntmps4
  go_wp2_with fail
  obtain ⟨wA, hwA⟩ : ∃ wA, w.alloc (.cells #[.string sx, .string sy] 25) = wA := ⟨_, rfl⟩
  have HBA : Hid (Below w.heap.size w wA) := Hid.intro (by rw [← hwA]; exact (Below.refl _ _).alloc (Nat.le_refl _) _)
  have HAB : Hid (SB wA w.heap.size 25 #[.string sx, .string sy]) := Hid.intro (by rw [← hwA]; exact SB.new w _ _)
  rw [hwA]
  clear hwA
  go_fit (law_turns wA (HG.out.below HBA.out))
  rintro e w1 ⟨rfl, hb1⟩
  have HB1 := Hid.intro (HBA.out.trans (hb1.mono HBA.out.size))
  have HC1 := Hid.intro hb1
  clear hb1
  go_wp2_with fail
  go_fit (force_Sum a cap 20000000 fs w1 (HG.out.below HB1.out) (HF.out.below HB1.out) HS.out.len HS.out.wt0 (by decide) (fun f hf => Nat.le_trans (HS.out.sz f hf) (by decide)))
  rintro e w2 ⟨x, y, t, s1, s2, s3, s4, s5, hsum, h1, h2, h3, h4, h5, rfl, hb2⟩
  have HB2 := Hid.intro (HB1.out.trans (hb2.mono HB1.out.size))
  have HC2 := Hid.intro (HC1.out.trans (hb2.mono HC1.out.size))
  have hkk := HK.out x y t hsum
  obtain ⟨kd, hkd⟩ : ∃ kd, kindOf x y t = kd := ⟨_, rfl⟩
  rw [hkd] at hkk ⊢
  have HSUM := Hid.intro hsum
  clear hb2 h1 h2 h3 h4 h5 hkd hsum HK
  go_wp2_with fail
  obtain ⟨wB, hwB⟩ : ∃ wB, w2.alloc (.cells #[.int .i64 kd, .string s1, .string s2, .string s3, .string s4, .string s5] 34) = wB := ⟨_, rfl⟩
  have HB3 : Hid (Below w.heap.size w wB) := Hid.intro (by rw [← hwB]; exact HB2.out.alloc HB2.out.size _)
  have HC3 : Hid (Below wA.heap.size wA wB) := Hid.intro (by rw [← hwB]; exact HC2.out.alloc HC2.out.size _)
  rw [hwB]
  clear hwB
  go_fit (force_Alike a b cap cap2 20000000 20000000 fs gs wB (HG.out.below HB3.out) (HF.out.below HB3.out) (HF2.out.below HB3.out) HS.out.len HS2.out.len HS.out.wt0 (by decide) HS2.out.wt0 (by decide) (fun f hf => Nat.le_trans (HS.out.sz f hf) (by decide)) (fun f hf => Nat.le_trans (HS2.out.sz f hf) (by decide)))
  rintro e w3 ⟨x0, y0, t0, x1, y1, t1, hsa, hsb, rfl, hb4⟩
  have HB4 := Hid.intro (HB3.out.trans (hb4.mono HB3.out.size))
  have HC4 := Hid.intro (HC3.out.trans (hb4.mono HC3.out.size))
  clear hb4
  by_cases hal : x0 = x1 ∧ y0 = y1 ∧ t0 = t1
  · rw [decide_eq_true hal]
    obtain ⟨rfl, rfl, rfl⟩ := hal
    obtain ⟨ox, hox⟩ := QOf.ex sx.data.toList
    obtain ⟨oy, hoy⟩ := QOf.ex sy.data.toList
    have HMA := Hid.intro (hsa.move ox oy)
    have HMB := Hid.intro (hsb.move ox oy)
    have HOX := Hid.intro hox
    have HOY := Hid.intro hoy
    clear hsa hsb hox hoy
    have hab := HAB.out.below HC4.out HAB.out.lt
    have k0 : _ = some (Value.string sx) := hab.cell 0
    have k1 : _ = some (Value.string sy) := hab.cell 1
    clear hab
    go_wp2_with fail
    go_fit (force_Total a cap 1048576 600000000 fs sx sy ox oy w3 (HG.out.below HB4.out) (HF.out.below HB4.out) HS.out.len (by decide) HS.out.wtm (by decide) (fun f hf => Nat.le_trans (HS.out.sz f hf) (by decide)) HSX.out HSY.out HOX.out HOY.out)
    rintro e w4 ⟨xa, ya, ta, v1, v2, v3, hsa, g1, g2, g3, rfl, hb5⟩
    obtain ⟨rfl, rfl, rfl⟩ := hsa.inj HMA.out
    have HB5 := Hid.intro (HB4.out.trans (hb5.mono HB4.out.size))
    have HC5 := Hid.intro (HC4.out.trans (hb5.mono HC4.out.size))
    have G1 := Hid.intro g1
    have G2 := Hid.intro g2
    have G3 := Hid.intro g3
    clear hb5 hsa g1 g2 g3 k0 k1
    obtain ⟨gV, hgV⟩ : ∃ gV, w4.heap.size = gV := ⟨_, rfl⟩
    obtain ⟨wC, hwC⟩ : ∃ wC, w4.alloc (.cells #[.string v1, .string v2] 25) = wC := ⟨_, rfl⟩
    have HB6 : Hid (Below w.heap.size w wC) := Hid.intro (by rw [← hwC]; exact HB5.out.alloc HB5.out.size _)
    have HC6 : Hid (Below wA.heap.size wA wC) := Hid.intro (by rw [← hwC]; exact HC5.out.alloc HC5.out.size _)
    have HV : Hid (SB wC gV 25 #[.string v1, .string v2]) := Hid.intro (by rw [← hwC, ← hgV]; exact SB.new w4 _ _)
    have hab := HAB.out.below HC6.out HAB.out.lt
    have k0 : _ = some (Value.string sx) := hab.cell 0
    have k1 : _ = some (Value.string sy) := hab.cell 1
    rw [← hwC] at k0 k1
    clear hab
    have HWC := Hid.intro hwC
    have HGV := Hid.intro hgV
    clear hwC hgV
    go_wp2_with fail
    rw [HWC.out, HGV.out]
    clear k0 k1
    go_fit (force_Total b cap2 1048576 600000000 gs sx sy ox oy wC (HG.out.below HB6.out) (HF2.out.below HB6.out) HS2.out.len (by decide) HS2.out.wtm (by decide) (fun f hf => Nat.le_trans (HS2.out.sz f hf) (by decide)) HSX.out HSY.out HOX.out HOY.out)
    rintro e w5 ⟨xb, yb, tb, u1, u2, u3, hsb, f1, f2, f3, rfl, hb7⟩
    obtain ⟨rfl, rfl, rfl⟩ := hsb.inj HMB.out
    obtain rfl : u1 = v1 := (bytes_eq (f1.inj G1.out)).trans (bytes_eq rfl).symm
    obtain rfl : u2 = v2 := (bytes_eq (f2.inj G2.out)).trans (bytes_eq rfl).symm
    obtain rfl : u3 = v3 := (bytes_eq (f3.inj G3.out)).trans (bytes_eq rfl).symm
    have hv := (HV.out.below hb7 HV.out.lt).alloc (.cells #[.string u1, .string u2] 25)
    have j0 : _ = some (Value.string u1) := hv.cell 0
    have j1 : _ = some (Value.string u2) := hv.cell 1
    have hne : w5.heap.size ≠ gV := by
      have := HV.out.lt
      have := hb7.size
      omega
    have HB7 := Hid.intro (HB6.out.trans (hb7.mono HB6.out.size))
    clear hsb f1 f2 f3 hb7 hv
    go_wp2_with fail
    go_ret
    exact ⟨by simp, HB7.out.alloc HB7.out.size _⟩
  · rw [decide_eq_false hal]
    clear hsa hsb hal
    go_wp2
    go_ret
    exact ⟨rfl, HB4.out⟩
end Go.Proofs.YtgnmjaponiclhaaGreatDoor
namespace Go.Proofs.YtgnmjaponiclhaaGreatDoor
open Go.RowKit
set_option linter.unusedVariables false
set_option linter.unusedSimpArgs false

theorem sgn_near (x y t : Rat) : sgn3 (nearX x y t * x + nearY x y t * y).num = 0 := by
  rw [near_square]; rfl


theorem one_row {w : World} {g : Nat} {s1 s2 s3 s4 : ByteArray} (h : SB w g 29 #[.string s1, .string s2, .string s3, .string s4]) : FRow w (some ⟨g, 0, none⟩) 1 [⟨s1, s2, s3, s4⟩] := by
  refine ⟨by simp, fun i f hi => ⟨g, 0, rfl, h.lt, ?_⟩⟩
  match i with
  | 0 => simp at hi; subst hi; exact ⟨h.cell 0, h.cell 1, h.cell 2, h.cell 3⟩
  | i + 1 => simp at hi

set_option maxRecDepth 100000 in
set_option maxHeartbeats 4000000 in
theorem turns_one_many (a b : Option Addr) (cap cap2 m : Nat) (fs : List F4) (sx sy : ByteArray) (w : World) (hg : Glob w) (hf : FRow w a cap fs) (hs : Sized fs) (hm : 60 < m) (hk : ∀ x y t, Sums 0 0 fs x y t → kindOf x y t = 3) :
    Calls Tryz.prog 4 #[.slice a fs.length cap, .slice b m cap2, .agg #[.string sx, .string sy]] w fun e w' => e = .returned (.bool true) ∧ Below w.heap.size w w' := by
  have HG := Hid.intro hg
  have HF := Hid.intro hf
  have HS := Hid.intro hs
  have HK := Hid.intro hk
  have HM := Hid.intro hm
  clear hg hf hs hk hm
  go_enter Tryz.func4, Tryz.ntmps4
  go_wp2_with fail
  obtain ⟨wA, hwA⟩ : ∃ wA, w.alloc (.cells #[.string sx, .string sy] 25) = wA := ⟨_, rfl⟩
  have HBA : Hid (Below w.heap.size w wA) := Hid.intro (by rw [← hwA]; exact (Below.refl _ _).alloc (Nat.le_refl _) _)
  have HAB : Hid (SB wA w.heap.size 25 #[.string sx, .string sy]) := Hid.intro (by rw [← hwA]; exact SB.new w _ _)
  rw [hwA]
  clear hwA
  go_fit (law_turns wA (HG.out.below HBA.out))
  rintro e w1 ⟨rfl, hb1⟩
  have HB1 := Hid.intro (HBA.out.trans (hb1.mono HBA.out.size))
  have HC1 := Hid.intro hb1
  clear hb1
  go_wp2_with fail
  go_fit (force_Sum a cap 20000000 fs w1 (HG.out.below HB1.out) (HF.out.below HB1.out) HS.out.len HS.out.wt0 (by decide) (fun f hf => Nat.le_trans (HS.out.sz f hf) (by decide)))
  rintro e w2 ⟨x, y, t, s1, s2, s3, s4, s5, hsum, h1, h2, h3, h4, h5, rfl, hb2⟩
  have HB2 := Hid.intro (HB1.out.trans (hb2.mono HB1.out.size))
  have HC2 := Hid.intro (HC1.out.trans (hb2.mono HC1.out.size))
  have hkd := HK.out x y t hsum
  rw [hkd]
  have HSUM := Hid.intro hsum
  have HSZ := Hid.intro (one_sz hsum h1 h2 h4 h5)
  have HON := Hid.intro (one_sums hkd h1 h2 h4 h5)
  have H1 := Hid.intro h1
  have H2 := Hid.intro h2
  have H4 := Hid.intro h4
  have H5 := Hid.intro h5
  clear hb2 h1 h2 h3 h4 h5 hkd hsum HK
  go_wp2_with fail
  obtain ⟨gS, hgS⟩ : ∃ gS, w2.heap.size = gS := ⟨_, rfl⟩
  obtain ⟨wB, hwB⟩ : ∃ wB, (w2.alloc (.cells #[.int .i64 3, .string s1, .string s2, .string s3, .string s4, .string s5] 34)).alloc (.cells #[.string s4, .string s5, .string s1, .string s2] 29) = wB := ⟨_, rfl⟩
  have HB3 : Hid (Below w.heap.size w wB) := Hid.intro (by rw [← hwB]; exact HB2.out.trans ((Below.new2 w2 _ _).mono HB2.out.size))
  have HC3 : Hid (Below wA.heap.size wA wB) := Hid.intro (by rw [← hwB]; exact HC2.out.trans ((Below.new2 w2 _ _).mono HC2.out.size))
  have HSB : Hid (SB wB gS 34 #[.int .i64 3, .string s1, .string s2, .string s3, .string s4, .string s5]) := Hid.intro (by rw [← hwB, ← hgS]; exact (SB.new w2 _ _).alloc _)
  have HFB : Hid (SB wB (gS + 1) 29 #[.string s4, .string s5, .string s1, .string s2]) := Hid.intro (by rw [← hwB, ← hgS]; exact SB.new2 w2 _ _ _ _)
  rw [hwB, hgS]
  have HGS := Hid.intro hgS
  clear hwB hgS
  have hsz : sz ⟨s4, s5, s1, s2⟩ ≤ 600000000 := by
    have h1 := HSZ.out
    have h2 := HS.out.wt0
    omega
  go_fit (force_Alike a (some ⟨gS + 1, 0, none⟩) cap 1 20000000 10000000000 fs [⟨s4, s5, s1, s2⟩] wB (HG.out.below HB3.out) (HF.out.below HB3.out) (one_row HFB.out) HS.out.len (by simp) HS.out.wt0 (by decide) (by simp only [wt]; omega) (by decide) (fun f hf => Nat.le_trans (HS.out.sz f hf) (by decide)) (fun f hf => by
    obtain rfl : f = _ := by simpa using hf
    exact Nat.le_trans hsz (by decide)))
  rintro e w3 ⟨x0, y0, t0, x1, y1, t1, hsa, hsb, rfl, hb4⟩
  obtain ⟨rfl, rfl, rfl⟩ := hsa.inj HSUM.out
  obtain ⟨rfl, rfl, rfl⟩ := hsb.inj HON.out
  rw [decide_eq_true ⟨rfl, rfl, rfl⟩]
  have HB4 := Hid.intro (HB3.out.trans (hb4.mono HB3.out.size))
  have HC4 := Hid.intro (HC3.out.trans (hb4.mono HC3.out.size))
  have hsb4 := HSB.out.below hb4 HSB.out.lt
  have HSB4 := Hid.intro hsb4
  have k1 : _ = some (Value.string s1) := hsb4.cell 1
  have k2 : _ = some (Value.string s2) := hsb4.cell 2
  have k4 : _ = some (Value.string s4) := hsb4.cell 4
  have k5 : _ = some (Value.string s5) := hsb4.cell 5
  clear hb4 hsa hsb hsb4 HSZ
  go_wp2_with fail
  have HR := Hid.intro (RBag.start (HG.out.below HB4.out).1)
  have hn1 : s1.size ≤ 600000000 := by have : sz ⟨s4, s5, s1, s2⟩ = s4.size + s5.size + s1.size + s2.size := rfl; omega
  have hn2 : s2.size ≤ 600000000 := by have : sz ⟨s4, s5, s1, s2⟩ = s4.size + s5.size + s1.size + s2.size := rfl; omega
  have hn4 : s4.size ≤ 600000000 := by have : sz ⟨s4, s5, s1, s2⟩ = s4.size + s5.size + s1.size + s2.size := rfl; omega
  have hn5 : s5.size ≤ 600000000 := by have : sz ⟨s4, s5, s1, s2⟩ = s4.size + s5.size + s1.size + s2.size := rfl; omega
  clear hsz k1 k2 k4 k5
  have hT := HSB4.out.below HR.out.base HSB4.out.lt
  have k1 : _ = some (Value.string s1) := hT.cell 1
  have k2 : _ = some (Value.string s2) := hT.cell 2
  have k4 : _ = some (Value.string s4) := hT.cell 4
  have k5 : _ = some (Value.string s5) := hT.cell 5
  clear hT
  go_region_held3 (fun w' => w'.cell? ⟨gS, 1, none⟩ = some (.string s1) ∧ w'.cell? ⟨gS, 2, none⟩ = some (.string s2) ∧ w'.cell? ⟨gS, 4, none⟩ = some (.string s4) ∧ w'.cell? ⟨gS, 5, none⟩ = some (.string s5)) ((first | (simp [*]; done) | go_keep)) (first
    |
     (go_at_call_of 23 (Value.string s4)
      apply Calls.mono
      apply RBag.of (w0 := w3) (n := 600000000)
      (focus (first | exact HR.out | exact HR.out.drew))
      assumption
      decide
      rintro e wn ⟨qq, hq, bq, rfl, hbag⟩
      obtain rfl := hq.inj H4.out.back
      clear HR
      have HR := Hid.intro hbag
      clear hq hbag
      have hT := HSB4.out.below HR.out.base HSB4.out.lt
      have k1 : _ = some (Value.string s1) := hT.cell 1
      have k2 : _ = some (Value.string s2) := hT.cell 2
      have k4 : _ = some (Value.string s4) := hT.cell 4
      have k5 : _ = some (Value.string s5) := hT.cell 5
      clear hT
      skip)
    |
     (go_at_call_of 23 (Value.string s1)
      apply Calls.mono
      apply RBag.of (w0 := w3) (n := 600000000)
      (focus (first | exact HR.out | exact HR.out.drew))
      assumption
      decide
      rintro e wn ⟨qq, hq, bq, rfl, hbag⟩
      obtain rfl := hq.inj H1.out.back
      clear HR
      have HR := Hid.intro hbag
      clear hq hbag
      have hT := HSB4.out.below HR.out.base HSB4.out.lt
      have k1 : _ = some (Value.string s1) := hT.cell 1
      have k2 : _ = some (Value.string s2) := hT.cell 2
      have k4 : _ = some (Value.string s4) := hT.cell 4
      have k5 : _ = some (Value.string s5) := hT.cell 5
      clear hT
      skip)
    |
     (go_at_call_of 23 (Value.string s5)
      apply Calls.mono
      apply RBag.of (w0 := w3) (n := 600000000)
      (focus (first | exact HR.out | exact HR.out.drew))
      assumption
      decide
      rintro e wn ⟨qq, hq, bq, rfl, hbag⟩
      obtain rfl := hq.inj H5.out.back
      clear HR
      have HR := Hid.intro hbag
      clear hq hbag
      have hT := HSB4.out.below HR.out.base HSB4.out.lt
      have k1 : _ = some (Value.string s1) := hT.cell 1
      have k2 : _ = some (Value.string s2) := hT.cell 2
      have k4 : _ = some (Value.string s4) := hT.cell 4
      have k5 : _ = some (Value.string s5) := hT.cell 5
      clear hT
      skip)
    |
     (go_at_call_of 23 (Value.string s2)
      apply Calls.mono
      apply RBag.of (w0 := w3) (n := 600000000)
      (focus (first | exact HR.out | exact HR.out.drew))
      assumption
      decide
      rintro e wn ⟨qq, hq, bq, rfl, hbag⟩
      obtain rfl := hq.inj H2.out.back
      clear HR
      have HR := Hid.intro hbag
      clear hq hbag
      have hT := HSB4.out.below HR.out.base HSB4.out.lt
      have k1 : _ = some (Value.string s1) := hT.cell 1
      have k2 : _ = some (Value.string s2) := hT.cell 2
      have k4 : _ = some (Value.string s4) := hT.cell 4
      have k5 : _ = some (Value.string s5) := hT.cell 5
      clear hT
      skip)
    |
     (go_at_call 22
      apply Calls.mono
      apply RBag.mul (w0 := w3)
      (focus (first | exact HR.out | exact HR.out.drew))
      (focus (repeat (first | exact List.Mem.head _ | apply List.Mem.tail)))
      (focus (repeat (first | exact List.Mem.head _ | apply List.Mem.tail)))
      omega
      rintro e wn ⟨bq, rfl, hbag⟩
      clear HR
      have HR := Hid.intro hbag
      clear hbag
      have hT := HSB4.out.below HR.out.base HSB4.out.lt
      have k1 : _ = some (Value.string s1) := hT.cell 1
      have k2 : _ = some (Value.string s2) := hT.cell 2
      have k4 : _ = some (Value.string s4) := hT.cell 4
      have k5 : _ = some (Value.string s5) := hT.cell 5
      clear hT
      skip)
    |
     (go_at_call 21
      apply Calls.mono
      apply RBag.add (w0 := w3)
      (focus (first | exact HR.out | exact HR.out.drew))
      (focus (repeat (first | exact List.Mem.head _ | apply List.Mem.tail)))
      (focus (repeat (first | exact List.Mem.head _ | apply List.Mem.tail)))
      omega
      rintro e wn ⟨bq, rfl, hbag⟩
      clear HR
      have HR := Hid.intro hbag
      clear hbag
      have hT := HSB4.out.below HR.out.base HSB4.out.lt
      have k1 : _ = some (Value.string s1) := hT.cell 1
      have k2 : _ = some (Value.string s2) := hT.cell 2
      have k4 : _ = some (Value.string s4) := hT.cell 4
      have k5 : _ = some (Value.string s5) := hT.cell 5
      clear hT
      skip)
    |
     (go_at_call 24
      apply Calls.mono
      apply RBag.sign (w0 := w3)
      (focus (first | exact HR.out | exact HR.out.drew))
      (focus (repeat (first | exact List.Mem.head _ | apply List.Mem.tail)))
      rintro e wn ⟨rfl, rfl⟩
      rw [sgn_near]
      skip)
    )
  all_goals
    have HB5 := Hid.intro (HB4.out.trans (HR.out.base.mono HB4.out.size))
    clear k1 k2 k4 k5 HR HSB4 H1 H2 H4 H5 HON HSUM
    go_wp2_with fail
    go_fit (force_Alike_many a b cap cap2 fs.length m _ (.inr HM.out))
    rintro e wz ⟨rfl, rfl⟩
    go_wp2
    go_ret
    exact ⟨rfl, HB5.out⟩

end Go.Proofs.YtgnmjaponiclhaaGreatDoor
