/- rafterlaw's ForceTurns where the forces come to one, and the whole. What the bulk of forces' readings gives. From what a place reads as to its texts. From what a call's arguments read as to where forces lie. What a row's premises give, whatever its law: the tables that lie. What a row's premises give: the tables that lie, and the forces that a call's arguments read as. -/
import Derived.Test.YtgnmjaponiclhaaGreatDoorC40LawD
import Derived.Test.YtgnmjaponiclhaaGreatDoorRows
import Derived.Test.YtgnmjaponiclhaaGreatDoorC33FVal
import Derived.Deep.Slices
import Derived.KernelRfl
import Derived.ProofKit
import Derived.OpenShut
import Derived.Carry
import Derived.Lib.LaidTab
import Derived.Shelf.LaysM
namespace Go.Proofs.YtgnmjaponiclhaaGreatDoor
open Go.RowKit
set_option linter.unusedVariables false
set_option linter.unusedSimpArgs false

theorem Sums.exR (l : List F4) : ∃ x y t, Sums 0 0 l.reverse x y t := by
  induction l with
  | nil => exact ⟨0, 0, 0, Sums.nil⟩
  | cons f l ih =>
    obtain ⟨x, y, t, h⟩ := ih
    obtain ⟨a, ha⟩ := QOf.ex f.ax.data.toList
    obtain ⟨b, hb⟩ := QOf.ex f.ay.data.toList
    obtain ⟨c, hc⟩ := QOf.ex f.wx.data.toList
    obtain ⟨d, hd⟩ := QOf.ex f.wy.data.toList
    rw [List.reverse_cons]
    exact ⟨_, _, _, Sums.snoc h ⟨ha, hb, hc, hd⟩⟩
theorem Sums.ex (l : List F4) : ∃ x y t, Sums 0 0 l x y t := by
  have := Sums.exR l.reverse
  rwa [List.reverse_reverse] at this


set_option maxRecDepth 100000 in
set_option maxHeartbeats 4000000 in
theorem turns_one (a b : Option Addr) (cap cap2 : Nat) (fs gs : List F4) (sx sy : ByteArray) (w : World) (hg : Glob w) (hf : FRow w a cap fs) (hf2 : FRow w b cap2 gs) (hs : Sized fs) (hs2 : Sized gs) (hsx : sx.size ≤ 1048576) (hsy : sy.size ≤ 1048576) (hk : ∀ x y t, Sums 0 0 fs x y t → kindOf x y t = 3) :
    Calls Tryz.prog 4 #[.slice a fs.length cap, .slice b gs.length cap2, .agg #[.string sx, .string sy]] w fun e w' => e = .returned (.bool true) ∧ Below w.heap.size w w' := by
  have HG := Hid.intro hg
  have HF := Hid.intro hf
  have HF2 := Hid.intro hf2
  have HS := Hid.intro hs
  have HS2 := Hid.intro hs2
  have HK := Hid.intro hk
  have HSX := Hid.intro hsx
  have HSY := Hid.intro hsy
  clear hg hf hf2 hs hs2 hk hsx hsy
  go_enter Tryz.func4, Tryz.ntmps4
  go_wp2_with fail
  obtain ⟨wA, hwA⟩ : ∃ wA, w.alloc (.cells #[.string sx, .string sy] 25) = wA := ⟨_, rfl⟩
  have HBA : Hid (Below w.heap.size w wA) := Hid.intro (by rw [← hwA]; exact (Below.refl _ _).alloc (Nat.le_refl _) _)
  have HAB : Hid (SB wA w.heap.size 25 #[.string sx, .string sy]) := Hid.intro (by rw [← hwA]; exact SB.new w _ _)
  rw [hwA]
  clear hwA
  go_fit (law_turns wA (HG.out.below HBA.out))
  rintro e w1 ⟨rfl, hb1⟩
  have HB1 := Hid.intro (HBA.out.trans (hb1.mono HBA.out.size))
  have HC1 := Hid.intro hb1
  clear hb1
  go_wp2_with fail
  go_fit (force_Sum a cap 20000000 fs w1 (HG.out.below HB1.out) (HF.out.below HB1.out) HS.out.len HS.out.wt0 (by decide) (fun f hf => Nat.le_trans (HS.out.sz f hf) (by decide)))
  rintro e w2 ⟨x, y, t, s1, s2, s3, s4, s5, hsum, h1, h2, h3, h4, h5, rfl, hb2⟩
  have HB2 := Hid.intro (HB1.out.trans (hb2.mono HB1.out.size))
  have HC2 := Hid.intro (HC1.out.trans (hb2.mono HC1.out.size))
  have hkd := HK.out x y t hsum
  rw [hkd]
  have HSUM := Hid.intro hsum
  have HSZ := Hid.intro (one_sz hsum h1 h2 h4 h5)
  have HON := Hid.intro (one_sums hkd h1 h2 h4 h5)
  have H1 := Hid.intro h1
  have H2 := Hid.intro h2
  have H4 := Hid.intro h4
  have H5 := Hid.intro h5
  clear hb2 h1 h2 h3 h4 h5 hkd hsum HK
  go_wp2_with fail
  obtain ⟨gS, hgS⟩ : ∃ gS, w2.heap.size = gS := ⟨_, rfl⟩
  obtain ⟨wB, hwB⟩ : ∃ wB, (w2.alloc (.cells #[.int .i64 3, .string s1, .string s2, .string s3, .string s4, .string s5] 34)).alloc (.cells #[.string s4, .string s5, .string s1, .string s2] 29) = wB := ⟨_, rfl⟩
  have HB3 : Hid (Below w.heap.size w wB) := Hid.intro (by rw [← hwB]; exact HB2.out.trans ((Below.new2 w2 _ _).mono HB2.out.size))
  have HC3 : Hid (Below wA.heap.size wA wB) := Hid.intro (by rw [← hwB]; exact HC2.out.trans ((Below.new2 w2 _ _).mono HC2.out.size))
  have HSB : Hid (SB wB gS 34 #[.int .i64 3, .string s1, .string s2, .string s3, .string s4, .string s5]) := Hid.intro (by rw [← hwB, ← hgS]; exact (SB.new w2 _ _).alloc _)
  have HFB : Hid (SB wB (gS + 1) 29 #[.string s4, .string s5, .string s1, .string s2]) := Hid.intro (by rw [← hwB, ← hgS]; exact SB.new2 w2 _ _ _ _)
  rw [hwB, hgS]
  have HGS := Hid.intro hgS
  clear hwB hgS
  have hsz : sz ⟨s4, s5, s1, s2⟩ ≤ 600000000 := by
    have h1 := HSZ.out
    have h2 := HS.out.wt0
    omega
  go_fit (force_Alike a (some ⟨gS + 1, 0, none⟩) cap 1 20000000 10000000000 fs [⟨s4, s5, s1, s2⟩] wB (HG.out.below HB3.out) (HF.out.below HB3.out) (one_row HFB.out) HS.out.len (by simp) HS.out.wt0 (by decide) (by simp only [wt]; omega) (by decide) (fun f hf => Nat.le_trans (HS.out.sz f hf) (by decide)) (fun f hf => by
    obtain rfl : f = _ := by simpa using hf
    exact Nat.le_trans hsz (by decide)))
  rintro e w3 ⟨x0, y0, t0, x1, y1, t1, hsa, hsb, rfl, hb4⟩
  obtain ⟨rfl, rfl, rfl⟩ := hsa.inj HSUM.out
  obtain ⟨rfl, rfl, rfl⟩ := hsb.inj HON.out
  rw [decide_eq_true ⟨rfl, rfl, rfl⟩]
  have HB4 := Hid.intro (HB3.out.trans (hb4.mono HB3.out.size))
  have HC4 := Hid.intro (HC3.out.trans (hb4.mono HC3.out.size))
  have hsb4 := HSB.out.below hb4 HSB.out.lt
  have HSB4 := Hid.intro hsb4
  have k1 : _ = some (Value.string s1) := hsb4.cell 1
  have k2 : _ = some (Value.string s2) := hsb4.cell 2
  have k4 : _ = some (Value.string s4) := hsb4.cell 4
  have k5 : _ = some (Value.string s5) := hsb4.cell 5
  clear hb4 hsa hsb hsb4 HSZ
  go_wp2_with fail
  have HR := Hid.intro (RBag.start (HG.out.below HB4.out).1)
  have hn1 : s1.size ≤ 600000000 := by have : sz ⟨s4, s5, s1, s2⟩ = s4.size + s5.size + s1.size + s2.size := rfl; omega
  have hn2 : s2.size ≤ 600000000 := by have : sz ⟨s4, s5, s1, s2⟩ = s4.size + s5.size + s1.size + s2.size := rfl; omega
  have hn4 : s4.size ≤ 600000000 := by have : sz ⟨s4, s5, s1, s2⟩ = s4.size + s5.size + s1.size + s2.size := rfl; omega
  have hn5 : s5.size ≤ 600000000 := by have : sz ⟨s4, s5, s1, s2⟩ = s4.size + s5.size + s1.size + s2.size := rfl; omega
  clear hsz k1 k2 k4 k5
  have hT := HSB4.out.below HR.out.base HSB4.out.lt
  have k1 : _ = some (Value.string s1) := hT.cell 1
  have k2 : _ = some (Value.string s2) := hT.cell 2
  have k4 : _ = some (Value.string s4) := hT.cell 4
  have k5 : _ = some (Value.string s5) := hT.cell 5
  clear hT
  go_region_held3 (fun w' => w'.cell? ⟨gS, 1, none⟩ = some (.string s1) ∧ w'.cell? ⟨gS, 2, none⟩ = some (.string s2) ∧ w'.cell? ⟨gS, 4, none⟩ = some (.string s4) ∧ w'.cell? ⟨gS, 5, none⟩ = some (.string s5)) ((first | (simp [*]; done) | go_keep)) (first
    |
     (go_at_call_of 23 (Value.string s4)
      apply Calls.mono
      apply RBag.of (w0 := w3) (n := 600000000)
      (focus (first | exact HR.out | exact HR.out.drew))
      assumption
      decide
      rintro e wn ⟨qq, hq, bq, rfl, hbag⟩
      obtain rfl := hq.inj H4.out.back
      clear HR
      have HR := Hid.intro hbag
      clear hq hbag
      have hT := HSB4.out.below HR.out.base HSB4.out.lt
      have k1 : _ = some (Value.string s1) := hT.cell 1
      have k2 : _ = some (Value.string s2) := hT.cell 2
      have k4 : _ = some (Value.string s4) := hT.cell 4
      have k5 : _ = some (Value.string s5) := hT.cell 5
      clear hT
      skip)
    |
     (go_at_call_of 23 (Value.string s1)
      apply Calls.mono
      apply RBag.of (w0 := w3) (n := 600000000)
      (focus (first | exact HR.out | exact HR.out.drew))
      assumption
      decide
      rintro e wn ⟨qq, hq, bq, rfl, hbag⟩
      obtain rfl := hq.inj H1.out.back
      clear HR
      have HR := Hid.intro hbag
      clear hq hbag
      have hT := HSB4.out.below HR.out.base HSB4.out.lt
      have k1 : _ = some (Value.string s1) := hT.cell 1
      have k2 : _ = some (Value.string s2) := hT.cell 2
      have k4 : _ = some (Value.string s4) := hT.cell 4
      have k5 : _ = some (Value.string s5) := hT.cell 5
      clear hT
      skip)
    |
     (go_at_call_of 23 (Value.string s5)
      apply Calls.mono
      apply RBag.of (w0 := w3) (n := 600000000)
      (focus (first | exact HR.out | exact HR.out.drew))
      assumption
      decide
      rintro e wn ⟨qq, hq, bq, rfl, hbag⟩
      obtain rfl := hq.inj H5.out.back
      clear HR
      have HR := Hid.intro hbag
      clear hq hbag
      have hT := HSB4.out.below HR.out.base HSB4.out.lt
      have k1 : _ = some (Value.string s1) := hT.cell 1
      have k2 : _ = some (Value.string s2) := hT.cell 2
      have k4 : _ = some (Value.string s4) := hT.cell 4
      have k5 : _ = some (Value.string s5) := hT.cell 5
      clear hT
      skip)
    |
     (go_at_call_of 23 (Value.string s2)
      apply Calls.mono
      apply RBag.of (w0 := w3) (n := 600000000)
      (focus (first | exact HR.out | exact HR.out.drew))
      assumption
      decide
      rintro e wn ⟨qq, hq, bq, rfl, hbag⟩
      obtain rfl := hq.inj H2.out.back
      clear HR
      have HR := Hid.intro hbag
      clear hq hbag
      have hT := HSB4.out.below HR.out.base HSB4.out.lt
      have k1 : _ = some (Value.string s1) := hT.cell 1
      have k2 : _ = some (Value.string s2) := hT.cell 2
      have k4 : _ = some (Value.string s4) := hT.cell 4
      have k5 : _ = some (Value.string s5) := hT.cell 5
      clear hT
      skip)
    |
     (go_at_call 22
      apply Calls.mono
      apply RBag.mul (w0 := w3)
      (focus (first | exact HR.out | exact HR.out.drew))
      (focus (repeat (first | exact List.Mem.head _ | apply List.Mem.tail)))
      (focus (repeat (first | exact List.Mem.head _ | apply List.Mem.tail)))
      omega
      rintro e wn ⟨bq, rfl, hbag⟩
      clear HR
      have HR := Hid.intro hbag
      clear hbag
      have hT := HSB4.out.below HR.out.base HSB4.out.lt
      have k1 : _ = some (Value.string s1) := hT.cell 1
      have k2 : _ = some (Value.string s2) := hT.cell 2
      have k4 : _ = some (Value.string s4) := hT.cell 4
      have k5 : _ = some (Value.string s5) := hT.cell 5
      clear hT
      skip)
    |
     (go_at_call 21
      apply Calls.mono
      apply RBag.add (w0 := w3)
      (focus (first | exact HR.out | exact HR.out.drew))
      (focus (repeat (first | exact List.Mem.head _ | apply List.Mem.tail)))
      (focus (repeat (first | exact List.Mem.head _ | apply List.Mem.tail)))
      omega
      rintro e wn ⟨bq, rfl, hbag⟩
      clear HR
      have HR := Hid.intro hbag
      clear hbag
      have hT := HSB4.out.below HR.out.base HSB4.out.lt
      have k1 : _ = some (Value.string s1) := hT.cell 1
      have k2 : _ = some (Value.string s2) := hT.cell 2
      have k4 : _ = some (Value.string s4) := hT.cell 4
      have k5 : _ = some (Value.string s5) := hT.cell 5
      clear hT
      skip)
    |
     (go_at_call 24
      apply Calls.mono
      apply RBag.sign (w0 := w3)
      (focus (first | exact HR.out | exact HR.out.drew))
      (focus (repeat (first | exact List.Mem.head _ | apply List.Mem.tail)))
      rintro e wn ⟨rfl, rfl⟩
      rw [sgn_near]
      skip)
    )
  have HB5 := Hid.intro (HB4.out.trans (HR.out.base.mono HB4.out.size))
  have HC5 := Hid.intro (HC4.out.trans (HR.out.base.mono HC4.out.size))
  clear k1 k2 k4 k5 HR HSB4 H1 H2 H4 H5 HON HSUM
  go_wp2_with fail
  go_fit (force_Alike a b cap cap2 20000000 20000000 fs gs wn (HG.out.below HB5.out) (HF.out.below HB5.out) (HF2.out.below HB5.out) HS.out.len HS2.out.len HS.out.wt0 (by decide) HS2.out.wt0 (by decide) (fun f hf => Nat.le_trans (HS.out.sz f hf) (by decide)) (fun f hf => Nat.le_trans (HS2.out.sz f hf) (by decide)))
  rintro e w7 ⟨x0, y0, t0, x1, y1, t1, hsa, hsb, rfl, hb4⟩
  have HB4 := Hid.intro (HB5.out.trans (hb4.mono HB5.out.size))
  have HC4 := Hid.intro (HC5.out.trans (hb4.mono HC5.out.size))
  clear hb4
  by_cases hal : x0 = x1 ∧ y0 = y1 ∧ t0 = t1
  · rw [decide_eq_true hal]
    obtain ⟨rfl, rfl, rfl⟩ := hal
    obtain ⟨ox, hox⟩ := QOf.ex sx.data.toList
    obtain ⟨oy, hoy⟩ := QOf.ex sy.data.toList
    have HMA := Hid.intro (hsa.move ox oy)
    have HMB := Hid.intro (hsb.move ox oy)
    have HOX := Hid.intro hox
    have HOY := Hid.intro hoy
    clear hsa hsb hox hoy
    have hab := HAB.out.below HC4.out HAB.out.lt
    have k0 : _ = some (Value.string sx) := hab.cell 0
    have k1 : _ = some (Value.string sy) := hab.cell 1
    clear hab
    go_wp2_with fail
    go_fit (force_Total a cap 1048576 600000000 fs sx sy ox oy w7 (HG.out.below HB4.out) (HF.out.below HB4.out) HS.out.len (by decide) HS.out.wtm (by decide) (fun f hf => Nat.le_trans (HS.out.sz f hf) (by decide)) HSX.out HSY.out HOX.out HOY.out)
    rintro e w8 ⟨xa, ya, ta, v1, v2, v3, hsa, g1, g2, g3, rfl, hb5⟩
    obtain ⟨rfl, rfl, rfl⟩ := hsa.inj HMA.out
    have HB5 := Hid.intro (HB4.out.trans (hb5.mono HB4.out.size))
    have HC5 := Hid.intro (HC4.out.trans (hb5.mono HC4.out.size))
    have G1 := Hid.intro g1
    have G2 := Hid.intro g2
    have G3 := Hid.intro g3
    clear hb5 hsa g1 g2 g3 k0 k1
    obtain ⟨gV, hgV⟩ : ∃ gV, w8.heap.size = gV := ⟨_, rfl⟩
    obtain ⟨wQ, hwQ⟩ : ∃ wQ, w8.alloc (.cells #[.string v1, .string v2] 25) = wQ := ⟨_, rfl⟩
    have HB6 : Hid (Below w.heap.size w wQ) := Hid.intro (by rw [← hwQ]; exact HB5.out.alloc HB5.out.size _)
    have HC6 : Hid (Below wA.heap.size wA wQ) := Hid.intro (by rw [← hwQ]; exact HC5.out.alloc HC5.out.size _)
    have HV : Hid (SB wQ gV 25 #[.string v1, .string v2]) := Hid.intro (by rw [← hwQ, ← hgV]; exact SB.new w8 _ _)
    have hab := HAB.out.below HC6.out HAB.out.lt
    have k0 : _ = some (Value.string sx) := hab.cell 0
    have k1 : _ = some (Value.string sy) := hab.cell 1
    rw [← hwQ] at k0 k1
    clear hab
    have HWC := Hid.intro hwQ
    have HGV := Hid.intro hgV
    clear hwQ hgV
    go_wp2_with fail
    rw [HWC.out, HGV.out]
    clear k0 k1
    go_fit (force_Total b cap2 1048576 600000000 gs sx sy ox oy wQ (HG.out.below HB6.out) (HF2.out.below HB6.out) HS2.out.len (by decide) HS2.out.wtm (by decide) (fun f hf => Nat.le_trans (HS2.out.sz f hf) (by decide)) HSX.out HSY.out HOX.out HOY.out)
    rintro e w9 ⟨xb, yb, tb, u1, u2, u3, hsb, f1, f2, f3, rfl, hb7⟩
    obtain ⟨rfl, rfl, rfl⟩ := hsb.inj HMB.out
    obtain rfl : u1 = v1 := (bytes_eq (f1.inj G1.out)).trans (bytes_eq rfl).symm
    obtain rfl : u2 = v2 := (bytes_eq (f2.inj G2.out)).trans (bytes_eq rfl).symm
    obtain rfl : u3 = v3 := (bytes_eq (f3.inj G3.out)).trans (bytes_eq rfl).symm
    have hv := (HV.out.below hb7 HV.out.lt).alloc (.cells #[.string u1, .string u2] 25)
    have j0 : _ = some (Value.string u1) := hv.cell 0
    have j1 : _ = some (Value.string u2) := hv.cell 1
    have hne : w9.heap.size ≠ gV := by
      have := HV.out.lt
      have := hb7.size
      omega
    have HB7 := Hid.intro (HB6.out.trans (hb7.mono HB6.out.size))
    clear hsb f1 f2 f3 hb7 hv
    go_wp2_with fail
    go_ret
    exact ⟨by simp, HB7.out.alloc HB7.out.size _⟩
  · rw [decide_eq_false hal]
    clear hsa hsb hal
    go_wp2
    go_ret
    exact ⟨rfl, HB4.out⟩

/-- the law at forces that are not too many letters -/
theorem law_ForceTurns (a b : Option Addr) (cap cap2 : Nat) (fs gs : List F4) (sx sy : ByteArray) (w : World) (hg : Glob w) (hf : FRow w a cap fs) (hf2 : FRow w b cap2 gs) (hs : fs.length ≤ 60 → Sized fs) (hs2 : gs.length ≤ 60 → Sized gs) (hsx : sx.size ≤ 1048576) (hsy : sy.size ≤ 1048576) :
    Calls Tryz.prog 4 #[.slice a fs.length cap, .slice b gs.length cap2, .agg #[.string sx, .string sy]] w fun e w' => e = .returned (.bool true) ∧ Below w.heap.size w w' := by
  by_cases hl : 60 < fs.length
  · exact turns_many a b cap cap2 fs.length gs.length sx sy w hg hl
  have h1 := hs (by omega)
  obtain ⟨x, y, t, hsum⟩ := Sums.ex fs
  by_cases hk : kindOf x y t = 3
  · have hk' : ∀ x y t, Sums 0 0 fs x y t → kindOf x y t = 3 := by
      intro x' y' t' h
      obtain ⟨rfl, rfl, rfl⟩ := h.inj hsum
      exact hk
    by_cases hm : 60 < gs.length
    · exact turns_one_many a b cap cap2 gs.length fs sx sy w hg hf h1 hm hk'
    · exact turns_one a b cap cap2 fs gs sx sy w hg hf hf2 h1 (hs2 (by omega)) hsx hsy hk'
  · have hk' : ∀ x y t, Sums 0 0 fs x y t → kindOf x y t ≠ 3 := by
      intro x' y' t' h
      obtain ⟨rfl, rfl, rfl⟩ := h.inj hsum
      exact hk
    by_cases hm : 60 < gs.length
    · exact turns_far_many a b cap cap2 gs.length fs sx sy w hg hf h1 hm hk'
    · exact turns_far a b cap cap2 fs gs sx sy w hg hf hf2 h1 (hs2 (by omega)) hsx hsy hk'
end Go.Proofs.YtgnmjaponiclhaaGreatDoor
namespace Go.Proofs.YtgnmjaponiclhaaGreatDoor
open Go.RowKit
set_option linter.unusedVariables false
set_option linter.unusedSimpArgs false

/-- how a force reads -/
def forceD {H : Type} (f : F4) : DataW H := .agg [.agg [.lit (.string f.ax.data.toList), .lit (.string f.ay.data.toList)], .agg [.lit (.string f.wx.data.toList), .lit (.string f.wy.data.toList)]]

theorem bulk_force {H : Type} (f : F4) : Rows.uptoBulk (forceD (H := H) f) = sz f + 7 := by
  have h1 : f.ax.data.toList.length = f.ax.size := by simp
  have h2 : f.ay.data.toList.length = f.ay.size := by simp
  have h3 : f.wx.data.toList.length = f.wx.size := by simp
  have h4 : f.wy.data.toList.length = f.wy.size := by simp
  simp only [forceD, Rows.uptoBulk, Rows.uptoBulkAll, h1, h2, h3, h4, sz]
  omega
theorem wt_bulk {H : Type} (m : Nat) (fs : List F4) : wt m fs ≤ 16 * Rows.uptoBulkAll (fs.map (forceD (H := H))) + fs.length * (8 * m + 20) := by
  induction fs with
  | nil => simp [wt]
  | cons f l ih =>
    have := bulk_force (H := H) f
    simp only [wt, List.map_cons, Rows.uptoBulkAll, List.length_cons, Nat.add_mul, Nat.one_mul]
    omega
theorem sz_bulk {H : Type} (fs : List F4) (f : F4) (h : f ∈ fs) : sz f ≤ Rows.uptoBulkAll (fs.map (forceD (H := H))) := by
  induction fs with
  | nil => cases h
  | cons g l ih =>
    have := bulk_force (H := H) g
    simp only [List.map_cons, Rows.uptoBulkAll]
    rcases List.mem_cons.1 h with rfl | h
    · omega
    · have := ih h; omega
theorem Sized.of_bulk {H : Type} {fs : List F4} (hb : Rows.uptoBulkAll (fs.map (forceD (H := H))) ≤ 1048576) (hl : fs.length ≤ 60) : Sized fs := by
  have h0 := wt_bulk (H := H) 0 fs
  have h1 := wt_bulk (H := H) 1048576 fs
  refine ⟨hl, by omega, by omega, fun f hf => Nat.le_trans (sz_bulk (H := H) fs f hf) hb⟩
end Go.Proofs.YtgnmjaponiclhaaGreatDoor
namespace Go.Proofs.YtgnmjaponiclhaaGreatDoor
open Go.RowKit
set_option linter.unusedVariables false
set_option linter.unusedSimpArgs false

theorem cellsQ : Tryz.prog.cellsOf 23 = 1 := by kernel_rfl
theorem cellsSpot : Tryz.prog.cellsOf 25 = 2 := by kernel_rfl

section
variable {H : Type} {enc : TypeId × Value → H} {P : Program} {w : World} {base : Nat} {spare : Nat → Bool} {held : Bool} {fuel : Nat} {cs : List Value} {x : DataW H × List MemPlace} {tF tS tQ : TypeId} {f0 f1 g0 g1 : Field}

theorem spot_read (uS : P.underlying tS = some (.struct #[f0, f1])) (uQ : P.underlying tQ = some .string) (cS : P.cellsOf tS = 2) (cQ : P.cellsOf tQ = 1) (t0 : f0.type = tQ) (t1 : f1.type = tQ) (o0 : f0.offset = 0) (o1 : f1.offset = 1)
    (h : DataW.trod enc P w base spare held fuel tS cs = some x) :
    ∃ s t : ByteArray, cs = [.string s, .string t] ∧ x.1 = .agg [.lit (.string s.data.toList), .lit (.string t.data.toList)] ∧ x.2 = [] := by
  obtain ⟨xs, n, rfl, rfl, hl, hxl, hf⟩ := DataW.trod_struct uS h
  rw [cS] at hl
  clear h
  have h0 := hf 0 f0 rfl
  have h1 := hf 1 f1 rfl
  rw [t0, o0, cQ] at h0
  rw [t1, o1, cQ] at h1
  clear hf
  match cs, hl, xs, hxl with
  | [v0, v1], _, [y0, y1], _ =>
    simp only [List.drop_zero, List.drop_succ_cons, List.take_succ_cons, List.take_zero, List.getElem?_cons_zero, List.getElem?_cons_succ] at h0 h1
    obtain ⟨s, e0, rfl, _⟩ := DataW.trod_string uQ h0
    obtain ⟨t, e1, rfl, _⟩ := DataW.trod_string uQ h1
    obtain rfl : v0 = _ := by simpa using e0
    obtain rfl : v1 = _ := by simpa using e1
    exact ⟨s, t, rfl, rfl, rfl⟩
end
end Go.Proofs.YtgnmjaponiclhaaGreatDoor
namespace Go.Proofs.YtgnmjaponiclhaaGreatDoor
open Go.RowKit
set_option linter.unusedVariables false
set_option linter.unusedSimpArgs false

theorem cellsForce : Tryz.prog.cellsOf 29 = 4 := by kernel_rfl

section
variable {H : Type} {enc : TypeId × Value → H} {P : Program} {w : World} {base : Nat} {spare : Nat → Bool} {held : Bool} {fuel : Nat} {cs : List Value} {x : DataW H × List MemPlace} {tF tS tQ : TypeId} {f0 f1 g0 g1 : Field}

theorem force_read (uF : P.underlying tF = some (.struct #[g0, g1])) (uS : P.underlying tS = some (.struct #[f0, f1])) (uQ : P.underlying tQ = some .string) (cF : P.cellsOf tF = 4) (cS : P.cellsOf tS = 2) (cQ : P.cellsOf tQ = 1)
    (t0 : f0.type = tQ) (t1 : f1.type = tQ) (o0 : f0.offset = 0) (o1 : f1.offset = 1) (k0 : g0.type = tS) (k1 : g1.type = tS) (p0 : g0.offset = 0) (p1 : g1.offset = 2)
    (h : DataW.trod enc P w base spare held fuel tF cs = some x) :
    ∃ f : F4, cs = [.string f.ax, .string f.ay, .string f.wx, .string f.wy] ∧ x.1 = forceD f ∧ x.2 = [] := by
  obtain ⟨xs, n, rfl, rfl, hl, hxl, hf⟩ := DataW.trod_struct uF h
  rw [cF] at hl
  clear h
  have h0 := hf 0 g0 rfl
  have h1 := hf 1 g1 rfl
  rw [k0, p0, cS] at h0
  rw [k1, p1, cS] at h1
  clear hf
  match cs, hl, xs, hxl with
  | [v0, v1, v2, v3], _, [y0, y1], _ =>
    simp only [List.drop_zero, List.drop_succ_cons, List.take_succ_cons, List.take_zero, List.getElem?_cons_zero, List.getElem?_cons_succ] at h0 h1
    obtain ⟨s, t, e0, d0, q0⟩ := spot_read uS uQ cS cQ t0 t1 o0 o1 h0
    obtain ⟨s', t', e1, d1, q1⟩ := spot_read uS uQ cS cQ t0 t1 o0 o1 h1
    obtain ⟨rfl, rfl⟩ : v0 = _ ∧ v1 = _ := by simpa using e0
    obtain ⟨rfl, rfl⟩ : v2 = _ ∧ v3 = _ := by simpa using e1
    exact ⟨⟨s, t, s', t'⟩, rfl, by simp [forceD, d0, d1], by simp [q0, q1]⟩

/-- a row of forces, read -/
theorem forces_read {t : TypeId} (ut : P.underlying t = some (.slice tF)) (uF : P.underlying tF = some (.struct #[g0, g1])) (uS : P.underlying tS = some (.struct #[f0, f1])) (uQ : P.underlying tQ = some .string) (cF : P.cellsOf tF = 4) (cS : P.cellsOf tS = 2) (cQ : P.cellsOf tQ = 1)
    (t0 : f0.type = tQ) (t1 : f1.type = tQ) (o0 : f0.offset = 0) (o1 : f1.offset = 1) (k0 : g0.type = tS) (k1 : g1.type = tS) (p0 : g0.offset = 0) (p1 : g1.offset = 2)
    (h : DataW.trod enc P w base spare held fuel t cs = some x) :
    ∃ (a : Option Addr) (cap : Nat) (fs : List F4), cs = [.slice a fs.length cap] ∧ FRow w a cap fs ∧ (∀ l r, x.1 = .slice l r → l = fs.map forceD) ∧ ((fs = [] ∧ x.1 = .nil) ∨ ∃ l r, x.1 = .slice l r) := by
  rcases Deep.open_slice ut h with ⟨rfl, rfl⟩ | ⟨a, len, cap, m, n, D, Pl, rfl, hb, hlc, hcm, hm, rfl, hD⟩
  · exact ⟨none, 0, [], rfl, ⟨by simp, fun i f hi => by simp at hi⟩, fun l r e => by simp at e, .inl ⟨rfl, rfl⟩⟩
  have hlm : len ≤ m := by rw [hm]; split <;> omega
  have each : ∀ i, ∃ f : F4, i < len → w.cells? base (a.add (i * 4)) 4 = some [.string f.ax, .string f.ay, .string f.wx, .string f.wy] ∧ D i = forceD f := by
    intro i
    by_cases hi : i < len
    · obtain ⟨cs', h1, h2⟩ := hD i (by omega)
      obtain ⟨f, rfl, hd, _⟩ := force_read uF uS uQ cF cS cQ t0 t1 o0 o1 k0 k1 p0 p1 h2
      rw [cF] at h1
      exact ⟨f, fun _ => ⟨h1, hd⟩⟩
    · exact ⟨⟨⟨#[]⟩, ⟨#[]⟩, ⟨#[]⟩, ⟨#[]⟩⟩, fun h => absurd h hi⟩
  obtain ⟨F, hF⟩ := Classical.axiomOfChoice each
  refine ⟨some a, cap, (List.range len).map F, by simp, ⟨by simpa using hlc, ?_⟩, ?_, .inr ⟨_, _, rfl⟩⟩
  · intro i f hi
    have hil : i < len := by
      have := List.getElem?_eq_some_iff.1 hi
      obtain ⟨h, _⟩ := this
      simpa using h
    obtain rfl : F i = f := by simpa [hil] using hi
    obtain ⟨hc, _⟩ := hF i hil
    obtain ⟨_, _, hcell⟩ := World.cells?_some hc
    obtain ⟨b, off, sp⟩ := a
    have c0 := hcell 0 (by omega)
    have c1 := hcell 1 (by omega)
    have c2 := hcell 2 (by omega)
    have c3 := hcell 3 (by omega)
    have z := (World.cells?_some (hF 0 (by omega)).1).2.2 0 (by omega)
    have hsp : sp = none := by
      cases sp with
      | none => rfl
      | some v =>
        exfalso
        simp only [Nat.zero_mul, Addr.add, if_true, World.cell?, List.getElem?_cons_zero] at z
        split at z <;> simp at z
    subst hsp
    have ea : ∀ j k, (Addr.add ⟨b, off, none⟩ j).add k = ⟨b, off + j + k, none⟩ := by
      intro j k
      unfold Addr.add
      by_cases hj : j = 0 <;> by_cases hk : k = 0 <;> simp [hj, hk]
    rw [ea] at c0 c1 c2 c3
    simp only [List.getElem?_cons_zero, List.getElem?_cons_succ, Nat.add_zero] at c0 c1 c2 c3
    exact ⟨b, off, rfl, World.block_lt_of_cell? _ _ c0, c0, c1, c2, c3⟩
  · intro l r e
    have e1 : (List.range len).map D = l := by simpa using (DataW.slice.inj e).1
    rw [← e1, List.map_map]
    refine List.map_congr_left fun i hi => ?_
    exact (hF i (by simpa using hi)).2
end
end Go.Proofs.YtgnmjaponiclhaaGreatDoor
namespace Go.Proofs.YtgnmjaponiclhaaGreatDoor
open Go.ChangeShapes Go.WideShapes Go.ChangeAt Go.RowKit
set_option linter.unusedVariables false
set_option linter.unusedSimpArgs false

theorem own : ownKnob Tryz.prog.godebug = none := by kernel_rfl
theorem laidOut : laidOutB Tryz.prog = true := by kernel_rfl

/-- the bulk of a list's parts -/
theorem bulk_part {H : Type} {d : DataW H} {l : List (DataW H)} (h : d ∈ l) : Rows.uptoBulk d ≤ Rows.uptoBulkAll l := by
  induction l with
  | nil => cases h
  | cons x r ih =>
    simp only [Rows.uptoBulkAll]
    rcases List.mem_cons.1 h with rfl | h
    · omega
    · have := ih h; omega
theorem bulk_slice {H : Type} (l r : List (DataW H)) : Rows.uptoBulkAll l ≤ Rows.uptoBulk (.slice l r) := by
  simp only [Rows.uptoBulk]
  omega

/-- what lies behind a list's first -/
theorem laid_tail {P : Program} {W : World} {x : String × DataW Unit} {l : List (String × DataW Unit)} (h : laidMet P (x :: l) W) : laidMet P l W := by
  obtain ⟨ps, ⟨g, t, cs, fuel, p, q, _, _, _, _, hl, rfl⟩, hn, hc⟩ := h
  exact ⟨q, hl, (List.nodup_append.1 hn).2.1, fun b off hm => hc b off (List.mem_append.2 (.inr hm))⟩

theorem gTen : Tryz.prog.globalNamed "internal/strconv.uint64pow10" = some 8 := by kernel_rfl
theorem gTenType : (Tryz.prog.globals[8]?).map (·.type) = some 361 := by kernel_rfl
theorem cellsTen : Tryz.prog.cellsOf 361 = 20 := by kernel_rfl
theorem cellsWord : Tryz.prog.cellsOf 222 = 1 := by kernel_rfl
theorem ten_tab : (Rows.laid_internal_strconv_uint64pow10 : DataW Unit) = Lib.tabData .u64 Lib.pow10Tab := by kernel_rfl
theorem tab_of {W : World} {rest : List (String × DataW Unit)} (h : laidMet Tryz.prog (("internal/strconv.uint64pow10", Rows.laid_internal_strconv_uint64pow10) :: rest) W) : Tab W := by
  rw [ten_tab] at h
  exact Lib.tabIs_of_head gTen gTenType Tryz.underlying361 Tryz.underlying222 cellsWord cellsTen h
theorem most_of {W : World} (h : W.ShapedOpen Tryz.prog) : ∃ m, W.cell? ⟨5, 0, none⟩ = some (.int .i64 m) :=
  cell_of_shapedOpen_int (zero := #[.int .i64 0]) (t := 3) h (of_decide_eq_true (by kernel_rfl)) (by kernel_rfl) rfl (by kernel_rfl) (by kernel_rfl) Tryz.underlying3

/-- a datum's cells, two layers deep -/
def flat1 : DataW Unit → List Value
  | .lit (.int k z) => [.int k z]
  | .lit (.string bs) => [.string ⟨bs.toArray⟩]
  | _ => []
def flat2 : DataW Unit → List Value
  | .agg ps => ps.flatMap flat1
  | d => flat1 d
def flat3 : DataW Unit → List Value
  | .agg ps => ps.flatMap flat2
  | d => flat1 d
/-- the block g laid as d -/
def put (g : Nat) (d : DataW Unit) (w : World) : World := { w with heap := w.heap.modify g fun
  | .cells _ t frozen => .cells (flat3 d).toArray t frozen
  | o => o }
end Go.Proofs.YtgnmjaponiclhaaGreatDoor
namespace Go.Proofs.YtgnmjaponiclhaaGreatDoor
open Go.ChangeShapes Go.WideShapes Go.ChangeAt Go.RowKit
set_option linter.unusedVariables false
set_option linter.unusedSimpArgs false

theorem readForces : Tryz.prog.readableRec 22 = true := by kernel_rfl
theorem readSpot : Tryz.prog.readableRec 25 = true := by kernel_rfl
theorem manyTypes : 22 < Tryz.prog.types.size ∧ 25 < Tryz.prog.types.size := by constructor <;> (refine of_decide_eq_true ?_; kernel_rfl)

theorem bulk_count {H : Type} (fs : List F4) : 7 * fs.length ≤ Rows.uptoBulkAll (fs.map (forceD (H := H))) := by
  induction fs with
  | nil => simp [Rows.uptoBulkAll]
  | cons f l ih =>
    have := bulk_force (H := H) f
    simp only [List.map_cons, Rows.uptoBulkAll, List.length_cons]
    omega

section
variable {H : Type} {enc : TypeId × Value → H} {W : World}

/-- a slice of forces that came in -/
theorem forces_in {a : Option Addr} {len cap : Nat} {d : DataW H} {ps : List MemPlace} (hb : Rows.uptoBulk d ≤ 1048576)
    (h : DataW.Trod enc Tryz.prog W 0 (fun _ => true) true 22 (.slice a len cap) d ps) :
    ∃ fs : List F4, len = fs.length ∧ FRow W a cap fs ∧ (fs.length ≤ 60 → Sized fs) ∧ fs.length ≤ 1048576 ∧ ∀ f, f ∈ fs → sz f ≤ 1048576 := by
  obtain ⟨fuel, h⟩ := h
  obtain ⟨a', cap', fs, e, hr, hl, hs⟩ := forces_read Tryz.underlying22 Tryz.underlying29 Tryz.underlying25 Tryz.underlying23 cellsForce cellsSpot cellsQ rfl rfl rfl rfl rfl rfl rfl rfl h
  have e' : [Value.slice a len cap] = [Value.slice a' fs.length cap'] := e
  simp only [List.cons.injEq, and_true, Value.slice.injEq] at e'
  obtain ⟨rfl, rfl, rfl⟩ := e'
  have hall : Rows.uptoBulkAll (fs.map (forceD (H := H))) ≤ 1048576 := by
    rcases hs with ⟨rfl, _⟩ | ⟨l, r, hd⟩
    · simp [Rows.uptoBulkAll]
    · have := hl l r hd
      simp only at hd
      subst hd
      rw [← this]
      exact Nat.le_trans (bulk_slice l r) hb
  have hc := bulk_count (H := H) fs
  exact ⟨fs, rfl, hr, fun h60 => Sized.of_bulk hall h60, by omega, fun f hf => Nat.le_trans (sz_bulk (H := H) fs f hf) hall⟩

/-- a place that came in -/
theorem spot_in {cs : Array Value} {d : DataW H} {ps : List MemPlace} (hb : Rows.uptoBulk d ≤ 1048576)
    (h : DataW.Trod enc Tryz.prog W 0 (fun _ => true) true 25 (.agg cs) d ps) :
    ∃ s t : ByteArray, cs = #[.string s, .string t] ∧ s.size ≤ 1048576 ∧ t.size ≤ 1048576 := by
  obtain ⟨fuel, h⟩ := h
  obtain ⟨s, t, e, hd, _⟩ := spot_read Tryz.underlying25 Tryz.underlying23 cellsSpot cellsQ rfl rfl rfl rfl h
  simp only at hd
  subst hd
  have e' : cs.toList = [.string s, .string t] := e
  refine ⟨s, t, by rw [← Array.toArray_toList (xs := cs), e'], ?_, ?_⟩
  · simp [Rows.uptoBulk, Rows.uptoBulkAll] at hb
    have : s.data.toList.length = s.size := by simp
    omega
  · simp [Rows.uptoBulk, Rows.uptoBulkAll] at hb
    have : t.data.toList.length = t.size := by simp
    omega
end

/-- the tables laid -/
def tabled (w : World) : World :=
  put 11 Rows.laid_math_bits_deBruijn32tab (put 12 Rows.laid_math_bits_deBruijn64tab (put 8 Rows.laid_internal_strconv_uint64pow10
    (put 7 Rows.laid_unicode_utf8_acceptRanges (put 6 Rows.laid_unicode_utf8_first (put 0 Rows.laid_rafter_raftersame_Force w)))))
end Go.Proofs.YtgnmjaponiclhaaGreatDoor
