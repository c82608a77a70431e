/- rafterlaw's ForceSays, whole. -/
import Derived.Test.YtmgebbnmcgfnjaaGreatDoorC47SaysC
namespace Go.Proofs.YtmgebbnmcgfnjaaGreatDoor
open Go.RowKit
set_option linter.unusedVariables false
set_option linter.unusedSimpArgs false

set_option maxRecDepth 100000 in
set_option maxHeartbeats 8000000 in
theorem says_few (a b : Option Addr) (cap cap2 : Nat) (fs gs : List F4) (sx sy : ByteArray) (w : World) (hg : Glob w) (hm : Marked w) (hf : FRow w a cap fs) (hf2 : FRow w b cap2 gs) (hs : Sized fs) (hs2 : Sized gs) (hsx : sx.size ≤ 1048576) (hsy : sy.size ≤ 1048576) :
    Calls Tryz.prog 3 #[.slice a fs.length cap, .slice b gs.length cap2, .agg #[.string sx, .string sy]] w fun e w' => e = .returned (.bool true) ∧ Below w.heap.size w w' := by
  have HF2 := Hid.intro hf2
  have HS2 := Hid.intro hs2
  clear hf2 hs2
  obtain ⟨ox, hox⟩ := QOf.ex sx.data.toList
  obtain ⟨oy, hoy⟩ := QOf.ex sy.data.toList
  have HOX := Hid.intro hox
  have HOY := Hid.intro hoy
  have HS := Hid.intro hs
  have HSX := Hid.intro hsx
  have HSY := Hid.intro hsy
  have hn : fs.length ≤ 1048576 := Nat.le_trans hs.len (by decide)
  clear hox hoy hs hsx hsy
  have HG := Hid.intro hg
  have HM := Hid.intro hm
  have HF := Hid.intro hf
  clear hg hm hf
  go_enter Tryz.func3, Tryz.ntmps3
  go_wp2_with fail
  obtain ⟨wA, hwA⟩ : ∃ wA, w.alloc (.cells #[.string sx, .string sy] 25) = wA := ⟨_, rfl⟩
  have HBA : Hid (Below w.heap.size w wA) := Hid.intro (by rw [← hwA]; exact (Below.refl _ _).alloc (Nat.le_refl _) _)
  have HAB : Hid (SB wA w.heap.size 25 #[.string sx, .string sy]) := Hid.intro (by rw [← hwA]; exact SB.new w _ _)
  rw [hwA]
  clear hwA
  go_fit (law_turns wA (HG.out.below HBA.out))
  rintro e w1 ⟨rfl, hb1⟩
  have HB1 := Hid.intro (HBA.out.trans (hb1.mono HBA.out.size))
  have HC1 := Hid.intro hb1
  clear hb1
  have hmk := HM.out.below HB1.out
  have m0 : w1.cell? ⟨0, 0, none⟩ = some (.string ⟨#[109, 97, 114, 107]⟩) := hmk.c0
  have m1 : w1.cell? ⟨0, 1, none⟩ = some (.string ⟨#[]⟩) := hmk.c1
  have m2 : w1.cell? ⟨0, 2, none⟩ = some (.string ⟨#[]⟩) := hmk.c2
  have m3 : w1.cell? ⟨0, 3, none⟩ = some (.string ⟨#[]⟩) := hmk.c3
  clear hmk
  go_wp2_with fail
  clear m0 m1 m2 m3
  go_fit (lend_force a cap fs ⟨#[109, 97, 114, 107]⟩ ⟨#[]⟩ ⟨#[]⟩ ⟨#[]⟩ w1 (HF.out.below HB1.out) hn)
  rintro e w2 ⟨g, rfl, hrow, hb2⟩
  have HB2 := Hid.intro (HB1.out.trans (hb2.mono HB1.out.size))
  have HC2 := Hid.intro (HC1.out.trans (hb2.mono HC1.out.size))
  have HL := Hid.intro hrow
  clear hb2 hrow
  have hab := HAB.out.below HC2.out HAB.out.lt
  have k0 : _ = some (Value.string sx) := hab.cell 0
  have k1 : _ = some (Value.string sy) := hab.cell 1
  clear hab
  go_wp2_with fail
  clear k0 k1
  go_fit (force_Total (some ⟨g, 0, none⟩) (fs.length + 3) 1048576 600000000 fs sx sy ox oy w2 (HG.out.below HB2.out) HL.out.left HS.out.len (by decide) HS.out.wtm (by decide) (fun f hf => Nat.le_trans (HS.out.sz f hf) (by decide)) HSX.out HSY.out HOX.out HOY.out)
  rintro e w3 ⟨x, y, t, v1, v2, v3, hsum, g1, g2, g3, rfl, hb3⟩
  have HSU := Hid.intro hsum
  have P1 := Hid.intro g1
  have P2 := Hid.intro g2
  have P3 := Hid.intro g3
  clear hsum g1 g2 g3
  have HB3 := Hid.intro (HB2.out.trans (hb3.mono HB2.out.size))
  have HC3 := Hid.intro (HC2.out.trans (hb3.mono HC2.out.size))
  have HD3 := Hid.intro hb3
  clear hb3
  obtain ⟨gV, hgV⟩ : ∃ gV, w3.heap.size = gV := ⟨_, rfl⟩
  obtain ⟨wB, hwB⟩ : ∃ wB, w3.alloc (.cells #[.string v1, .string v2] 25) = wB := ⟨_, rfl⟩
  have HB4 : Hid (Below w.heap.size w wB) := Hid.intro (by rw [← hwB]; exact HB3.out.alloc HB3.out.size _)
  have HC4 : Hid (Below wA.heap.size wA wB) := Hid.intro (by rw [← hwB]; exact HC3.out.alloc HC3.out.size _)
  have HD4 : Hid (Below w2.heap.size w2 wB) := Hid.intro (by rw [← hwB]; exact HD3.out.alloc HD3.out.size _)
  have HV : Hid (SB wB gV 25 #[.string v1, .string v2]) := Hid.intro (by rw [← hwB, ← hgV]; exact SB.new w3 _ _)
  have HWB := Hid.intro hwB
  have HGV := Hid.intro hgV
  clear hwB hgV
  go_wp2_with fail
  rw [HWB.out, HGV.out]
  go_fit (force_Sum (some ⟨g, 0, none⟩) (fs.length + 3) 20000000 fs wB (HG.out.below HB4.out) (HL.out.left.below HD4.out) HS.out.len HS.out.wt0 (by decide) (fun f hf => Nat.le_trans (HS.out.sz f hf) (by decide)))
  rintro e w4 ⟨x0, y0, t0, s1, s2, s3, s4, s5, hsum0, h1, h2, h3, h4, h5, rfl, hb4⟩
  obtain ⟨kd, hkd⟩ : ∃ kd, kindOf x0 y0 t0 = kd := ⟨_, rfl⟩
  rw [hkd]
  have HKD := Hid.intro hkd
  have HS0 := Hid.intro hsum0
  have T1 := Hid.intro h1
  have T2 := Hid.intro h2
  have T3 := Hid.intro h3
  have T4 := Hid.intro h4
  have T5 := Hid.intro h5
  clear hkd hsum0 h1 h2 h3 h4 h5
  have HB5 := Hid.intro (HB4.out.trans (hb4.mono HB4.out.size))
  have HC5 := Hid.intro (HC4.out.trans (hb4.mono HC4.out.size))
  have HD5 := Hid.intro (HD4.out.trans (hb4.mono HD4.out.size))
  have HE5 := Hid.intro hb4
  clear hb4
  obtain ⟨gS, hgS⟩ : ∃ gS, w4.heap.size = gS := ⟨_, rfl⟩
  obtain ⟨wC, hwC⟩ : ∃ wC, w4.alloc (.cells #[.int .i64 (kd), .string s1, .string s2, .string s3, .string s4, .string s5] 34) = wC := ⟨_, rfl⟩
  have HB6 : Hid (Below w.heap.size w wC) := Hid.intro (by rw [← hwC]; exact HB5.out.alloc HB5.out.size _)
  have HC6 : Hid (Below wA.heap.size wA wC) := Hid.intro (by rw [← hwC]; exact HC5.out.alloc HC5.out.size _)
  have HD6 : Hid (Below w2.heap.size w2 wC) := Hid.intro (by rw [← hwC]; exact HD5.out.alloc HD5.out.size _)
  have HE6 : Hid (Below wB.heap.size wB wC) := Hid.intro (by rw [← hwC]; exact HE5.out.alloc HE5.out.size _)
  have HU : Hid (SB wC gS 34 #[.int .i64 (kd), .string s1, .string s2, .string s3, .string s4, .string s5]) := Hid.intro (by rw [← hwC, ← hgS]; exact SB.new w4 _ _)
  have HWC := Hid.intro hwC
  have HGS := Hid.intro hgS
  clear hwC hgS
  go_wp2_with fail
  rw [HWC.out, HGS.out]
  go_fit (force_Alike (some ⟨g, 0, none⟩) b (fs.length + 3) cap2 20000000 20000000 fs gs wC (HG.out.below HB6.out) (HL.out.left.below HD6.out) (HF2.out.below HB6.out) HS.out.len HS2.out.len HS.out.wt0 (by decide) HS2.out.wt0 (by decide) (fun f hf => Nat.le_trans (HS.out.sz f hf) (by decide)) (fun f hf => Nat.le_trans (HS2.out.sz f hf) (by decide)))
  rintro e w5 ⟨xa, ya, ta, xb, yb, tb, hsa, hsb, rfl, hb5⟩
  obtain ⟨al, hal⟩ : ∃ al, decide (xa = xb ∧ ya = yb ∧ ta = tb) = al := ⟨_, rfl⟩
  rw [hal]
  have HAL := Hid.intro hal
  have HSA := Hid.intro hsa
  have HSB := Hid.intro hsb
  clear hal hsa hsb
  have HB7 := Hid.intro (HB6.out.trans (hb5.mono HB6.out.size))
  have HC7 := Hid.intro (HC6.out.trans (hb5.mono HC6.out.size))
  have HD7 := Hid.intro (HD6.out.trans (hb5.mono HD6.out.size))
  have HV7 := Hid.intro ((HV.out.below HE6.out HV.out.lt).below hb5 (HV.out.below HE6.out HV.out.lt).lt)
  have HU7 := Hid.intro (HU.out.below hb5 HU.out.lt)
  clear hb5
  have hmk := HM.out.below HB7.out
  have m0 : w5.cell? ⟨0, 0, none⟩ = some (.string ⟨#[109, 97, 114, 107]⟩) := hmk.c0
  have m1 : w5.cell? ⟨0, 1, none⟩ = some (.string ⟨#[]⟩) := hmk.c1
  have m2 : w5.cell? ⟨0, 2, none⟩ = some (.string ⟨#[]⟩) := hmk.c2
  have m3 : w5.cell? ⟨0, 3, none⟩ = some (.string ⟨#[]⟩) := hmk.c3
  clear hmk
  go_wp2_with fail
  clear m0 m1 m2 m3
  go_fit (still_force g a cap fs _ _ _ _ w5 (HL.out.below HD7.out) (HF.out.below HB7.out) hn)
  rintro e w6 ⟨rfl, hb6⟩
  have HB8 := Hid.intro (HB7.out.trans (hb6.mono HB7.out.size))
  have HC8 := Hid.intro (HC7.out.trans (hb6.mono HC7.out.size))
  have HV8 := Hid.intro (HV7.out.below hb6 HV7.out.lt)
  have HU8 := Hid.intro (HU7.out.below hb6 HU7.out.lt)
  have q1 : ¬ ((60 : Int) < (fs.length : Int)) := by have := HS.out.len; omega
  clear hb6
  have hab := HAB.out.below HC8.out HAB.out.lt
  have k0 : _ = some (Value.string sx) := hab.cell 0
  have k1 : _ = some (Value.string sy) := hab.cell 1
  clear hab
  go_wp2_with fail
  clear k0 k1
  have HZ : Hid (∀ f, f ∈ fs → f.ax.size ≤ 1048576 ∧ f.ay.size ≤ 1048576 ∧ f.wx.size ≤ 1048576 ∧ f.wy.size ≤ 1048576) := Hid.intro (fun f hf => by have := HS.out.sz f hf; simp only [sz] at this; omega)
  go_fit (ref_turn a cap 1048576 fs sx sy ox oy w6 (HG.out.below HB8.out).most (HF.out.below HB8.out) HS.out.len (by decide) HZ.out HSX.out HSY.out HOX.out HOY.out)
  rintro e w7 ⟨b1, b2, b3, xr, yr, tr, rfl, hsr, hbag⟩
  obtain ⟨rfl, rfl, rfl⟩ := hsr.inj HSU.out
  have HR := Hid.intro hbag
  clear hsr hbag
  have hv := HV8.out.below HR.out.base HV8.out.lt
  have hu := HU8.out.below HR.out.base HU8.out.lt
  have y0 : w7.cell? ⟨gV, 0, none⟩ = some (.string v1) := hv.cell 0
  have y1 : w7.cell? ⟨gV, 1, none⟩ = some (.string v2) := hv.cell 1
  have u0 : w7.cell? ⟨gS, 0, none⟩ = some (.int .i64 kd) := hu.cell 0
  have u1 : w7.cell? ⟨gS, 1, none⟩ = some (.string s1) := hu.cell 1
  have u2 : w7.cell? ⟨gS, 2, none⟩ = some (.string s2) := hu.cell 2
  have u3 : w7.cell? ⟨gS, 3, none⟩ = some (.string s3) := hu.cell 3
  have u4 : w7.cell? ⟨gS, 4, none⟩ = some (.string s4) := hu.cell 4
  have u5 : w7.cell? ⟨gS, 5, none⟩ = some (.string s5) := hu.cell 5
  clear hv hu
  go_wp2_with fail
  go_region_held3 (fun w' => w'.cell? ⟨gV, 0, none⟩ = some (.string v1) ∧ w'.cell? ⟨gV, 1, none⟩ = some (.string v2) ∧ w'.cell? ⟨gS, 0, none⟩ = some (.int .i64 kd) ∧ w'.cell? ⟨gS, 1, none⟩ = some (.string s1) ∧ w'.cell? ⟨gS, 2, none⟩ = some (.string s2) ∧ w'.cell? ⟨gS, 3, none⟩ = some (.string s3) ∧ w'.cell? ⟨gS, 4, none⟩ = some (.string s4) ∧ w'.cell? ⟨gS, 5, none⟩ = some (.string s5)) ((first | (simp [*]; done) | go_keep)) (first
    |
     (go_at_call_of 18 (Value.pointer (some ⟨b1, 0, none⟩))
      apply Calls.mono
      apply RBag.text (w0 := w6)
      (first | exact HR.out | exact HR.out.drew)
      (focus (repeat (first | exact List.Mem.head _ | apply List.Mem.tail)))
      omega
      rintro e wn ⟨⟨rr, rfl, hrr⟩, hbag⟩
      obtain rfl := qtext_same P1.out hrr
      clear HR hrr
      have HR := Hid.intro hbag
      clear hbag
      have hv := HV8.out.below HR.out.base HV8.out.lt
      have hu := HU8.out.below HR.out.base HU8.out.lt
      have y0 : wn.cell? ⟨gV, 0, none⟩ = some (.string v1) := hv.cell 0
      have y1 : wn.cell? ⟨gV, 1, none⟩ = some (.string v2) := hv.cell 1
      have u0 : wn.cell? ⟨gS, 0, none⟩ = some (.int .i64 kd) := hu.cell 0
      have u1 : wn.cell? ⟨gS, 1, none⟩ = some (.string s1) := hu.cell 1
      have u2 : wn.cell? ⟨gS, 2, none⟩ = some (.string s2) := hu.cell 2
      have u3 : wn.cell? ⟨gS, 3, none⟩ = some (.string s3) := hu.cell 3
      have u4 : wn.cell? ⟨gS, 4, none⟩ = some (.string s4) := hu.cell 4
      have u5 : wn.cell? ⟨gS, 5, none⟩ = some (.string s5) := hu.cell 5
      clear hv hu
      skip)
    |
     (go_at_call_of 18 (Value.pointer (some ⟨b2, 0, none⟩))
      apply Calls.mono
      apply RBag.text (w0 := w6)
      (first | exact HR.out | exact HR.out.drew)
      (focus (repeat (first | exact List.Mem.head _ | apply List.Mem.tail)))
      omega
      rintro e wn ⟨⟨rr, rfl, hrr⟩, hbag⟩
      obtain rfl := qtext_same P2.out hrr
      clear HR hrr
      have HR := Hid.intro hbag
      clear hbag
      have hv := HV8.out.below HR.out.base HV8.out.lt
      have hu := HU8.out.below HR.out.base HU8.out.lt
      have y0 : wn.cell? ⟨gV, 0, none⟩ = some (.string v1) := hv.cell 0
      have y1 : wn.cell? ⟨gV, 1, none⟩ = some (.string v2) := hv.cell 1
      have u0 : wn.cell? ⟨gS, 0, none⟩ = some (.int .i64 kd) := hu.cell 0
      have u1 : wn.cell? ⟨gS, 1, none⟩ = some (.string s1) := hu.cell 1
      have u2 : wn.cell? ⟨gS, 2, none⟩ = some (.string s2) := hu.cell 2
      have u3 : wn.cell? ⟨gS, 3, none⟩ = some (.string s3) := hu.cell 3
      have u4 : wn.cell? ⟨gS, 4, none⟩ = some (.string s4) := hu.cell 4
      have u5 : wn.cell? ⟨gS, 5, none⟩ = some (.string s5) := hu.cell 5
      clear hv hu
      skip)
    |
     (go_at_call_of 18 (Value.pointer (some ⟨b3, 0, none⟩))
      apply Calls.mono
      apply RBag.text (w0 := w6)
      (first | exact HR.out | exact HR.out.drew)
      (focus (repeat (first | exact List.Mem.head _ | apply List.Mem.tail)))
      omega
      rintro e wn ⟨⟨rr, rfl, hrr⟩, hbag⟩
      obtain rfl := qtext_same P3.out hrr
      clear HR hrr
      have HR := Hid.intro hbag
      clear hbag
      have hv := HV8.out.below HR.out.base HV8.out.lt
      have hu := HU8.out.below HR.out.base HU8.out.lt
      have y0 : wn.cell? ⟨gV, 0, none⟩ = some (.string v1) := hv.cell 0
      have y1 : wn.cell? ⟨gV, 1, none⟩ = some (.string v2) := hv.cell 1
      have u0 : wn.cell? ⟨gS, 0, none⟩ = some (.int .i64 kd) := hu.cell 0
      have u1 : wn.cell? ⟨gS, 1, none⟩ = some (.string s1) := hu.cell 1
      have u2 : wn.cell? ⟨gS, 2, none⟩ = some (.string s2) := hu.cell 2
      have u3 : wn.cell? ⟨gS, 3, none⟩ = some (.string s3) := hu.cell 3
      have u4 : wn.cell? ⟨gS, 4, none⟩ = some (.string s4) := hu.cell 4
      have u5 : wn.cell? ⟨gS, 5, none⟩ = some (.string s5) := hu.cell 5
      clear hv hu
      skip)
    | (go_at_call_of 17 (Value.string v1)
       apply Calls.mono
       apply law_spot
       rintro e wn ⟨rfl, hbn⟩
       have HR' := Hid.intro (HR.out.below hbn)
       clear HR
       have HR := HR'
       clear HR' hbn
       have hv := HV8.out.below HR.out.base HV8.out.lt
       have hu := HU8.out.below HR.out.base HU8.out.lt
       have y0 : wn.cell? ⟨gV, 0, none⟩ = some (.string v1) := hv.cell 0
       have y1 : wn.cell? ⟨gV, 1, none⟩ = some (.string v2) := hv.cell 1
       have u0 : wn.cell? ⟨gS, 0, none⟩ = some (.int .i64 kd) := hu.cell 0
       have u1 : wn.cell? ⟨gS, 1, none⟩ = some (.string s1) := hu.cell 1
       have u2 : wn.cell? ⟨gS, 2, none⟩ = some (.string s2) := hu.cell 2
       have u3 : wn.cell? ⟨gS, 3, none⟩ = some (.string s3) := hu.cell 3
       have u4 : wn.cell? ⟨gS, 4, none⟩ = some (.string s4) := hu.cell 4
       have u5 : wn.cell? ⟨gS, 5, none⟩ = some (.string s5) := hu.cell 5
       clear hv hu
       skip)
    | (go_at_call_of 19 (Value.slice a fs.length cap)
       apply Calls.mono
       apply ref_sumOf a cap 1048576 fs
       exact HR.out.glob
       exact HF.out.below (HB8.out.trans (HR.out.base.mono HB8.out.size))
       exact HS.out.len
       decide
       exact HZ.out
       rintro e wn ⟨⟨kind, r1, r2, r3, r4, r5, rfl, hst⟩, hbn⟩
       have HST := Hid.intro hst
       obtain ⟨e0, e1, e2, e3, e4, e5⟩ := same_sum HS0.out T1.out T2.out T3.out T4.out T5.out hst
       rw [HKD.out] at e0
       obtain rfl := e0.symm
       obtain rfl := e1.symm
       obtain rfl := e2.symm
       obtain rfl := e3.symm
       obtain rfl := e4.symm
       obtain rfl := e5.symm
       have HR' := Hid.intro (HR.out.below hbn)
       clear HR hst
       have HR := HR'
       clear HR' hbn
       have hv := HV8.out.below HR.out.base HV8.out.lt
       have hu := HU8.out.below HR.out.base HU8.out.lt
       have y0 : wn.cell? ⟨gV, 0, none⟩ = some (.string v1) := hv.cell 0
       have y1 : wn.cell? ⟨gV, 1, none⟩ = some (.string v2) := hv.cell 1
       have u0 : wn.cell? ⟨gS, 0, none⟩ = some (.int .i64 kd) := hu.cell 0
       have u1 : wn.cell? ⟨gS, 1, none⟩ = some (.string s1) := hu.cell 1
       have u2 : wn.cell? ⟨gS, 2, none⟩ = some (.string s2) := hu.cell 2
       have u3 : wn.cell? ⟨gS, 3, none⟩ = some (.string s3) := hu.cell 3
       have u4 : wn.cell? ⟨gS, 4, none⟩ = some (.string s4) := hu.cell 4
       have u5 : wn.cell? ⟨gS, 5, none⟩ = some (.string s5) := hu.cell 5
       clear hv hu
       skip)
    )
  all_goals
    have q2 : ¬ ((60 : Int) < (gs.length : Int)) := by have := HS2.out.len; omega
    have HB9 := Hid.intro (HB8.out.trans (HR.out.base.mono HB8.out.size))
    go_wp2_with fail
    go_fit (ref_sumOf a cap 1048576 fs _ (HG.out.below HB9.out).most (HF.out.below HB9.out) HS.out.len (by decide) HZ.out)
    rintro e w8 ⟨⟨kp, p1, p2, p3, p4, p5, rfl, hp⟩, hb8⟩
    have HP := Hid.intro hp
    have HB10 := Hid.intro (HB9.out.trans (hb8.mono HB9.out.size))
    have HZ2 : Hid (∀ f, f ∈ gs → f.ax.size ≤ 1048576 ∧ f.ay.size ≤ 1048576 ∧ f.wx.size ≤ 1048576 ∧ f.wy.size ≤ 1048576) := Hid.intro (fun f hf => by have := HS2.out.sz f hf; simp only [sz] at this; omega)
    clear hp hb8
    go_wp2_with fail
    go_fit (ref_sumOf b cap2 1048576 gs w8 (HG.out.below HB10.out).most (HF2.out.below HB10.out) HS2.out.len (by decide) HZ2.out)
    rintro e w9 ⟨⟨kq, q1', q2', q3', q4', q5', rfl, hq⟩, hb9⟩
    have HB11 := Hid.intro (HB10.out.trans (hb9.mono HB10.out.size))
    have hsame := same_alike HSA.out HSB.out HP.out hq
    clear hq hb9
    by_cases hyes : xa = xb ∧ ya = yb ∧ ta = tb
    · have hal : al = true := by rw [← HAL.out]; exact decide_eq_true hyes
      obtain ⟨e1, e2, e3⟩ := hsame.1 hyes
      subst hal e1 e2 e3
      clear hyes hsame
      go_wp2
      go_ret
      exact ⟨by simp, (HB11.out.alloc HB11.out.size _).alloc (by have := HB11.out.size; simp; omega) _⟩
    · have hal : al = false := by rw [← HAL.out]; exact decide_eq_false hyes
      have hno : ¬ (p1 = q1' ∧ p2 = q2' ∧ p3 = q3') := fun h => hyes (hsame.2 h)
      subst hal
      clear hyes hsame
      have hbb : ∀ s r : ByteArray, ¬ s = r → ¬ s.toList = r.toList := fun s r h he => h (bytes_same (by rw [ByteArray.toList_eq, ByteArray.toList_eq] at he; exact he))
      by_cases h1 : p1 = q1'
      · subst h1
        by_cases h2 : p2 = q2'
        · subst h2
          have h3 := hbb _ _ (fun h => hno ⟨rfl, rfl, h⟩)
          clear hno hbb
          go_wp2
          go_ret
          exact ⟨by simp [h3], (HB11.out.alloc HB11.out.size _).alloc (by have := HB11.out.size; simp; omega) _⟩
        · have h2' := hbb _ _ h2
          clear hno hbb
          go_wp2
          go_ret
          exact ⟨by simp [h2'], (HB11.out.alloc HB11.out.size _).alloc (by have := HB11.out.size; simp; omega) _⟩
      · have h1' := hbb _ _ h1
        clear hno hbb
        go_wp2
        go_ret
        exact ⟨by simp [h1'], (HB11.out.alloc HB11.out.size _).alloc (by have := HB11.out.size; simp; omega) _⟩
    skip

theorem law_ForceSays (a b : Option Addr) (cap cap2 : Nat) (fs gs : List F4) (sx sy : ByteArray) (w : World) (hg : Glob w) (hm : Marked w) (hf : FRow w a cap fs) (hf2 : FRow w b cap2 gs) (hn : fs.length ≤ 1048576) (hs : fs.length ≤ 60 → Sized fs) (hs2 : gs.length ≤ 60 → Sized gs) (hsx : sx.size ≤ 1048576) (hsy : sy.size ≤ 1048576) :
    Calls Tryz.prog 3 #[.slice a fs.length cap, .slice b gs.length cap2, .agg #[.string sx, .string sy]] w fun e w' => e = .returned (.bool true) ∧ Below w.heap.size w w' := by
  by_cases hl : 60 < fs.length
  · exact says_many a b cap cap2 gs.length fs sx sy w hg hm hf hn hl
  by_cases hk : 60 < gs.length
  · exact says_few_many a b cap cap2 gs.length fs sx sy w hg hm hf (hs (by omega)) hsx hsy hk
  exact says_few a b cap cap2 fs gs sx sy w hg hm hf hf2 (hs (by omega)) (hs2 (by omega)) hsx hsy
end Go.Proofs.YtmgebbnmcgfnjaaGreatDoor
