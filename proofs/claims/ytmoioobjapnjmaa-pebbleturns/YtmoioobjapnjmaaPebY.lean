/- the law PebbleTurns, walked. -/
import Derived.Test.YtmoioobjapnjmaaPebX
namespace Go.Proofs.Ytmoioobjapnjmaa
open Go.RowKit Go.MapKept
set_option linter.unusedVariables false
set_option linter.unusedSimpArgs false

set_option maxRecDepth 100000 in
set_option maxHeartbeats 8000000 in
theorem law_Turns (n : Int) (a at2 : Option Addr) (cap cap2 : Nat) (es : List (Int × Int)) (ts : List Int) (w : World) (he : ERow w a cap es) (hlen : es.length ≤ maxLen) (ht : IRow w at2 cap2 ts) (htl : ts.length ≤ maxLen) :
    Calls Try.prog 5 #[.int .i64 n, .slice a es.length cap, .slice at2 ts.length cap2] w fun e w' => e = .returned (.bool true) ∧ Below w.heap.size w w' := by
  have HE := Hid.intro he
  have HT := Hid.intro ht
  have HLEN := Hid.intro hlen
  have htl' : ts.length ≤ 9223372036854775807 := by simpa [maxLen] using htl
  clear he ht hlen htl
  go_enter Try.func5, Try.ntmps5
  go_wp2_with fail
  go_fit (law_plays w)
  rintro e w0 ⟨rfl, hb0⟩
  have HFR := Hid.intro (peb_Free n a cap es w0 (HE.out.below hb0) HLEN.out)
  have HB0 := Hid.intro hb0
  clear hb0
  go_wp2_with fail
  go_fit HFR.out
  rintro e w1 ⟨c, at_, v1, rfl, hck, hb1, hres⟩
  obtain ⟨V, hV⟩ : ∃ V, w1.alloc (.cells #[.int .i64 c, .int .i64 at_] 31) = V := ⟨_, rfl⟩
  have hb2 : Below w0.heap.size w0 V := by rw [← hV]; exact hb1.alloc hb1.size _
  have HBV := Hid.intro (HB0.out.trans (hb2.mono HB0.out.size))
  have hsv : SB V w1.heap.size 31 #[.int .i64 c, .int .i64 at_] := by rw [← hV]; exact SB.new w1 _ _
  have HSV := Hid.intro hsv
  have p0 : V.cell? ⟨w1.heap.size, 0, none⟩ = some (.int .i64 c) := hsv.cell 0
  have HV := Hid.intro hV
  rw [← hV] at p0
  have HCK := Hid.intro hck
  have hb1V : Below w1.heap.size w1 V := by rw [← hV]; exact (Below.refl _ _).alloc (Nat.le_refl _) _
  have HB1V := Hid.intro hb1V
  have HW1S : Hid (w.heap.size ≤ w1.heap.size) := Hid.intro (by have := HB0.out.size; have := hb1.size; omega)
  clear hV hsv hck hb1 hb2 hb1V
  rcases hres with ⟨hc, rfl⟩ | ⟨rfl, l, hbr, hrun⟩
  · have e0 : (c != 0) = true := by simpa using hc
    go_wp2
    go_ret
    rw [HV.out]
    exact ⟨rfl, HBV.out⟩
  · obtain rfl := Chk_at HCK.out
    obtain ⟨m, rfl, hm1, hm2, hl45, hgood, hec⟩ := Chk_good HCK.out
    rw [Int.toNat_natCast] at hrun
    have hll : l.length = es.length := by
      have := (kept_facts (by rw [← revE_all]; exact hgood.graph _) hrun).2.2.2.2.1
      simpa using this
    have hlb : BLst w1 v1 l := hbr.lst
    have HCL := Hid.intro (sl_Clone a cap es V (HE.out.below HBV.out) hl45)
    have HG := Hid.intro hgood
    have HEC := Hid.intro hec
    have HRUN := Hid.intro hrun
    have HLL := Hid.intro hll
    have HLB := Hid.intro hlb
    clear hgood hec hrun hll hlb hbr
    go_wp2_with fail
    rw [HV.out]
    go_fit HCL.out
    rintro e w2 ⟨vc, rfl, heo, hb2⟩
    have HEO := Hid.intro heo
    have HB2 := Hid.intro hb2
    obtain ⟨ac, capc, rfl, _, _⟩ := heo.row
    clear heo hb2 p0
    go_wp2_with fail
    go_loopw [34] (fun iv wr => ∃ (k : Nat) (fs : List (Int × Int)), k ≤ ts.length ∧ iv = .int .i64 k ∧ fs.Perm es ∧ EOwn wr V.heap.size (.slice ac es.length capc) fs ∧ Below V.heap.size V wr) (fun iv _ => ts.length - (intOf iv).toNat)
    case atStart => exact ⟨0, es, by omega, rfl, List.Perm.refl _, HEO.out, HB2.out⟩
    case round =>
      obtain ⟨k, fs, hk, rfl, hperm, hown, hbw⟩ := hrel
      have HPE := Hid.intro hperm
      have HOW := Hid.intro hown
      have HBW := Hid.intro hbw
      have HFL : Hid (fs.length = es.length) := Hid.intro hperm.length_eq
      clear hperm hown hbw
      by_cases hkl : k < ts.length
      · obtain ⟨t, hft⟩ : ∃ t, ts[k]? = some t := ⟨ts[k], List.getElem?_eq_getElem hkl⟩
        obtain ⟨tb, toff, rfl, htb, d0⟩ := ((HT.out.below HBV.out).below HBW.out).cell k t hft
        have q1 : ((k : Int) < (ts.length : Int)) := by omega
        clear hft
        by_cases hin : 0 ≤ t ∧ t < (es.length : Int)
        · obtain ⟨tn, rfl⟩ : ∃ tn : Nat, t = (tn : Int) := ⟨t.toNat, by omega⟩
          have htn : tn < es.length := by omega
          have HTN := Hid.intro htn
          have hel0 : 0 < es.length := by omega
          rcases HOW.out.2 with ⟨h1, h2⟩ | ⟨g, capg, cur, hv, hBg, hg, hnc, hcm, hcs, htake⟩
          · have := HFL.out
            omega
          injection hv with e1 e2 e3
          subst e1
          subst e3
          clear e2
          have hsb : SB wr g 29 cur := hg
          have hcsz : cur.size = capc * 2 := hcs
          obtain ⟨r, hr⟩ : ∃ r : Nat, k % es.length = r := ⟨_, rfl⟩
          have hrl : r < es.length := by rw [← hr]; exact Nat.mod_lt _ hel0
          have hrem : (k : Int).tmod (es.length : Int) = (r : Int) := by rw [← hr]; rfl
          have hrem2 : (k : Int) % (es.length : Int) = (r : Int) := by rw [← hr]; rfl
          obtain ⟨x, hx⟩ : ∃ x, fs[tn]? = some x := ⟨fs[tn]'(by rw [HFL.out]; exact htn), List.getElem?_eq_getElem _⟩
          obtain ⟨y, hy⟩ : ∃ y, fs[r]? = some y := ⟨fs[r]'(by rw [HFL.out]; exact hrl), List.getElem?_eq_getElem _⟩
          have hcells : ∀ {v : World} {ff : List (Int × Int)}, EOwn v V.heap.size (.slice (some ⟨g, 0, none⟩) es.length capc) ff → ∀ j d, ff[j]? = some d → v.cell? ⟨g, j * 2, none⟩ = some (.int .i64 d.1) ∧ v.cell? ⟨g, j * 2 + 1, none⟩ = some (.int .i64 d.2) := fun {v ff} ho j d hj => by
            obtain ⟨m1, m2⟩ := eFlat_at ff j d hj
            have c1 := EOwn.cells ho _ _ m1
            have c2 := EOwn.cells ho _ _ m2
            rw [add_at, Nat.zero_add] at c1 c2
            exact ⟨c1, c2⟩
          obtain ⟨a1, a2⟩ := hcells HOW.out tn x hx
          obtain ⟨b1, b2⟩ := hcells HOW.out r y hy
          have z1 : wr.frozen? ⟨g, r * 2, none⟩ = false := hsb.free _
          have z2 : wr.frozen? ⟨g, r * 2 + 1, none⟩ = false := hsb.free _
          have z3 : wr.frozen? ⟨g, tn * 2, none⟩ = false := hsb.free _
          have z4 : wr.frozen? ⟨g, tn * 2 + 1, none⟩ = false := hsb.free _
          have g1 : ((tn : Int) < (es.length : Int)) := by omega
          have g3 : ((es.length : Int) > 0) := by omega
          have g4 : ((r : Int) < (es.length : Int)) := by omega
          have hfl := HFL.out
          have ho0 : EOwn wr V.heap.size (.slice (some ⟨g, 0, none⟩) fs.length capc) fs := by rw [hfl]; exact HOW.out
          obtain ⟨W1, hW1⟩ : ∃ W1, (wr.setCell ⟨g, r * 2, none⟩ (.int .i64 x.1)).setCell ⟨g, r * 2 + 1, none⟩ (.int .i64 x.2) = W1 := ⟨_, rfl⟩
          have ho1 := ho0.set r x.1 x.2 (by rw [hfl]; exact hrl)
          rw [hW1] at ho1
          obtain ⟨D1, hs1⟩ : ∃ D1, SB W1 g 29 D1 := by rw [← hW1]; exact ⟨_, (hsb.set _ _).set _ _⟩
          have hx1 : (fs.set r (x.1, x.2))[tn]? = some x := by
            rw [List.getElem?_set]
            by_cases e : r = tn
            · rw [if_pos e, if_pos (by rw [hfl]; exact hrl)]
            · rw [if_neg e]; exact hx
          have hl1 : (fs.set r (x.1, x.2)).length = es.length := by rw [List.length_set, hfl]
          obtain ⟨k1, k2⟩ := hcells (by rw [← hl1]; exact ho1) tn x hx1
          have z5 : W1.frozen? ⟨g, tn * 2, none⟩ = false := hs1.free _
          have z6 : W1.frozen? ⟨g, tn * 2 + 1, none⟩ = false := hs1.free _
          have ho2 := ho1.set tn y.1 y.2 (by rw [hl1]; exact htn)
          have HO2 : Hid (EOwn ((W1.setCell ⟨g, tn * 2, none⟩ (.int .i64 y.1)).setCell ⟨g, tn * 2 + 1, none⟩ (.int .i64 y.2)) V.heap.size (.slice (some ⟨g, 0, none⟩) es.length capc) ((fs.set r (x.1, x.2)).set tn (y.1, y.2))) := Hid.intro (by
            have := ho2
            rw [List.length_set, hl1] at this
            exact this)
          have HPM : Hid (((fs.set r (x.1, x.2)).set tn (y.1, y.2)).Perm es) := Hid.intro (by
            have hx2 : fs[tn]'(by rw [hfl]; exact htn) = x := Option.some.inj ((List.getElem?_eq_getElem _).symm.trans hx)
            have hy2 : fs[r]'(by rw [hfl]; exact hrl) = y := Option.some.inj ((List.getElem?_eq_getElem _).symm.trans hy)
            have := @List.set_set_perm _ fs r tn (by rw [hfl]; exact hrl) (by rw [hfl]; exact htn)
            rw [hx2, hy2] at this
            exact this.trans HPE.out)
          have HBF : Hid (Below V.heap.size V ((W1.setCell ⟨g, tn * 2, none⟩ (.int .i64 y.1)).setCell ⟨g, tn * 2 + 1, none⟩ (.int .i64 y.2))) := Hid.intro (by
            rw [← hW1]
            exact (((HBW.out.setCell hBg _).setCell hBg _).setCell hBg _).setCell hBg _)
          have HW1 := Hid.intro hW1
          rw [← hW1] at k1 k2 z5 z6
          clear hin hg hsb hcs htake hr hfl ho0 ho1 hs1 hx1 hl1 ho2 hcells hx hy hW1
          go_wp2_with fail
          go_region
          rw [HW1.out]
          go_wp2
          go_roundw
          case rel => exact ⟨k + 1, _, by omega, by go_num, HPM.out, HO2.out, HBF.out.drew⟩
          case measure => simp [intOf]; omega
        · by_cases ht0 : 0 ≤ t
          · have g2 : ¬ (t < (es.length : Int)) := fun h => hin ⟨ht0, h⟩
            clear hin
            go_wp2
            go_roundw
            case rel => exact ⟨k + 1, fs, by omega, by go_num, HPE.out, HOW.out, HBW.out⟩
            case measure => simp [intOf]; omega
          · have g2 : ¬ (0 ≤ t) := ht0
            clear hin
            go_wp2
            go_roundw
            case rel => exact ⟨k + 1, fs, by omega, by go_num, HPE.out, HOW.out, HBW.out⟩
            case measure => simp [intOf]; omega
      · obtain rfl : k = ts.length := by omega
        have hfl := HFL.out
        have HF2 : Hid (Calls Try.prog 11 #[.int .i64 (m : Int), .slice ac es.length capc] wr fun e w' => FreeSays m fs wr w' e) := Hid.intro (by
          obtain ⟨a5, c5, e5, hr5, hm5⟩ := HOW.out.row
          injection e5 with e6 e7 e8
          rw [e6, e8, ← hfl]
          exact peb_Free m a5 c5 fs wr hr5 hm5)
        clear hfl
        go_wp2_with fail
        go_fit HF2.out
        rintro e w3 ⟨c2, at3, v2, rfl, hck2, hb3, hres2⟩
        obtain ⟨rfl, rfl⟩ := Chk_zero hck2 (by omega) (by omega) (by rw [HFL.out]; exact hl45) (chk_perm HEC.out HPE.out)
        rcases hres2 with ⟨hc, _⟩ | ⟨_, l2, hbr2, hrun2⟩
        · exact absurd rfl hc
        rw [Int.toNat_natCast] at hrun2
        have hbVw3 : Below V.heap.size V w3 := HBW.out.trans (hb3.mono HBW.out.size)
        have hsw3 := HSV.out.below hbVw3 HSV.out.lt
        have z0 : w3.cell? ⟨w1.heap.size, 0, none⟩ = some (.int .i64 0) := hsw3.cell 0
        have z1 : w3.cell? ⟨w1.heap.size, 1, none⟩ = some (.int .i64 0) := hsw3.cell 1
        have f0 : w3.frozen? ⟨w1.heap.size, 0, none⟩ = false := hsw3.free 0
        have f1 : w3.frozen? ⟨w1.heap.size, 1, none⟩ = false := hsw3.free 1
        obtain ⟨w4, hw4⟩ : ∃ w4, (w3.setCell ⟨w1.heap.size, 0, none⟩ (.int .i64 0)).setCell ⟨w1.heap.size, 1, none⟩ (.int .i64 0) = w4 := ⟨_, rfl⟩
        have hs4 : SB w4 w1.heap.size 31 #[.int .i64 0, .int .i64 0] := by rw [← hw4]; exact (hsw3.set 0 _).set 1 _
        have hk4 : ∀ b, b ≠ w1.heap.size → w4.heap[b]? = w3.heap[b]? := fun b hb => by rw [← hw4, Below.heap_setCell _ _ _ _ hb, Below.heap_setCell _ _ _ _ hb]
        have hsz4 : w4.heap.size = w3.heap.size := by rw [← hw4]; simp [World.setCell]
        have hbw4 : Below w.heap.size w w4 := by
          rw [← hw4]
          have h1 := HW1S.out
          exact ((HBV.out.trans (hbVw3.mono HBV.out.size)).setCell h1 _).setCell h1 _
        have y0 : w4.cell? ⟨w1.heap.size, 0, none⟩ = some (.int .i64 0) := hs4.cell 0
        have hl2l : l2.length = es.length := by
          have hg' : Good m fs := fun e he => HG.out e (HPE.out.mem_iff.1 he)
          have := (kept_facts (by rw [← revE_all]; exact hg'.graph _) hrun2).2.2.2.2.1
          rw [← HFL.out]
          simpa using this
        have hlw1 : w1.heap.size < V.heap.size := HSV.out.lt
        have hb24 : BLst w4 v2 l2 := by
          rcases hbr2.at with ⟨rfl, rfl⟩ | ⟨g5, c5, rfl, hg5, _, _, _, hc5⟩
          · exact ⟨none, 0, rfl, fun i q hi => by simp at hi⟩
          · refine ⟨_, c5, rfl, fun i q hi => ⟨g5, 0, rfl, ?_, ?_⟩⟩
            · rw [hsz4]
              exact World.block_lt_of_cell? _ _ (hc5 i q hi)
            · rw [Nat.zero_add, World.cell?_of_block (w := w3) (hk4 g5 (by have := HBW.out.size; omega))]
              exact hc5 i q hi
        have hb14 : Below w1.heap.size w1 w4 := by
          rw [← hw4]
          exact ((HB1V.out.trans (hbVw3.mono (Nat.le_of_lt hlw1))).setCell (Nat.le_refl _) _).setCell (Nat.le_refl _) _
        have hl14 := HLB.out.below hb14
        obtain ⟨av, cv, rfl, hbc⟩ := hl14
        have HL14 : Hid (BLst w4 (.slice av l.length cv) l) := Hid.intro ⟨av, cv, rfl, hbc⟩
        have HM1 := Hid.intro (ref_Many (.slice av l.length cv) l w4 HL14.out (by rw [HLL.out]; exact hl45))
        have HM2 := Hid.intro (ref_Many v2 l2 w4 hb24 (by rw [hl2l]; exact hl45))
        obtain ⟨x, hx⟩ : ∃ x, l.countP id = x := ⟨_, rfl⟩
        have hx2 : l2.countP id = x := by rw [← hx]; exact (count_perm HG.out HPE.out HRUN.out hrun2).symm
        rw [hx] at HM1
        rw [hx2] at HM2
        have HW4 := Hid.intro hw4
        have HB4 := Hid.intro hbw4
        have e9 : ((l.length : Int) != (es.length : Int)) = false := by
          have := HLL.out
          simp
          omega
        have HBC := Hid.intro hbc
        clear hck2 hb3 hbr2 hrun2 hbVw3 hsw3 hw4 hs4 hk4 hsz4 hbw4 hl2l hlw1 hb24 hb14 hx hx2 hbc
        rw [← HW4.out] at y0
        go_wp2_with fail
        rw [HW4.out]
        go_fit HM1.out
        rintro e w5 ⟨rfl, rfl⟩
        go_wp2_with fail
        go_fit HM2.out
        rintro e w5 ⟨rfl, rfl⟩
        go_wp2_with fail
        go_loopw [98, 13] (fun iv kv wi => ∃ j : Nat, j ≤ es.length ∧ iv = .int .i64 j ∧ EOwn wi w5.heap.size kv (keptF (es.take j) (l.take j)) ∧ Below w5.heap.size w5 wi) (fun iv _ _ => es.length - (intOf iv).toNat)
        case atStart => exact ⟨0, by omega, rfl, EOwn.nil _ _, Below.refl _ _⟩
        case round =>
          obtain ⟨j, hj, rfl, hown, hbi⟩ := hrel
          have HOJ := Hid.intro hown
          have HBI := Hid.intro hbi
          clear hown hbi
          by_cases hje : j < es.length
          · obtain ⟨f, hf⟩ : ∃ f, es[j]? = some f := ⟨es[j], List.getElem?_eq_getElem hje⟩
            obtain ⟨bj, hbj⟩ : ∃ bj, l[j]? = some bj := ⟨l[j]'(by rw [HLL.out]; exact hje), List.getElem?_eq_getElem _⟩
            obtain ⟨fb, off, rfl, hfb, d0, d1⟩ := ((HE.out.below HB4.out).below HBI.out).cell j f hf
            obtain ⟨lb, lo, rfl, hlb, d2⟩ := HBC.out j bj hbj
            obtain ⟨V1, hV1⟩ : ∃ V1, wr.alloc (.cells #[.int .i64 f.1, .int .i64 f.2] 29) = V1 := ⟨_, rfl⟩
            have hbV1 : Below wr.heap.size wr V1 := by rw [← hV1]; exact (Below.refl _ _).alloc (Nat.le_refl _) _
            have hb5V : Below w5.heap.size w5 V1 := HBI.out.trans (hbV1.mono HBI.out.size)
            have hsv : SB V1 wr.heap.size 29 #[.int .i64 f.1, .int .i64 f.2] := by rw [← hV1]; exact SB.new wr _ _
            have p0 : V1.cell? ⟨wr.heap.size, 0, none⟩ = some (.int .i64 f.1) := hsv.cell 0
            have p1 : V1.cell? ⟨wr.heap.size, 1, none⟩ = some (.int .i64 f.2) := hsv.cell 1
            have d2' : V1.cell? ⟨lb, lo + j, none⟩ = some (.bool bj) := (hb5V.cell (p := ⟨lb, lo + j, none⟩) hlb).trans d2
            have hoV := HOJ.out.below hbV1
            have q3 : ((j : Int) < (es.length : Int)) := by omega
            have q4 : ((j : Int) < (l.length : Int)) := by have := HLL.out; omega
            have hkt := keptF_take HLL.out hf hbj
            have HKT := Hid.intro hkt
            cases bj with
            | true =>
              obtain ⟨X, hX⟩ : ∃ X, V1.alloc (.cells #[.int .i64 f.1, .int .i64 f.2] 29) = X := ⟨_, rfl⟩
              have hbX : Below V1.heap.size V1 X := by rw [← hX]; exact (Below.refl _ _).alloc (Nat.le_refl _) _
              have hszV : V1.heap.size = wr.heap.size + 1 := by rw [← hV1, World.size_alloc]
              have hcX : ∀ j u, (([f] : List (Int × Int)).flatMap eCells)[j]? = some u → X.cell? ((⟨wr.heap.size + 1, 0, none⟩ : Addr).add j) = some u := fun j u hj => by
                rw [← hszV, add_at, Nat.zero_add, ← hX, (SB.new V1 29 #[.int .i64 f.1, .int .i64 f.2]).cell]
                simpa [eCells] using hj
              have hoX := hoV.below hbX
              obtain ⟨v6, w6, happ, ho6, hg6, _⟩ := hoX.app ⟨wr.heap.size + 1, 0, none⟩ [f] hcX (by have h1 := (keptF_sub (es.take j) (l.take j)).1; rw [List.length_take] at h1; simp only [List.length_singleton]; omega) (by have := hb5V.size; have := hbX.size; omega) 1
              have hb5X := hb5V.trans (hbX.mono hb5V.size)
              have HB6 : Hid (Below w5.heap.size w5 w6) := Hid.intro (hb5X.trans ⟨hg6.os, hg6.tape, hg6.output, hg6.size, fun b hb => hg6.block b (by have := hb5X.size; omega) (fun e => by have := (hoX.block e.symm).1; omega)⟩)
              have HO6 : Hid (EOwn w6 w5.heap.size v6 (keptF (es.take (j + 1)) (l.take (j + 1)))) := Hid.intro (by rw [HKT.out]; exact ho6)
              have happ' : appRun Try.prog 27 27 u13 (.slice (some ⟨wr.heap.size + 1, 0, none⟩) 1 1) ((wr.alloc (.cells #[.int .i64 f.1, .int .i64 f.2] 29)).alloc (.cells #[.int .i64 f.1, .int .i64 f.2] 29)) = .ok v6 w6 := by rw [hV1, hX]; exact happ
              rw [← hV1] at p0 p1 d2'
              clear hf hbj hV1 hbV1 hb5V hsv hoV hkt hX hbX hszV hcX hoX happ ho6 hg6 hb5X d2 hlb
              go_wp2
              go_roundw
              case rel => exact ⟨j + 1, by omega, by go_num, HO6.out, HB6.out⟩
              case measure => simp [intOf]; omega
            | false =>
              have HO6 : Hid (EOwn V1 w5.heap.size u13 (keptF (es.take (j + 1)) (l.take (j + 1)))) := Hid.intro (by rw [HKT.out]; exact hoV)
              have HB6 := Hid.intro hb5V
              have HV1 := Hid.intro hV1
              rw [← hV1] at p0 p1 d2'
              clear hf hbj hV1 hbV1 hb5V hsv hoV hkt d2 hlb
              go_wp2
              go_roundw
              case rel => exact ⟨j + 1, by omega, by go_num, by rw [HV1.out]; exact HO6.out, by rw [HV1.out]; exact HB6.out⟩
              case measure => simp [intOf]; omega
          · obtain rfl : j = es.length := by omega
            have hoe : EOwn wr w5.heap.size u13 (keptF es l) := by
              have := HOJ.out
              rw [List.take_length, ← HLL.out, List.take_length] at this
              exact this
            obtain ⟨ak, ck, rfl, hrk, _⟩ := hoe.row
            obtain ⟨hk1, hk2⟩ := keptF_sub es l
            have HTG := Hid.intro (ref_Together m hm1 hm2 ak ck (keptF es l) wr hrk (fun e he => HG.out e (hk2 e he)) (Nat.le_trans hk1 hl45))
            have HSPA := Hid.intro (kept_sparse HG.out HRUN.out HLL.out)
            have HBE := Hid.intro (HB4.out.trans (HBI.out.mono HB4.out.size))
            clear hoe hrk hk1 hk2
            go_wp2_with fail
            go_fit HTG.out
            rintro e w7 ⟨b7, rfl, hiff, hb7⟩
            obtain rfl := hiff.2 HSPA.out
            have HB7 := Hid.intro (HBE.out.trans (hb7.mono HBE.out.size))
            clear hiff hb7
            go_wp2
            go_ret
            exact ⟨rfl, HB7.out⟩
end Go.Proofs.Ytmoioobjapnjmaa
