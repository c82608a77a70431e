/- package force: Alike. package force: too many forces. rafterlaw's spot. rafterlaw's closed fact: a couple. What is printed is read back: one text, one fraction; how long texts are. Plain, no program. What the laws of chapter 1 say of fractions; plain, no program. -/
import Derived.Test.YtgnmjaponiclhaaGreatDoorC38ForceG
import Derived.Test.YtgnmjaponiclhaaGreatDoorC33FVal
import Derived.Test.YtgnmjaponiclhaaGreatDoorC30TextB
import Derived.Test.YtgnmjaponiclhaaGreatDoorC13Shelf
import Derived.Test.YtgnmjaponiclhaaGreatDoorC16RefSum
namespace Go.Proofs.YtgnmjaponiclhaaGreatDoor
open Go.RowKit
set_option linter.unusedVariables false
set_option linter.unusedSimpArgs false

/-- what Alike leaves -/
def AlikeAns (w : World) (fs gs : List F4) (e : Ending) (w' : World) : Prop := ∃ (x y t x' y' t' : Rat), Sums 0 0 fs x y t ∧ Sums 0 0 gs x' y' t' ∧ e = .returned (.tuple #[.bool (decide (x = x' ∧ y = y' ∧ t = t')), .int .i64 0]) ∧ Below w.heap.size w w'

set_option maxRecDepth 100000 in
set_option maxHeartbeats 2000000 in
theorem force_Alike (a b : Option Addr) (cap cap2 W V : Nat) (fs gs : List F4) (w : World) (hg : Glob w) (hf : FRow w a cap fs) (hf2 : FRow w b cap2 gs) (hl : fs.length ≤ 60) (hl2 : gs.length ≤ 60)
    (hW : wt 0 fs ≤ W) (hWW : W < 60000000000) (hV : wt 0 gs ≤ V) (hVV : V < 60000000000) (hs : ∀ f, f ∈ fs → sz f ≤ 1073741824) (hs2 : ∀ f, f ∈ gs → sz f ≤ 1073741824) :
    Calls Tryz.prog 15 #[.slice a fs.length cap, .slice b gs.length cap2] w (AlikeAns w fs gs) := by
  have q1 : ¬ ((60 : Int) < (fs.length : Int)) := by omega
  have q2 : ¬ ((60 : Int) < (gs.length : Int)) := by omega
  have HTA := Hid.intro (force_total a cap 0 W fs _ _ _ _ _ _ 0 0 w (zeros_bag 0 hg) hf hl (by decide) hW hWW hs)
  have HTB := Hid.intro (fun w' hb => force_total b cap2 0 V gs _ _ _ _ _ _ 0 0 w' (zeros_bag 0 (hg.below hb)) (hf2.below hb) hl2 (by decide) hV hVV hs2)
  clear hg hf hf2 hs hs2
  go_enter Tryz.func15, Tryz.ntmps15
  go_wp2_with fail
  go_fit HTA.out
  rintro e wc ⟨x, y, t, x1, x2, x3, x4, x5, x6, x7, x8, x9, hsum, rfl, hb⟩
  have HSU := Hid.intro hsum
  have HTC := Hid.intro (HTB.out wc hb.base)
  have HB1 := Hid.intro hb
  clear HTA HTB hsum hb
  go_wp2_with fail
  go_fit HTC.out
  rintro e wd ⟨x', y', t', y1, y2, y3, y4, y5, y6, y7, y8, y9, hsum, rfl, hb⟩
  have HSV := Hid.intro hsum
  have HB2 := Hid.intro hb
  clear HTC hsum hb
  have g1 := HB1.out.below HB2.out.base
  obtain ⟨gT, hgT⟩ : ∃ gT, wd.heap.size = gT := ⟨_, rfl⟩
  obtain ⟨wE, hwE⟩ : ∃ wE, (wd.alloc (.cells #[x1, x2, x3, x4, x5, x6, x7, x8, x9] 132)).alloc (.cells #[y1, y2, y3, y4, y5, y6, y7, y8, y9] 132) = wE := ⟨_, rfl⟩
  have hbE : Below wd.heap.size wd wE := by rw [← hwE]; exact Below.new2 wd _ _
  have hT : SB wE gT 132 #[x1, x2, x3, x4, x5, x6, x7, x8, x9] := by rw [← hwE, ← hgT]; exact (SB.new wd _ _).alloc _
  have hU : SB wE (gT + 1) 132 #[y1, y2, y3, y4, y5, y6, y7, y8, y9] := by rw [← hwE, ← hgT]; exact SB.new2 wd _ _ _ _
  obtain ⟨K, hKK⟩ : ∃ K, wt 0 fs + 1 = K := ⟨_, rfl⟩
  obtain ⟨K2, hKK2⟩ : ∃ K, wt 0 gs + 1 = K := ⟨_, rfl⟩
  have hR : FBag wd wd [⟨x1, x2, x3, x, K⟩, ⟨x4, x5, x6, y, K⟩, ⟨x7, x8, x9, t, K⟩, ⟨y1, y2, y3, x', K2⟩, ⟨y4, y5, y6, y', K2⟩, ⟨y7, y8, y9, t', K2⟩] := by
    have h2 := HB2.out.rebase
    rw [hKK] at g1
    rw [hKK2] at h2
    refine ⟨Below.refl _ _, h2.glob, fun u hu => ?_⟩
    simp only [List.mem_cons, List.not_mem_nil, or_false] at hu
    rcases hu with rfl | rfl | rfl | rfl | rfl | rfl
    · exact g1.ts _ (List.Mem.head _)
    · exact g1.ts _ (List.Mem.tail _ (List.Mem.head _))
    · exact g1.ts _ (List.Mem.tail _ (List.Mem.tail _ (List.Mem.head _)))
    · exact h2.ts _ (List.Mem.head _)
    · exact h2.ts _ (List.Mem.tail _ (List.Mem.head _))
    · exact h2.ts _ (List.Mem.tail _ (List.Mem.tail _ (List.Mem.head _)))
  have HR := Hid.intro (hR.below hbE).rebase
  have HT := Hid.intro hT
  have HU := Hid.intro hU
  have HBE := Hid.intro ((HB1.out.base.trans (HB2.out.base.mono HB1.out.base.size)).trans (hbE.mono (Nat.le_trans HB1.out.base.size HB2.out.base.size)))
  have oo := (g1.ts _ (List.Mem.head _)).1.one
  have s1 := store_one Tryz.prog oo.1
  have s2 := store_one Tryz.prog oo.2.1
  have s3 := store_one Tryz.prog oo.2.2
  clear oo
  have oo := (g1.ts _ (List.Mem.tail _ (List.Mem.head _))).1.one
  have s4 := store_one Tryz.prog oo.1
  have s5 := store_one Tryz.prog oo.2.1
  have s6 := store_one Tryz.prog oo.2.2
  clear oo
  have oo := (g1.ts _ (List.Mem.tail _ (List.Mem.tail _ (List.Mem.head _)))).1.one
  have s7 := store_one Tryz.prog oo.1
  have s8 := store_one Tryz.prog oo.2.1
  have s9 := store_one Tryz.prog oo.2.2
  clear oo
  have oo := (HB2.out.ts _ (List.Mem.head _)).1.one
  have r1 := store_one Tryz.prog oo.1
  have r2 := store_one Tryz.prog oo.2.1
  have r3 := store_one Tryz.prog oo.2.2
  clear oo
  have oo := (HB2.out.ts _ (List.Mem.tail _ (List.Mem.head _))).1.one
  have r4 := store_one Tryz.prog oo.1
  have r5 := store_one Tryz.prog oo.2.1
  have r6 := store_one Tryz.prog oo.2.2
  clear oo
  have oo := (HB2.out.ts _ (List.Mem.tail _ (List.Mem.tail _ (List.Mem.head _)))).1.one
  have r7 := store_one Tryz.prog oo.1
  have r8 := store_one Tryz.prog oo.2.1
  have r9 := store_one Tryz.prog oo.2.2
  clear oo
  have HGT := Hid.intro hgT
  have HWE := Hid.intro hwE
  clear hbE hT hU hgT hwE hR g1 HB1 HB2 hKK hKK2
  go_wp2_with fail
  rw [show (wd.alloc (.cells #[x1, x2, x3, x4, x5, x6, x7, x8, x9] 132)).alloc (.cells #[y1, y2, y3, y4, y5, y6, y7, y8, y9] 132) = wE from HWE.out]
  have hgT := HGT.out
  subst hgT
  clear HGT HWE
  by_cases hz : x = x' ∧ y = y'
  · apply Calls.mono
    apply FBag.vequal (w0 := wE) HR.out
    (focus (repeat (first | exact List.Mem.head _ | apply List.Mem.tail)))
    (focus (repeat (first | exact List.Mem.head _ | apply List.Mem.tail)))
    (focus (repeat (first | exact List.Mem.head _ | apply List.Mem.tail)))
    (focus (repeat (first | exact List.Mem.head _ | apply List.Mem.tail)))
    rw [decide_eq_true hz]
    rintro e wn ⟨rfl, hb⟩
    clear HR
    have HR := Hid.intro hb
    clear hb
    have hT := HT.out.below HR.out.base HT.out.lt
    have hT_6 : _ = some (x7) := hT.cell 6
    have hT_7 : _ = some (x8) := hT.cell 7
    have hT_8 : _ = some (x9) := hT.cell 8
    clear hT
    have hU := HU.out.below HR.out.base HU.out.lt
    have hU_6 : _ = some (y7) := hU.cell 6
    have hU_7 : _ = some (y8) := hU.cell 7
    have hU_8 : _ = some (y9) := hU.cell 8
    clear hU
    go_wp2_with fail
    apply Calls.mono
    apply FBag.equal (w0 := wE) HR.out
    (focus (repeat (first | exact List.Mem.head _ | apply List.Mem.tail)))
    (focus (repeat (first | exact List.Mem.head _ | apply List.Mem.tail)))
    rintro e wm ⟨rfl, hb⟩
    clear HR
    have HR := Hid.intro hb
    clear hb
    go_wp2
    go_ret2
    refine ⟨x, y, t, x', y', t', HSU.out, HSV.out, ?_, HBE.out.trans (HR.out.base.mono HBE.out.size)⟩
    by_cases ht : t = t'
    · rw [decide_eq_true ht, decide_eq_true (show x = x' ∧ y = y' ∧ t = t' from ⟨hz.1, hz.2, ht⟩)]; rfl
    · rw [decide_eq_false ht, decide_eq_false (show ¬ (x = x' ∧ y = y' ∧ t = t') from fun h => ht h.2.2)]; rfl
  · apply Calls.mono
    apply FBag.vequal (w0 := wE) HR.out
    (focus (repeat (first | exact List.Mem.head _ | apply List.Mem.tail)))
    (focus (repeat (first | exact List.Mem.head _ | apply List.Mem.tail)))
    (focus (repeat (first | exact List.Mem.head _ | apply List.Mem.tail)))
    (focus (repeat (first | exact List.Mem.head _ | apply List.Mem.tail)))
    rw [decide_eq_false hz]
    rintro e wn ⟨rfl, hb⟩
    clear HR
    have HR := Hid.intro hb
    clear hb
    go_wp2
    go_ret2
    refine ⟨x, y, t, x', y', t', HSU.out, HSV.out, ?_, HBE.out.trans (HR.out.base.mono HBE.out.size)⟩
    rw [decide_eq_false (show ¬ (x = x' ∧ y = y' ∧ t = t') from fun h => hz ⟨h.1, h.2.1⟩)]; rfl
end Go.Proofs.YtgnmjaponiclhaaGreatDoor
namespace Go.Proofs.YtgnmjaponiclhaaGreatDoor
open Go.RowKit
set_option linter.unusedVariables false
set_option linter.unusedSimpArgs false

set_option maxRecDepth 100000 in
set_option maxHeartbeats 1000000 in
theorem force_Total_many (a : Option Addr) (cap l : Nat) (sx sy : ByteArray) (w : World) (hl : 60 < l) :
    Calls Tryz.prog 13 #[.slice a l cap, .agg #[.string sx, .string sy]] w fun e w' => e = .returned (.tuple #[.agg #[.string ⟨#[]⟩, .string ⟨#[]⟩], .string ⟨#[]⟩, .int .i64 2]) ∧ Below w.heap.size w w' := by
  have hl' : ((60 : Int) < (l : Int)) := by omega
  have HB := Hid.intro (Below.new2 w (.cells #[.string sx, .string sy] 25) (.cells #[.string ⟨#[]⟩, .string ⟨#[]⟩] 25))
  have HS := Hid.intro (SB.new2 w 25 25 #[.string sx, .string sy] #[.string ⟨#[]⟩, .string ⟨#[]⟩])
  go_enter Tryz.func13, Tryz.ntmps13
  go_wp2
  refine bodyPost_ret (results_cell_three rfl _ _ (w.heap.size + 1) 25 #[.string ⟨#[]⟩, .string ⟨#[]⟩] (0, 0) _ rfl HS.out Tryz.underlying25 rfl Tryz.spotInfo) rfl ?_
  exact ⟨rfl, HB.out⟩

set_option maxRecDepth 100000 in
set_option maxHeartbeats 1000000 in
theorem force_Sum_many (a : Option Addr) (cap l : Nat) (w : World) (hl : 60 < l) :
    Calls Tryz.prog 14 #[.slice a l cap] w fun e w' => e = .returned (.tuple #[.agg #[.int .i64 0, .string ⟨#[]⟩, .string ⟨#[]⟩, .string ⟨#[]⟩, .string ⟨#[]⟩, .string ⟨#[]⟩], .int .i64 2]) ∧ Below w.heap.size w w' := by
  have hl' : ((60 : Int) < (l : Int)) := by omega
  have HB := Hid.intro ((Below.refl w.heap.size w).alloc (Nat.le_refl _) (.cells #[.int .i64 0, .string ⟨#[]⟩, .string ⟨#[]⟩, .string ⟨#[]⟩, .string ⟨#[]⟩, .string ⟨#[]⟩] 34))
  have HS := Hid.intro (SB.new w 34 #[.int .i64 0, .string ⟨#[]⟩, .string ⟨#[]⟩, .string ⟨#[]⟩, .string ⟨#[]⟩, .string ⟨#[]⟩])
  go_enter Tryz.func14, Tryz.ntmps14
  go_wp2
  refine bodyPost_ret (results_cell_two rfl _ _ w.heap.size 34 #[.int .i64 0, .string ⟨#[]⟩, .string ⟨#[]⟩, .string ⟨#[]⟩, .string ⟨#[]⟩, .string ⟨#[]⟩] (0, 0) _ rfl HS.out Tryz.underlying34 rfl Tryz.sumInfo) rfl ?_
  exact ⟨rfl, HB.out⟩

set_option maxRecDepth 100000 in
set_option maxHeartbeats 1000000 in
theorem force_Alike_many (a b : Option Addr) (cap cap2 l m : Nat) (w : World) (hl : 60 < l ∨ 60 < m) :
    Calls Tryz.prog 15 #[.slice a l cap, .slice b m cap2] w fun e w' => e = .returned (.tuple #[.bool false, .int .i64 2]) ∧ w' = w := by
  by_cases h1 : 60 < l
  · have hl' : ((60 : Int) < (l : Int)) := by omega
    go_enter Tryz.func15, Tryz.ntmps15
    go_wp2
    go_ret2
    exact ⟨rfl, rfl⟩
  · have hl' : ¬ ((60 : Int) < (l : Int)) := by omega
    have hm' : ((60 : Int) < (m : Int)) := by omega
    go_enter Tryz.func15, Tryz.ntmps15
    go_wp2
    go_ret2
    exact ⟨rfl, rfl⟩
end Go.Proofs.YtgnmjaponiclhaaGreatDoor
namespace Go.Proofs.YtgnmjaponiclhaaGreatDoor
open Go.RowKit
set_option linter.unusedVariables false
set_option linter.unusedSimpArgs false

set_option maxRecDepth 100000 in
theorem law_spot (s t : ByteArray) (w : World) : Calls Tryz.prog 18 #[.string s, .string t] w fun e w' => e = .returned (.agg #[.string s, .string t]) ∧ Below w.heap.size w w' := by
  have HB := Hid.intro ((Below.refl w.heap.size w).alloc (Nat.le_refl _) (.cells #[.string s, .string t] 25))
  go_enter Tryz.func18, Tryz.ntmps18
  go_wp2
  refine bodyPost_ret (results_cell_row rfl _ _ w.heap.size 25 #[.string s, .string t] (0, 0) _ rfl (SB.new w _ _) Tryz.underlying25 rfl Tryz.spotInfo) rfl ?_
  exact ⟨rfl, HB.out⟩

end Go.Proofs.YtgnmjaponiclhaaGreatDoor
namespace Go.Proofs.YtgnmjaponiclhaaGreatDoor
open Go.RowKit
set_option linter.unusedVariables false
set_option linter.unusedSimpArgs false

theorem Sums.inv {ox oy : Rat} {l : List F4} {x y t : Rat} (h : Sums ox oy l x y t) : (l = [] ∧ x = 0 ∧ y = 0 ∧ t = 0) ∨ ∃ fs f x0 y0 t0 px py wx wy, l = fs ++ [f] ∧ Sums ox oy fs x0 y0 t0 ∧ Q4 f px py wx wy ∧ x = x0 + wx ∧ y = y0 + wy ∧ t = t0 + ((px - ox) * wy - (py - oy) * wx) := by
  refine Sums.ind (P := fun l x y t => (l = [] ∧ x = 0 ∧ y = 0 ∧ t = 0) ∨ ∃ fs f x0 y0 t0 px py wx wy, l = fs ++ [f] ∧ Sums ox oy fs x0 y0 t0 ∧ Q4 f px py wx wy ∧ x = x0 + wx ∧ y = y0 + wy ∧ t = t0 + ((px - ox) * wy - (py - oy) * wx)) h (.inl ⟨rfl, rfl, rfl, rfl⟩) ?_
  intro fs x y t px py wx wy f h1 h2 _
  exact .inr ⟨_, _, _, _, _, _, _, _, _, rfl, h1, h2, rfl, rfl, rfl⟩
theorem Q4.inj {f : F4} {a b c d a' b' c' d' : Rat} (h : Q4 f a b c d) (k : Q4 f a' b' c' d') : a = a' ∧ b = b' ∧ c = c' ∧ d = d' := ⟨h.ax.inj k.ax, h.ay.inj k.ay, h.wx.inj k.wx, h.wy.inj k.wy⟩
/-- forces come to one thing alone -/
theorem Sums.inj {ox oy : Rat} {l : List F4} {x y t x' y' t' : Rat} (h : Sums ox oy l x y t) (k : Sums ox oy l x' y' t') : x = x' ∧ y = y' ∧ t = t' := by
  revert x' y' t'
  refine Sums.ind (P := fun l x y t => ∀ {x' y' t' : Rat}, Sums ox oy l x' y' t' → x = x' ∧ y = y' ∧ t = t') h ?_ ?_
  · intro x' y' t' k
    rcases k.inv with ⟨_, rfl, rfl, rfl⟩ | ⟨fs, f, _, _, _, _, _, _, _, h, _⟩
    · exact ⟨rfl, rfl, rfl⟩
    · exact absurd h (by simp)
  · intro fs0 x1 y1 t1 px1 py1 wx1 wy1 f1 h1 h2 ih x' y' t' k
    rcases k.inv with ⟨h, _⟩ | ⟨fs, f, x0, y0, t0, px, py, wx, wy, he, hs, hq, rfl, rfl, rfl⟩
    · exact absurd h (by simp)
    · obtain ⟨e1, e2⟩ := List.append_inj' he rfl
      obtain rfl : _ = f := by simpa using e2
      subst e1
      obtain ⟨rfl, rfl, rfl⟩ := ih hs
      obtain ⟨rfl, rfl, rfl, rfl⟩ := h2.inj hq
      exact ⟨rfl, rfl, rfl⟩

theorem qof_1 : QOf [49] 1 := ⟨1, .inl ⟨⟨⟨by decide, fun c hc => by simp [show (Lib.cut (Lib.trimPrefix [49] [45]) [47]).1 = [49] by decide] at hc; subst hc; decide⟩, fun h => absurd h (by decide)⟩, by decide⟩, by decide⟩
theorem qof_0 : QOf [48] 0 := ⟨0, .inl ⟨⟨⟨by decide, fun c hc => by simp [show (Lib.cut (Lib.trimPrefix [48] [45]) [47]).1 = [48] by decide] at hc; subst hc; decide⟩, fun h => absurd h (by decide)⟩, by decide⟩, by decide⟩
theorem qof_m1 : QOf [45, 49] (-1) := ⟨1, .inl ⟨⟨⟨by decide, fun c hc => by simp [show (Lib.cut (Lib.trimPrefix [45, 49] [45]) [47]).1 = [49] by decide] at hc; subst hc; decide⟩, fun h => absurd h (by decide)⟩, by decide⟩, by decide⟩
theorem qtext_0 : QText [48] 0 := ⟨[48], ⟨[48], .inl ⟨rfl, rfl⟩, rfl⟩, .inl ⟨rfl, rfl⟩⟩
theorem qtext_1 : QText [49] 1 := ⟨[49], ⟨[49], .inr ⟨by decide, [1], ⟨fun d hd => by simp at hd; omega, .inr (by simp), by simp [val]⟩, by decide⟩, rfl⟩, .inl ⟨rfl, rfl⟩⟩

/-- the couple's forces -/
def couple : List F4 := [⟨⟨#[49]⟩, ⟨#[48]⟩, ⟨#[48]⟩, ⟨#[49]⟩⟩, ⟨⟨#[]⟩, ⟨#[]⟩, ⟨#[48]⟩, ⟨#[45, 49]⟩⟩]
theorem couple_sums : Sums 0 0 couple 0 0 1 := by
  have h := Sums.snoc (Sums.snoc (Sums.nil (ox := 0) (oy := 0)) (f := ⟨⟨#[49]⟩, ⟨#[48]⟩, ⟨#[48]⟩, ⟨#[49]⟩⟩) ⟨qof_1, qof_0, qof_0, qof_1⟩) (f := ⟨⟨#[]⟩, ⟨#[]⟩, ⟨#[48]⟩, ⟨#[45, 49]⟩⟩) ⟨QOf.empty, QOf.empty, qof_0, qof_m1⟩
  have e1 : (0 : Rat) + 0 + 0 = 0 := by grind
  have e2 : (0 : Rat) + 1 + -1 = 0 := by grind
  have e3 : (0 : Rat) + ((1 - 0) * 1 - (0 - 0) * 0) + ((0 - 0) * -1 - (0 - 0) * 0) = 1 := by grind
  rw [e1, e2, e3] at h
  exact h

theorem couple_row {w : World} {g : Nat} (h : SB w g 29 #[.string ⟨#[49]⟩, .string ⟨#[48]⟩, .string ⟨#[48]⟩, .string ⟨#[49]⟩, .string ⟨#[]⟩, .string ⟨#[]⟩, .string ⟨#[48]⟩, .string ⟨#[45, 49]⟩]) : FRow w (some ⟨g, 0, none⟩) 2 couple := by
  refine ⟨by decide, fun i f hi => ⟨g, 0, rfl, h.lt, ?_⟩⟩
  match i with
  | 0 => simp [couple] at hi; subst hi; exact ⟨h.cell 0, h.cell 1, h.cell 2, h.cell 3⟩
  | 1 => simp [couple] at hi; subst hi; exact ⟨h.cell 4, h.cell 5, h.cell 6, h.cell 7⟩
  | i + 2 => simp [couple] at hi
theorem bytes_eq {s : ByteArray} {l : List UInt8} (h : s.data.toList = l) : s = ⟨l.toArray⟩ := by
  obtain ⟨⟨m⟩⟩ := s
  simp at h
  subst h
  rfl

set_option maxRecDepth 100000 in
set_option maxHeartbeats 1000000 in
theorem law_turns (w : World) (hg : Glob w) : Calls Tryz.prog 11 #[] w fun e w' => e = .returned (.bool true) ∧ Below w.heap.size w w' := by
  have HG := Hid.intro hg
  clear hg
  go_enter Tryz.func11, Tryz.ntmps11
  go_wp2_with fail
  go_fit (law_spot _ _ _)
  rintro e w1 ⟨rfl, hb1⟩
  go_wp2_with fail
  go_fit (law_spot _ _ _)
  rintro e w2 ⟨rfl, hb2⟩
  go_wp2_with fail
  go_fit (law_spot _ _ _)
  rintro e w3 ⟨rfl, hb3⟩
  have hb := (hb1.trans (hb2.mono hb1.size)).trans (hb3.mono (Nat.le_trans hb1.size hb2.size))
  have HB := Hid.intro hb
  clear hb1 hb2 hb3 hb
  obtain ⟨wA, hwA⟩ : ∃ wA, w3.alloc (.cells #[.string ⟨#[49]⟩, .string ⟨#[48]⟩, .string ⟨#[48]⟩, .string ⟨#[49]⟩, .string ⟨#[]⟩, .string ⟨#[]⟩, .string ⟨#[48]⟩, .string ⟨#[45, 49]⟩] 29) = wA := ⟨_, rfl⟩
  have hbA : Below w3.heap.size w3 wA := by rw [← hwA]; exact (Below.refl _ _).alloc (Nat.le_refl _) _
  have hsA : SB wA w3.heap.size 29 #[.string ⟨#[49]⟩, .string ⟨#[48]⟩, .string ⟨#[48]⟩, .string ⟨#[49]⟩, .string ⟨#[]⟩, .string ⟨#[]⟩, .string ⟨#[48]⟩, .string ⟨#[45, 49]⟩] := by rw [← hwA]; exact SB.new w3 _ _
  have HBA := Hid.intro (HB.out.trans (hbA.mono HB.out.size))
  have HSM : Hid (Calls Tryz.prog 14 #[.slice (some ⟨w3.heap.size, 0, none⟩) 2 2] wA (SumAns wA couple)) := Hid.intro (force_Sum (some ⟨w3.heap.size, 0, none⟩) 2 9000000000 couple wA (HG.out.below HBA.out) (couple_row hsA) (by decide) (by decide) (by decide) (by
    intro f hf
    simp only [couple, List.mem_cons, List.not_mem_nil, or_false] at hf
    rcases hf with rfl | rfl
    · decide
    · decide))
  have HWA := Hid.intro hwA
  clear hbA hsA hwA HB
  go_wp2_with fail
  rw [HWA.out]
  go_fit HSM.out
  rintro e w4 ⟨x, y, t, s1, s2, s3, s4, s5, hsum, h1, h2, h3, h4, h5, rfl, hb⟩
  obtain ⟨rfl, rfl, rfl⟩ := hsum.inj couple_sums
  have ek : kindOf 0 0 1 = 2 := by simp [kindOf]
  have e4 : nearX 0 0 1 = 0 := by simp [nearX]
  have e5 : nearY 0 0 1 = 0 := by simp [nearY]
  rw [e4] at h4
  rw [e5] at h5
  obtain rfl := bytes_eq (h1.inj qtext_0)
  obtain rfl := bytes_eq (h2.inj qtext_0)
  obtain rfl := bytes_eq (h3.inj qtext_1)
  obtain rfl := bytes_eq (h4.inj qtext_0)
  obtain rfl := bytes_eq (h5.inj qtext_0)
  rw [ek]
  have HB4 := Hid.intro (HBA.out.trans (hb.mono HBA.out.size))
  clear HSM hsum h1 h2 h3 h4 h5 hb ek e4 e5 HWA
  obtain ⟨gT, hgT⟩ : ∃ gT, w4.heap.size = gT := ⟨_, rfl⟩
  obtain ⟨wE, hwE⟩ : ∃ wE, w4.alloc (.cells #[Value.int .i64 2, Value.string ⟨#[48]⟩, Value.string ⟨#[48]⟩, Value.string ⟨#[49]⟩, Value.string ⟨#[48]⟩, Value.string ⟨#[48]⟩] 34) = wE := ⟨_, rfl⟩
  have HT : Hid (SB wE gT 34 #[Value.int .i64 2, Value.string ⟨#[48]⟩, Value.string ⟨#[48]⟩, Value.string ⟨#[49]⟩, Value.string ⟨#[48]⟩, Value.string ⟨#[48]⟩]) := Hid.intro (by rw [← hwE, ← hgT]; exact SB.new w4 _ _)
  have HBE : Hid (Below w.heap.size w wE) := Hid.intro (by rw [← hwE]; exact HB4.out.alloc HB4.out.size _)
  have HBX := Hid.intro (Below.refl wE.heap.size wE)
  have HGT := Hid.intro hgT
  have HWE := Hid.intro hwE
  clear hgT hwE
  go_wp2_with fail
  rw [show w4.alloc (.cells #[Value.int .i64 2, Value.string ⟨#[48]⟩, Value.string ⟨#[48]⟩, Value.string ⟨#[49]⟩, Value.string ⟨#[48]⟩, Value.string ⟨#[48]⟩] 34) = wE from HWE.out, HGT.out]
  have hT := HT.out.below HBX.out HT.out.lt
  have hT_0 : _ = some (Value.int .i64 2) := hT.cell 0
  have hT_1 : _ = some (Value.string ⟨#[48]⟩) := hT.cell 1
  have hT_2 : _ = some (Value.string ⟨#[48]⟩) := hT.cell 2
  have hT_3 : _ = some (Value.string ⟨#[49]⟩) := hT.cell 3
  have hT_4 : _ = some (Value.string ⟨#[48]⟩) := hT.cell 4
  have hT_5 : _ = some (Value.string ⟨#[48]⟩) := hT.cell 5
  clear hT
  go_region_held3
    (fun w' => w'.cell? ⟨gT, 0, none⟩ = some (Value.int .i64 2) ∧ w'.cell? ⟨gT, 1, none⟩ = some (Value.string ⟨#[48]⟩) ∧ w'.cell? ⟨gT, 2, none⟩ = some (Value.string ⟨#[48]⟩) ∧ w'.cell? ⟨gT, 3, none⟩ = some (Value.string ⟨#[49]⟩) ∧ w'.cell? ⟨gT, 4, none⟩ = some (Value.string ⟨#[48]⟩) ∧ w'.cell? ⟨gT, 5, none⟩ = some (Value.string ⟨#[48]⟩)) ((first | (simp [*]; done) | go_keep))
    (first
    | (go_at_call 18
       apply Calls.mono
       apply law_spot
       rintro e wn ⟨rfl, hb⟩
       first
         | have HBY : Hid (Below wE.heap.size wE wn) := Hid.intro (HBX.out.trans (hb.mono HBX.out.size))
         | have HBY : Hid (Below wE.heap.size wE wn) := Hid.intro (HBX.out.drew.trans (hb.mono HBX.out.size))
       clear HBX hb
       have HBX := HBY
       clear HBY
       have hT := HT.out.below HBX.out HT.out.lt
       have hT_0 : _ = some (Value.int .i64 2) := hT.cell 0
       have hT_1 : _ = some (Value.string ⟨#[48]⟩) := hT.cell 1
       have hT_2 : _ = some (Value.string ⟨#[48]⟩) := hT.cell 2
       have hT_3 : _ = some (Value.string ⟨#[49]⟩) := hT.cell 3
       have hT_4 : _ = some (Value.string ⟨#[48]⟩) := hT.cell 4
       have hT_5 : _ = some (Value.string ⟨#[48]⟩) := hT.cell 5
       clear hT
       skip)
    )
  all_goals
    go_wp2
    go_ret
    exact ⟨rfl, HBE.out.trans (HBX.out.mono HBE.out.size)⟩
end Go.Proofs.YtgnmjaponiclhaaGreatDoor
namespace Go.Proofs.YtgnmjaponiclhaaGreatDoor
open Go
set_option linter.unusedVariables false

theorem decVal_rev (ds : List Nat) (h : Small 10 ds) : decVal (ds.reverse.map (fun d => UInt8.ofNat (48 + d))) = val 10 ds := by
  induction ds with
  | nil => rfl
  | cons d l ih =>
    have h1 := h d (List.mem_cons_self ..)
    have h2 := ih fun e he => h e (List.mem_cons_of_mem _ he)
    have h3 : (UInt8.ofNat (48 + d)).toNat = 48 + d := by
      rw [UInt8.toNat_ofNat']
      omega
    rw [List.reverse_cons, List.map_append, List.map_cons, List.map_nil, decVal_snoc, h2, h3, val_cons]
    omega

theorem IsDec.dig {l : List UInt8} {n : Nat} (h : IsDec l n) : IsDig l ∧ decVal l = n := by
  rcases h with ⟨rfl, rfl⟩ | ⟨h0, ds, hd, rfl⟩
  · exact ⟨⟨by decide, fun c hc => by simp at hc; subst hc; decide⟩, by decide⟩
  · refine ⟨⟨?_, ?_⟩, by rw [decVal_rev ds hd.small]; exact hd.eq⟩
    · intro hn
      have : ds = [] := by simpa using hn
      subst this
      exact h0 (by rw [← hd.eq]; rfl)
    · intro c hc
      obtain ⟨d, hm, rfl⟩ := List.mem_map.1 hc
      have h1 := hd.small d (by simpa using hm)
      rw [UInt8.toNat_ofNat']
      omega

theorem index_digits {l : List UInt8} (h : AllDigits l) : Lib.index l [47] = -1 := by
  induction l with
  | nil => rfl
  | cons c l ih =>
    have h1 := h c (List.mem_cons_self ..)
    have h2 := ih fun d hd => h d (List.mem_cons_of_mem _ hd)
    have h3 : ((47 : UInt8) == c) = false := by
      rw [beq_eq_false_iff_ne]
      rintro rfl
      exact absurd h1.1 (by decide)
    unfold Lib.index
    rw [h2]
    simp [List.isPrefixOf, h3]

theorem index_bar {l : List UInt8} (d : List UInt8) (h : AllDigits l) : Lib.index (l ++ 47 :: d) [47] = l.length := by
  induction l with
  | nil => simp [Lib.index, List.isPrefixOf]
  | cons c l ih =>
    have h1 := h c (List.mem_cons_self ..)
    have h2 := ih fun d hd => h d (List.mem_cons_of_mem _ hd)
    have h3 : ((47 : UInt8) == c) = false := by
      rw [beq_eq_false_iff_ne]
      rintro rfl
      exact absurd h1.1 (by decide)
    have h4 : ((l.length : Int) == -1) = false := by
      rw [beq_eq_false_iff_ne]; omega
    rw [List.cons_append]
    unfold Lib.index
    rw [h2]
    simp [List.isPrefixOf, h3, h4]

theorem cut_digits {l : List UInt8} (h : AllDigits l) : Lib.cut l [47] = (l, [], false) := by
  unfold Lib.cut
  rw [index_digits h]
  rfl
theorem cut_bar {l : List UInt8} (d : List UInt8) (h : AllDigits l) : Lib.cut (l ++ 47 :: d) [47] = (l, d, true) := by
  unfold Lib.cut
  rw [index_bar d h, if_pos (by omega)]
  simp

theorem hasPrefix_digits {l : List UInt8} (t : List UInt8) (h : IsDig l) : Lib.hasPrefix (l ++ t) [45] = false := by
  obtain ⟨h0, h⟩ := h
  cases l with
  | nil => exact absurd rfl h0
  | cons c l =>
    have h1 := h c (List.mem_cons_self ..)
    have h3 : ((45 : UInt8) == c) = false := by
      rw [beq_eq_false_iff_ne]
      rintro rfl
      exact absurd h1.1 (by decide)
    simp [Lib.hasPrefix, List.isPrefixOf, h3]
theorem trimPrefix_digits {l : List UInt8} (t : List UInt8) (h : IsDig l) : Lib.trimPrefix (l ++ t) [45] = l ++ t := by
  unfold Lib.trimPrefix
  rw [hasPrefix_digits t h]
  rfl
theorem hasPrefix_minus (t : List UInt8) : Lib.hasPrefix (45 :: t) [45] = true := by
  simp [Lib.hasPrefix, List.isPrefixOf]
theorem trimPrefix_minus (t : List UInt8) : Lib.trimPrefix (45 :: t) [45] = t := by
  unfold Lib.trimPrefix
  rw [hasPrefix_minus t]
  rfl

theorem sgn_natAbs (X : Int) : sgn (decide (X < 0)) X.natAbs = X := by
  unfold sgn
  by_cases h : X < 0
  · simp [h]; omega
  · simp [h]; omega

/-- what is printed counts as what was printed -/
theorem QText.back {l : List UInt8} {q : Rat} (h : QText l q) : QOf l q := by
  obtain ⟨m, ⟨k, hk, rfl⟩, h⟩ := h
  obtain ⟨hd, hv⟩ := hk.dig
  have e1 : ∀ t, Lib.hasPrefix ((if q.num < 0 then 45 :: k else k) ++ t) [45] = decide (q.num < 0) := by
    intro t
    by_cases h0 : q.num < 0
    · simp only [h0, if_true, decide_true, List.cons_append]; exact hasPrefix_minus _
    · simp only [h0, if_false, decide_false]; exact hasPrefix_digits t hd
  have e2 : ∀ t, Lib.trimPrefix ((if q.num < 0 then 45 :: k else k) ++ t) [45] = k ++ t := by
    intro t
    by_cases h0 : q.num < 0
    · simp only [h0, if_true, List.cons_append]; exact trimPrefix_minus _
    · simp only [h0, if_false]; exact trimPrefix_digits t hd
  rcases h with ⟨h1, rfl⟩ | ⟨h1, d, hdd, rfl⟩
  · have e3 := e1 []
    have e4 := e2 []
    rw [List.append_nil] at e3 e4
    rw [List.append_nil] at e4
    have := qOf_mk (c1 := k) (c2 := []) (bar := false) e4 e3 (by rw [cut_digits hd.2]) (by rw [cut_digits hd.2]) (by rw [cut_digits hd.2]) hd (fun h => by cases h)
    rw [hv, sgn_natAbs] at this
    have e5 : mkRat q.num (if false = true then decVal [] else 1) = q := by
      have := Rat.mkRat_self q
      rw [h1] at this
      exact this
    rw [e5] at this
    exact this
  · obtain ⟨gd, gv⟩ := hdd.dig
    have := qOf_mk (c1 := k) (c2 := d) (bar := true) (e2 (47 :: d)) (e1 (47 :: d)) (by rw [cut_bar d hd.2]) (by rw [cut_bar d hd.2]) (by rw [cut_bar d hd.2]) hd (fun _ => gd)
    rw [hv, sgn_natAbs, gv] at this
    have e5 : mkRat q.num (if true = true then q.den else 1) = q := Rat.mkRat_self q
    rw [e5] at this
    exact this

/-- one text, one fraction -/
theorem QText.one {l : List UInt8} {p q : Rat} (h : QText l p) (k : QText l q) : p = q := h.back.inj k.back
theorem QText.eq_iff {l m : List UInt8} {p q : Rat} (h : QText l p) (k : QText m q) : l = m ↔ p = q := by
  constructor
  · rintro rfl; exact h.one k
  · rintro rfl; exact h.inj k
theorem QText.len {s : ByteArray} {q : Rat} {K : Nat} (h : QText s.data.toList q) (hq : Fits q K) : s.size ≤ 2 * K + 4 := by
  obtain ⟨m, ⟨k, hk, rfl⟩, h⟩ := h
  have h2 := hk.len hq.1
  have h3 : (if q.num < 0 then 45 :: k else k).length ≤ k.length + 1 := by split <;> simp
  have h4 : s.data.toList.length = s.size := by simp
  rcases h with ⟨_, h⟩ | ⟨_, d, hd, h⟩
  · rw [h] at h4; omega
  · have h5 := hd.len hq.2
    rw [h, List.length_append, List.length_cons] at h4
    omega
end Go.Proofs.YtgnmjaponiclhaaGreatDoor
namespace Go.Proofs.YtgnmjaponiclhaaGreatDoor
open Go.RowKit
set_option linter.unusedVariables false
set_option linter.unusedSimpArgs false

/-- the same forces around another place -/
theorem Sums.move {l : List F4} {x y t : Rat} (ox oy : Rat) (h : Sums 0 0 l x y t) : Sums ox oy l x y (t - ox * y + oy * x) := by
  refine Sums.ind (P := fun l x y t => Sums ox oy l x y (t - ox * y + oy * x)) h ?_ ?_
  · have e : (0 : Rat) - ox * 0 + oy * 0 = 0 := by grind
    rw [e]
    exact Sums.nil
  · intro fs x0 y0 t0 px py wx wy f h1 h2 ih
    have := Sums.snoc ih h2
    have e : t0 - ox * y0 + oy * x0 + ((px - ox) * wy - (py - oy) * wx) = t0 + ((px - 0) * wy - (py - 0) * wx) - ox * (y0 + wy) + oy * (x0 + wx) := by grind
    rw [e] at this
    exact this

theorem sq_ne {x y : Rat} (h : ¬ (x = 0 ∧ y = 0)) : x * x + y * y ≠ 0 := by
  intro h0
  apply h
  have hx := sq_nonneg' x
  have hy := sq_nonneg' y
  have e1 : x * x = 0 := by grind
  have e2 : y * y = 0 := by grind
  exact ⟨by rcases Rat.mul_eq_zero.1 e1 with h | h <;> exact h, by rcases Rat.mul_eq_zero.1 e2 with h | h <;> exact h⟩

/-- one force at the nearest place -/
theorem near_one {f : F4} {x y t : Rat} (h : ¬ (x = 0 ∧ y = 0)) (hf : Q4 f (nearX x y t) (nearY x y t) x y) : Sums 0 0 [f] x y t := by
  have h0 := sq_ne h
  have := Sums.snoc (Sums.nil (ox := 0) (oy := 0)) hf
  rw [nearX, nearY, if_neg h, if_neg h] at this
  have e : (0 : Rat) + ((y * (t / (x * x + y * y)) - 0) * y - (-x * (t / (x * x + y * y)) - 0) * x) = t := by grind
  rw [e, Rat.zero_add, Rat.zero_add] at this
  exact this
theorem near_square (x y t : Rat) : nearX x y t * x + nearY x y t * y = 0 := by
  unfold nearX nearY
  split <;> grind

/-- how many bits forces come to -/
theorem Sums.fits {l : List F4} {x y t : Rat} (h : Sums 0 0 l x y t) : Fits x (wt 0 l + 1) ∧ Fits y (wt 0 l + 1) ∧ Fits t (wt 0 l + 1) := by
  refine Sums.ind (P := fun l x y t => Fits x (wt 0 l + 1) ∧ Fits y (wt 0 l + 1) ∧ Fits t (wt 0 l + 1)) h ?_ ?_
  · exact ⟨Fits.zero, Fits.zero, Fits.zero⟩
  · intro fs x0 y0 t0 px py wx wy f h1 h2 ih
    have e : wt 0 (fs ++ [f]) = wt 0 fs + (16 * sz f + 20) := by rw [wt_append]; simp [wt]
    have s : sz f = f.ax.size + f.ay.size + f.wx.size + f.wy.size := rfl
    have fax := h2.ax.fits (n := f.ax.size) (by simp)
    have fay := h2.ay.fits (n := f.ay.size) (by simp)
    have fwx := h2.wx.fits (n := f.wx.size) (by simp)
    have fwy := h2.wy.fits (n := f.wy.size) (by simp)
    rw [e]
    refine ⟨(ih.1.add fwx).mono (by omega), (ih.2.1.add fwy).mono (by omega), (ih.2.2.add (((fax.sub Fits.zero).mul fwy (by omega)).sub ((fay.sub Fits.zero).mul fwx (by omega)))).mono (by omega)⟩
theorem near_fits {x y t : Rat} {K : Nat} (hx : Fits x K) (hy : Fits y K) (ht : Fits t K) (hK : 0 < K) : Fits (nearX x y t) (6 * K + 1) ∧ Fits (nearY x y t) (6 * K + 1) := by
  have hn := (hx.mul hx hK).add (hy.mul hy hK)
  have hq := ht.div hn hK (by omega)
  unfold nearX nearY
  constructor
  · split
    · exact Fits.zero.mono (by omega)
    · exact (hy.mul hq hK).mono (by omega)
  · split
    · exact Fits.zero.mono (by omega)
    · exact (hx.neg.mul hq hK).mono (by omega)
/-- how long the one force is that many come to -/
theorem one_sz {l : List F4} {x y t : Rat} {s1 s2 s4 s5 : ByteArray} (h : Sums 0 0 l x y t) (h1 : QText s1.data.toList x) (h2 : QText s2.data.toList y) (h4 : QText s4.data.toList (nearX x y t)) (h5 : QText s5.data.toList (nearY x y t)) :
    sz ⟨s4, s5, s1, s2⟩ ≤ 28 * (wt 0 l + 1) + 20 := by
  obtain ⟨fx, fy, ft⟩ := h.fits
  obtain ⟨gx, gy⟩ := near_fits fx fy ft (by omega)
  have k1 := h1.len fx
  have k2 := h2.len fy
  have k4 := h4.len gx
  have k5 := h5.len gy
  have s : sz ⟨s4, s5, s1, s2⟩ = s4.size + s5.size + s1.size + s2.size := rfl
  omega
/-- .. and what it comes to -/
theorem one_sums {x y t : Rat} {s1 s2 s4 s5 : ByteArray} (h : kindOf x y t = 3) (h1 : QText s1.data.toList x) (h2 : QText s2.data.toList y) (h4 : QText s4.data.toList (nearX x y t)) (h5 : QText s5.data.toList (nearY x y t)) :
    Sums 0 0 [⟨s4, s5, s1, s2⟩] x y t := by
  refine near_one ?_ ⟨h4.back, h5.back, h1.back, h2.back⟩
  intro hz
  rw [kindOf, if_pos hz] at h
  split at h <;> omega
end Go.Proofs.YtgnmjaponiclhaaGreatDoor
