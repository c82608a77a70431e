/- package pebble: Free and Rigid. -/
import Derived.Test.YtgnmjaponiclhaaPebG
namespace Go.Proofs.Ytgnmjaponiclhaa
open Go.RowKit Go.MapKept
set_option linter.unusedVariables false
set_option linter.unusedSimpArgs false

theorem results_two_cell {P : Program} {fn : Func} {p u : Tmp} {ty : TypeId} (h : fn.results = #[.tmp u, .cell p ty]) (tmps : Array Value) (w : World) (g : Nat) (t : TypeId) (cs : Array Value) (fr : Nat × Nat) (d : TypeDesc)
    (hp : tmps.getD p undef = .pointer (some ⟨g, 0, none⟩)) (hg : w.heap[g]? = some (.cells cs t fr))
    (hu : P.underlying ty = some d) (hd : (match d with | .struct _ | .array _ _ => true | _ => false) = true) (hi : (P.info? ty).map (·.size) = some cs.size) :
    (results fn tmps).run P w = .ok (.tuple #[tmps.getD u undef, .agg cs]) w := by
  have hp' : tmps[p]?.getD undef = .pointer (some ⟨g, 0, none⟩) := by simpa using hp
  simp [results, h, hp', asAddr, run_loadVar_row w g t ty cs fr d hg hu hd hi]
/-- a row of bools -/
def BRow (w : World) (B : Nat) (v : Value) (l : List Bool) : Prop := w.ownsRow B 4 1 v l.length (l.map Value.bool)
theorem BRow.nil (w : World) (B : Nat) : BRow w B (.slice none 0 0) [] := World.ownsRow_nil w B 4 1
theorem BRow.mono {w : World} {B B' : Nat} {v : Value} {l : List Bool} (h : BRow w B v l) (hB : B' ≤ B) : BRow w B' v l := by
  refine ⟨h.1, ?_⟩
  rcases h.2 with h1 | ⟨g, cap, cur, e, hb, h2⟩
  · exact .inl h1
  · exact .inr ⟨g, cap, cur, e, Nat.le_trans hB hb, h2⟩
theorem BRow.keep {w w' : World} {B : Nat} {v : Value} {l : List Bool} (h : BRow w B v l) (hk : ∀ g, v.ownBlock = some g → w'.heap[g]? = w.heap[g]?) : BRow w' B v l := by
  refine ⟨h.1, ?_⟩
  rcases h.2 with h1 | ⟨g, cap, cur, rfl, hb, hg, h2⟩
  · exact .inl h1
  · exact .inr ⟨g, cap, cur, rfl, hb, by rw [hk g rfl]; exact hg, h2⟩
theorem BRow.block {w : World} {B : Nat} {v : Value} {l : List Bool} (h : BRow w B v l) {g : Nat} (hg : v.ownBlock = some g) : B ≤ g ∧ ∃ C, SB w g 4 C := by
  rcases h.2 with ⟨rfl, _⟩ | ⟨g', cap, cur, rfl, hb, hg', _⟩
  · simp [Value.ownBlock] at hg
  · have e : g' = g := by simpa [Value.ownBlock] using hg
    subst e
    exact ⟨hb, cur, hg'⟩
theorem BRow.kp {w w' : World} {B B0 : Nat} {v : Value} {l : List Bool} (h : BRow w B v l) (hk : Kp B0 w w') : BRow w' B v l := h.keep (fun g hg => by
  obtain ⟨_, C, hC⟩ := h.block hg
  exact hk.bools g C _ rfl hC)
theorem BRow.alloc {w : World} {B : Nat} {v : Value} {l : List Bool} (h : BRow w B v l) (o : Obj) : BRow (w.alloc o) B v l := h.keep (fun g hg => by
  obtain ⟨_, C, hC⟩ := h.block hg
  exact alloc_keep w o hC.lt)
theorem BRow.below {w w' : World} {B : Nat} {v : Value} {l : List Bool} (h : BRow w B v l) (hb : Below w.heap.size w w') : BRow w' B v l := h.keep (fun g hg => by
  obtain ⟨_, C, hC⟩ := h.block hg
  exact hb.block g hC.lt)
theorem BRow.at {w : World} {B : Nat} {v : Value} {l : List Bool} (h : BRow w B v l) : (v = .slice none 0 0 ∧ l = []) ∨ ∃ g cap, v = .slice (some ⟨g, 0, none⟩) l.length cap ∧ B ≤ g ∧ g < w.heap.size ∧ l.length ≤ cap ∧ cap ≤ maxLen ∧ ∀ i q, l[i]? = some q → w.cell? ⟨g, i, none⟩ = some (.bool q) := by
  rcases h.2 with ⟨h1, h2⟩ | ⟨g, cap, cur, rfl, hb, hg, hn, hm, hs, ht⟩
  · exact .inl ⟨h1, List.eq_nil_of_length_eq_zero h2⟩
  · refine .inr ⟨g, cap, rfl, hb, (Array.getElem?_eq_some_iff.1 hg).1, hn, hm, fun i q hi => ?_⟩
    have hil : i < l.length := (List.getElem?_eq_some_iff.1 hi).1
    have : (l.map Value.bool)[i]? = some (.bool q) := by rw [List.getElem?_map, hi]; rfl
    rw [← ht, List.getElem?_take_of_lt (by omega), Array.getElem?_toList] at this
    rw [SB.cell (t := 4) hg]
    exact this
theorem infoBool : (Try.prog.info? 4).map (fun i => (i.zero, i.size, i.bytes)) = some (some (.bool false), 1, 1) := by kernel_rfl
theorem BRow.app {w : World} {B : Nat} {v : Value} {l : List Bool} (h : BRow w B v l) (hl : l.length ≤ 1000) (hB : B ≤ w.heap.size) (a : Addr) (x : Bool) (hx : w.cell? a = some (.bool x)) (c : Nat) :
    ∃ v' w', appRun Try.prog 33 33 v (.slice (some a) 1 c) w = .ok v' w' ∧ BRow w' B v' (l ++ [x]) ∧ w.grownBy w' v.ownBlock := by
  obtain ⟨i0, hi, hz0, hz1, hz2⟩ := info_parts infoBool
  obtain ⟨v', w', h1, h2, h3, h4, h5⟩ := run_append_own_at (P := Try.prog) w B 33 33 4 i0 (.bool false) 1 1 Try.underlying33 hi hz0 hz1 hz2 rfl (by decide) v l.length (l.map Value.bool) h a 1 c [.bool x] rfl (fun j u hj => by
    cases j with
    | zero => simp at hj; subst hj; simpa [Addr.add] using hx
    | succ j => simp at hj) (fun u hu => by rw [List.mem_singleton.1 hu]; rfl) (by unfold maxLen; omega) (by omega) hB
  refine ⟨v', w', h1, ?_, h3⟩
  unfold BRow
  rw [List.length_append, List.map_append]
  exact h2
theorem PB.grownBool {w w' : World} {B0 B n g gl gp gm : Nat} {hv : Nat → Value} {loose : Nat → Nat} {paid : Nat → List Nat} {seen : PSet} (h : PB w B0 B n g gl gp gm hv loose paid seen) {row : Option Nat} (hg : w.grownBy w' row) (hr : ∀ b, row = some b → ∃ C, SB w b 4 C) : PB w' B0 B n g gl gp gm hv loose paid seen := by
  have far : ∀ {b : Nat} {t : TypeId} {C : Array Value}, SB w b t C → t ≠ 4 → w'.heap[b]? = w.heap[b]? := fun {b t C} hs ht => hg.block b hs.lt (fun e => by
    obtain ⟨D, hD⟩ := hr b e.symm
    unfold SB at hs hD
    rw [hs] at hD
    simp at hD
    exact ht hD.2)
  obtain ⟨es, c, hm, hi⟩ := h.map
  obtain ⟨a1, a2, a3, a4, a5⟩ := h.hi
  refine ⟨h.ne, h.lo, ⟨a1, a2, a3, a4, Nat.le_trans a5 hg.size⟩, h.brd.keep (far h.brd (by decide)), h.ls.keep (far h.ls (by decide)), h.hd.keep (far h.hd (by decide)), fun p hp => (h.rows p hp).keep (fun b hb => ?_), h.apart, es, c, ?_, hi⟩
  · obtain ⟨_, C, hC⟩ := (h.rows p hp).block hb
    exact far hC (by decide)
  · rw [hg.block gm (by omega) (fun e => by
      obtain ⟨D, hD⟩ := hr gm e.symm
      unfold SB at hD
      rw [hm] at hD
      cases hD)]
    exact hm
theorem Chk_good {n : Int} {es : List (Int × Int)} {at_ : Int} (h : ChkSays n es 0 at_) : ∃ m : Nat, n = m ∧ 1 ≤ m ∧ m ≤ 10 ∧ es.length ≤ 45 ∧ Good m es ∧ (∀ i x, es[i]? = some x → edgeC n es i x = 0) := by
  rcases h with ⟨_, h, _⟩ | ⟨h1, h2, h3, h⟩
  · cases h
  · rcases h with ⟨k, e, _, _, _, h, _⟩ | ⟨h, _, _⟩
    · exact absurd rfl h
    · refine ⟨n.toNat, by omega, by omega, by omega, h3, fun e he => ?_, h⟩
      obtain ⟨i, hi⟩ := List.mem_iff_getElem?.1 he
      have := h i e hi
      unfold edgeC at this
      split at this
      · rename_i hc
        rw [show ((n.toNat : Nat) : Int) = n by omega]
        exact hc
      · cases this
theorem Chk_at {n : Int} {es : List (Int × Int)} {at_ : Int} (h : ChkSays n es 0 at_) : at_ = 0 := by
  rcases h with ⟨_, h, _⟩ | ⟨h1, h2, h3, h⟩
  · cases h
  · rcases h with ⟨k, e, _, _, _, h, _⟩ | ⟨_, _, h⟩
    · exact absurd rfl h
    · exact h
def FreeSays (n : Int) (es : List (Int × Int)) (w w' : World) (e : Ending) : Prop :=
  ∃ c at_ v, e = .returned (.tuple #[v, .agg #[.int .i64 c, .int .i64 at_]]) ∧ ChkSays n es c at_ ∧ Below w.heap.size w w' ∧
    ((c ≠ 0 ∧ v = .slice none 0 0) ∨ (c = 0 ∧ ∃ l, BRow w' w.heap.size v l ∧ RunR n.toNat (es.map toE).reverse l.reverse))
set_option maxRecDepth 100000 in
set_option maxHeartbeats 4000000 in
theorem peb_Free (n : Int) (a : Option Addr) (cap : Nat) (es : List (Int × Int)) (w : World) (he : ERow w a cap es) (hlen : es.length ≤ maxLen) :
    Calls Try.prog 11 #[.int .i64 n, .slice a es.length cap] w fun e w' => FreeSays n es w w' e := by
  have HCK : Hid (∀ v, Below w.heap.size w v → Calls Try.prog 14 #[.int .i64 n, .slice a es.length cap] v fun e w' => ∃ c at_, e = .returned (.agg #[.int .i64 c, .int .i64 at_]) ∧ ChkSays n es c at_ ∧ Below v.heap.size v w') := Hid.intro (fun v hv => peb_Check n a cap es v (he.below hv) hlen)
  have HE := Hid.intro he
  obtain ⟨W, hW⟩ : ∃ W, w.alloc (.cells #[.int .i64 0, .int .i64 0] 31) = W := ⟨_, rfl⟩
  have HB0 : Hid (Below w.heap.size w W) := Hid.intro (by rw [← hW]; exact (Below.refl _ _).alloc (Nat.le_refl _) _)
  have HS0 : Hid (SB W w.heap.size 31 #[.int .i64 0, .int .i64 0]) := Hid.intro (by rw [← hW]; exact SB.new w _ _)
  have HW := Hid.intro hW
  clear he hlen hW
  go_enter Try.func11, Try.ntmps11
  go_wp2_with fail
  rw [HW.out]
  obtain ⟨s, hs⟩ : ∃ s, w.heap.size = s := ⟨_, rfl⟩
  rw [hs] at HS0 ⊢
  have HS := Hid.intro hs
  clear hs
  go_fit (HCK.out W HB0.out)
  rintro e w1 ⟨c, at_, rfl, hck, hb1⟩
  obtain ⟨V, hV⟩ : ∃ V, w1.alloc (.cells #[.int .i64 c, .int .i64 at_] 31) = V := ⟨_, rfl⟩
  have hb2 : Below W.heap.size W V := by rw [← hV]; exact hb1.alloc hb1.size _
  have HB2 := Hid.intro (HB0.out.trans (hb2.mono HB0.out.size))
  have HS2 := Hid.intro (HS0.out.below hb2 HS0.out.lt)
  have hp2 : SB V w1.heap.size 31 #[.int .i64 c, .int .i64 at_] := by rw [← hV]; exact SB.new w1 _ _
  have HP2 := Hid.intro hp2
  have p0 : V.cell? ⟨w1.heap.size, 0, none⟩ = some (.int .i64 c) := hp2.cell 0
  have p1 : V.cell? ⟨w1.heap.size, 1, none⟩ = some (.int .i64 at_) := hp2.cell 1
  have HCH := Hid.intro hck
  have HV := Hid.intro hV
  rw [← hV] at p0 p1
  clear hck hb1 hV hb2 hp2
  by_cases hc : c = 0
  · subst hc
    obtain rfl := Chk_at HCH.out
    obtain ⟨m, rfl, hm1, hm2, hl45, hgood, hec⟩ := Chk_good HCH.out
    have HG := Hid.intro hgood
    have HNB := Hid.intro (peb_new m hm2 V)
    clear hgood hec
    go_wp2_with fail
    rw [HV.out]
    go_fit HNB.out
    rintro e w2 ⟨g, gl, gp, gm, B, rfl, hpb, hbw⟩
    have HP := Hid.intro hpb
    have HB3 := Hid.intro hbw
    clear hpb hbw p0 p1
    go_wp2_with fail
    go_loopw [22, 8] (fun iv lv wr => ∃ (k : Nat) (l : List Bool) (hv : Nat → Value) (loose : Nat → Nat) (paid : Nat → List Nat) (seen : PSet), k ≤ es.length ∧ iv = .int .i64 k ∧ l.length = k ∧ BRow wr V.heap.size lv l.reverse ∧ After m es k l loose paid ∧ PB wr V.heap.size B m g gl gp gm hv loose paid seen ∧ Below V.heap.size V wr) (fun iv _ _ => es.length - (intOf iv).toNat)
    case atStart => exact ⟨0, [], _, _, _, _, by omega, rfl, rfl, BRow.nil _ _, After.start m es, HP.out, HB3.out⟩
    case round =>
      obtain ⟨k, l, hv, loose, paid, seen, hk, rfl, hll, hbr, haf, hpb, hbw⟩ := hrel
      rename_i lv
      have HAF := Hid.intro haf
      have HPB := Hid.intro hpb
      have HBW := Hid.intro hbw
      have HBR := Hid.intro hbr
      have HLL := Hid.intro hll
      clear haf hpb hbw hbr hll
      by_cases hlt : k < es.length
      · obtain ⟨f, hf⟩ : ∃ f, es[k]? = some f := ⟨es[k], List.getElem?_eq_getElem hlt⟩
        obtain ⟨x, y, hxy, hx, hy, hne, hte⟩ := HG.out.at hf
        obtain ⟨fb, off, rfl, hfb, d0, d1⟩ := ((HE.out.below HB2.out).below HBW.out).cell k f hf
        rw [hxy] at d0 d1
        have HFK := Hid.intro hf
        have HTE := Hid.intro hte
        obtain ⟨V1, hV1⟩ : ∃ V1, wr.alloc (.cells #[.int .i64 (x : Int), .int .i64 (y : Int)] 29) = V1 := ⟨_, rfl⟩
        have hpv : PB V1 V.heap.size B m g gl gp gm hv loose paid seen := by rw [← hV1]; exact HPB.out.alloc _
        have HBV : Hid (Below V.heap.size V V1) := Hid.intro (by rw [← hV1]; exact HBW.out.alloc HBW.out.size _)
        have HRV : Hid (BRow V1 V.heap.size u8 l.reverse) := Hid.intro (by rw [← hV1]; exact HBR.out.alloc _)
        have HT := Hid.intro (peb_take hm2 V1 hv loose paid seen _ x y hpv HAF.out.2 (HAF.out.sparse HG.out) hx hy hne)
        have hsv : SB V1 wr.heap.size 29 #[.int .i64 (x : Int), .int .i64 (y : Int)] := by rw [← hV1]; exact SB.new wr _ _
        have p0 : V1.cell? ⟨wr.heap.size, 0, none⟩ = some (.int .i64 (x : Int)) := hsv.cell 0
        have p1 : V1.cell? ⟨wr.heap.size, 1, none⟩ = some (.int .i64 (y : Int)) := hsv.cell 1
        have q1 : ((k : Int) < (es.length : Int)) := by omega
        have HV1 := Hid.intro hV1
        rw [← hV1] at p0 p1
        clear hf hxy hte hV1 hpv hsv hne
        go_wp2_with fail
        rw [HV1.out]
        go_fit HT.out
        rintro e w3 ⟨r, hv2, loose2, paid2, seen2, rfl, hpb2, hkp2, hts⟩
        have hb3 := HBV.out.trans hkp2.below
        have hr3 := HRV.out.kp hkp2
        obtain ⟨X, hX⟩ : ∃ X, w3.alloc (.cells #[.bool r] 4) = X := ⟨_, rfl⟩
        have hrX : BRow X V.heap.size u8 l.reverse := by rw [← hX]; exact hr3.alloc _
        have hbX : Below V.heap.size V X := by rw [← hX]; exact hb3.alloc hb3.size _
        have hcX : X.cell? ⟨w3.heap.size, 0, none⟩ = some (.bool r) := by rw [← hX]; exact (SB.new w3 4 #[.bool r]).cell 0
        have hpX : PB X V.heap.size B m g gl gp gm hv2 loose2 paid2 seen2 := by rw [← hX]; exact hpb2.alloc _
        obtain ⟨v', w4, happ, hr4, hg4⟩ := hrX.app (by rw [List.length_reverse, HLL.out]; omega) hbX.size ⟨w3.heap.size, 0, none⟩ r hcX 1
        have HP4 := Hid.intro (hpX.grownBool hg4 (fun b hb => (hrX.block hb).2))
        have HB4 : Hid (Below V.heap.size V w4) := Hid.intro (hbX.trans ⟨hg4.os, hg4.tape, hg4.output, hg4.size, fun j hj => hg4.block j (by have := hbX.size; omega) (fun e => by have := (hrX.block e.symm).1; omega)⟩)
        have HR4 : Hid (BRow w4 V.heap.size v' (r :: l).reverse) := Hid.intro (by rw [List.reverse_cons]; exact hr4)
        have HA4 := Hid.intro (HAF.out.step HFK.out HTE.out hts)
        rw [← hX] at happ
        clear hpb2 hkp2 hts d0 d1 p0 p1 hb3 hr3 hX hrX hbX hcX hpX hr4 hg4
        go_wp2
        go_roundw
        case rel => exact ⟨k + 1, r :: l, hv2, loose2, paid2, seen2, by omega, by go_num, by simp [HLL.out], HR4.out, HA4.out, HP4.out, HB4.out⟩
        case measure => simp [intOf]; omega
      · obtain rfl : k = es.length := by omega
        have hsw := HS2.out.below HBW.out HS2.out.lt
        have HSW := Hid.intro hsw
        have z0 : wr.cell? ⟨s, 0, none⟩ = some (.int .i64 0) := hsw.cell 0
        have z1 : wr.cell? ⟨s, 1, none⟩ = some (.int .i64 0) := hsw.cell 1
        have f0 : wr.frozen? ⟨s, 0, none⟩ = false := hsw.free 0
        have f1 : wr.frozen? ⟨s, 1, none⟩ = false := hsw.free 1
        clear hsw
        go_wp2
        refine bodyPost_ret (results_two_cell rfl _ _ s 31 #[.int .i64 0, .int .i64 0] (0, 0) _ rfl ((HSW.out.set 0 _).set 1 _) Try.underlying31 rfl faultInfo) rfl ?_
        have hbf := HB2.out.trans (HBW.out.mono HB2.out.size)
        refine ⟨0, 0, u8, rfl, HCH.out, (hbf.setCell (by rw [HS.out]; exact Nat.le_refl _) _).setCell (by rw [HS.out]; exact Nat.le_refl _) _, Or.inr ⟨rfl, l.reverse, ?_, ?_⟩⟩
        · refine (BRow.mono (B' := w.heap.size) HBR.out HB2.out.size).keep (fun b hb => ?_)
          have := (HBR.out.block hb).1
          have hsl := HS2.out.lt
          have hbs : b ≠ s := by omega
          rw [Below.heap_setCell _ _ _ _ hbs, Below.heap_setCell _ _ _ _ hbs]
        · rw [List.reverse_reverse, ← revE_all, Int.toNat_natCast]
          exact HAF.out.1
  · skip
    have z0 : V.cell? ⟨s, 0, none⟩ = some (.int .i64 0) := HS2.out.cell 0
    have z1 : V.cell? ⟨s, 1, none⟩ = some (.int .i64 0) := HS2.out.cell 1
    have f0 : V.frozen? ⟨s, 0, none⟩ = false := HS2.out.free 0
    have f1 : V.frozen? ⟨s, 1, none⟩ = false := HS2.out.free 1
    have e0 : (c != 0) = true := by simpa using hc
    go_wp2_with fail
    rw [HV.out]
    clear p0 p1
    have y0 : V.cell? ⟨w1.heap.size, 0, none⟩ = some (.int .i64 c) := HP2.out.cell 0
    have y1 : V.cell? ⟨w1.heap.size, 1, none⟩ = some (.int .i64 at_) := HP2.out.cell 1
    go_region
    go_wp2
    refine bodyPost_ret (results_two_cell rfl _ _ s 31 #[.int .i64 c, .int .i64 at_] (0, 0) _ rfl ((HS2.out.set 0 _).set 1 _) Try.underlying31 rfl faultInfo) rfl ?_
    exact ⟨c, at_, _, rfl, HCH.out, by refine Below.drew (Below.setCell (Below.setCell HB2.out ?_ _) ?_ _) <;> (rw [HS.out]; exact Nat.le_refl _), Or.inl ⟨hc, rfl⟩⟩
theorem peb_stiff (n : Nat) (h1 : 1 ≤ n) (h2 : n ≤ 10) (w : World) : Calls Try.prog 26 #[.int .i64 (n : Int)] w fun e w' => e = .returned (.int .i64 ((if n = 1 then 0 else 2 * n - 3 : Nat) : Int)) ∧ w' = w := by
  by_cases h : n = 1
  · subst h
    go_enter Try.func26, Try.ntmps26
    go_wp2
    go_ret
    exact ⟨rfl, rfl⟩
  · have e1 : ((n : Int) == 1) = false := by simpa using (by omega : (n : Int) ≠ 1)
    go_enter Try.func26, Try.ntmps26
    go_wp2
    go_ret
    refine ⟨?_, rfl⟩
    show Ending.returned (Value.int .i64 (2 * (n : Int) - 3)) = Ending.returned (Value.int .i64 ((2 * n - 3 : Nat) : Int))
    congr 2
    omega
def RigidSays (n : Int) (es : List (Int × Int)) (w w' : World) (e : Ending) : Prop :=
  ∃ c at_ b, e = .returned (.tuple #[.bool b, .agg #[.int .i64 c, .int .i64 at_]]) ∧ ChkSays n es c at_ ∧ Below w.heap.size w w' ∧
    ((c ≠ 0 ∧ b = false) ∨ (c = 0 ∧ ∃ l, RunR n.toNat (es.map toE).reverse l ∧ b = decide (l.countP id = if n.toNat = 1 then 0 else 2 * n.toNat - 3)))
set_option maxRecDepth 100000 in
set_option maxHeartbeats 4000000 in
theorem peb_Rigid (n : Int) (a : Option Addr) (cap : Nat) (es : List (Int × Int)) (w : World) (he : ERow w a cap es) (hlen : es.length ≤ maxLen) :
    Calls Try.prog 12 #[.int .i64 n, .slice a es.length cap] w fun e w' => RigidSays n es w w' e := by
  have HCK : Hid (∀ v, Below w.heap.size w v → Calls Try.prog 14 #[.int .i64 n, .slice a es.length cap] v fun e w' => ∃ c at_, e = .returned (.agg #[.int .i64 c, .int .i64 at_]) ∧ ChkSays n es c at_ ∧ Below v.heap.size v w') := Hid.intro (fun v hv => peb_Check n a cap es v (he.below hv) hlen)
  have HE := Hid.intro he
  obtain ⟨W, hW⟩ : ∃ W, w.alloc (.cells #[.int .i64 0, .int .i64 0] 31) = W := ⟨_, rfl⟩
  have HB0 : Hid (Below w.heap.size w W) := Hid.intro (by rw [← hW]; exact (Below.refl _ _).alloc (Nat.le_refl _) _)
  have HS0 : Hid (SB W w.heap.size 31 #[.int .i64 0, .int .i64 0]) := Hid.intro (by rw [← hW]; exact SB.new w _ _)
  have HW := Hid.intro hW
  clear he hlen hW
  go_enter Try.func12, Try.ntmps12
  go_wp2_with fail
  rw [HW.out]
  obtain ⟨s, hs⟩ : ∃ s, w.heap.size = s := ⟨_, rfl⟩
  rw [hs] at HS0 ⊢
  have HS := Hid.intro hs
  clear hs
  go_fit (HCK.out W HB0.out)
  rintro e w1 ⟨c, at_, rfl, hck, hb1⟩
  obtain ⟨V, hV⟩ : ∃ V, w1.alloc (.cells #[.int .i64 c, .int .i64 at_] 31) = V := ⟨_, rfl⟩
  have hb2 : Below W.heap.size W V := by rw [← hV]; exact hb1.alloc hb1.size _
  have HB2 := Hid.intro (HB0.out.trans (hb2.mono HB0.out.size))
  have HS2 := Hid.intro (HS0.out.below hb2 HS0.out.lt)
  have hp2 : SB V w1.heap.size 31 #[.int .i64 c, .int .i64 at_] := by rw [← hV]; exact SB.new w1 _ _
  have HP2 := Hid.intro hp2
  have p0 : V.cell? ⟨w1.heap.size, 0, none⟩ = some (.int .i64 c) := hp2.cell 0
  have p1 : V.cell? ⟨w1.heap.size, 1, none⟩ = some (.int .i64 at_) := hp2.cell 1
  have HCH := Hid.intro hck
  have HV := Hid.intro hV
  rw [← hV] at p0 p1
  clear hck hb1 hV hb2 hp2
  by_cases hc : c = 0
  · subst hc
    obtain rfl := Chk_at HCH.out
    obtain ⟨m, rfl, hm1, hm2, hl45, hgood, hec⟩ := Chk_good HCH.out
    have HCF := Hid.intro (peb_count m hm2 a cap es V (HE.out.below HB2.out) hgood hl45)
    clear hgood hec
    go_wp2_with fail
    rw [HV.out]
    go_fit HCF.out
    rintro e w2 ⟨l, rfl, hrun, hbw⟩
    obtain ⟨x, hx⟩ : ∃ x, l.countP id = x := ⟨_, rfl⟩
    obtain ⟨y, hy⟩ : ∃ y, (if m = 1 then 0 else 2 * m - 3) = y := ⟨_, rfl⟩
    have HST := Hid.intro (peb_stiff m hm1 hm2 w2)
    rw [hy] at HST
    rw [hx]
    have HRUN := Hid.intro hrun
    have HB3 := Hid.intro (HB2.out.trans (hbw.mono HB2.out.size))
    have hsw := HS2.out.below hbw HS2.out.lt
    have HSW := Hid.intro hsw
    have z0 : w2.cell? ⟨s, 0, none⟩ = some (.int .i64 0) := hsw.cell 0
    have z1 : w2.cell? ⟨s, 1, none⟩ = some (.int .i64 0) := hsw.cell 1
    have f0 : w2.frozen? ⟨s, 0, none⟩ = false := hsw.free 0
    have f1 : w2.frozen? ⟨s, 1, none⟩ = false := hsw.free 1
    have HX := Hid.intro hx
    have HY := Hid.intro hy
    clear hrun hbw hsw hx hy p0 p1
    go_wp2_with fail
    go_fit HST.out
    rintro e w3 ⟨rfl, rfl⟩
    go_wp2
    refine bodyPost_ret (results_two_cell rfl _ _ s 31 #[.int .i64 0, .int .i64 0] (0, 0) _ rfl ((HSW.out.set 0 _).set 1 _) Try.underlying31 rfl faultInfo) rfl ?_
    refine ⟨0, 0, _, rfl, HCH.out, by refine Below.setCell (Below.setCell HB3.out ?_ _) ?_ _ <;> (rw [HS.out]; exact Nat.le_refl _), Or.inr ⟨rfl, l, ?_, ?_⟩⟩
    · rw [Int.toNat_natCast]; exact HRUN.out
    · rw [Int.toNat_natCast, HX.out, HY.out]
      by_cases h : x = y
      · simp [h]
      · simp [h]
        omega
  · skip
    have z0 : V.cell? ⟨s, 0, none⟩ = some (.int .i64 0) := HS2.out.cell 0
    have z1 : V.cell? ⟨s, 1, none⟩ = some (.int .i64 0) := HS2.out.cell 1
    have f0 : V.frozen? ⟨s, 0, none⟩ = false := HS2.out.free 0
    have f1 : V.frozen? ⟨s, 1, none⟩ = false := HS2.out.free 1
    have e0 : (c != 0) = true := by simpa using hc
    go_wp2_with fail
    rw [HV.out]
    clear p0 p1
    have y0 : V.cell? ⟨w1.heap.size, 0, none⟩ = some (.int .i64 c) := HP2.out.cell 0
    have y1 : V.cell? ⟨w1.heap.size, 1, none⟩ = some (.int .i64 at_) := HP2.out.cell 1
    go_region
    go_wp2
    refine bodyPost_ret (results_two_cell rfl _ _ s 31 #[.int .i64 c, .int .i64 at_] (0, 0) _ rfl ((HS2.out.set 0 _).set 1 _) Try.underlying31 rfl faultInfo) rfl ?_
    exact ⟨c, at_, false, rfl, HCH.out, by refine Below.drew (Below.setCell (Below.setCell HB2.out ?_ _) ?_ _) <;> (rw [HS.out]; exact Nat.le_refl _), Or.inl ⟨hc, rfl⟩⟩
end Go.Proofs.Ytgnmjaponiclhaa
