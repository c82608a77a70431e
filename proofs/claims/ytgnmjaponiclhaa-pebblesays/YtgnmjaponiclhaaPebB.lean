/- rafterref: FreeOf, walked. -/
import Derived.Test.YtgnmjaponiclhaaPebA
import Derived.Test.YtgnmjaponiclhaaPebJ
namespace Go.Proofs.Ytgnmjaponiclhaa
open Go.RowKit Go.MapKept
set_option linter.unusedVariables false
set_option linter.unusedSimpArgs false
/-- what is told so far, in a list of its full length -/
def outArr (L : Nat) (l : List Bool) : Array Value := lsArr L (fun i => .bool (l[i]?.getD false))
theorem out_nil (L : Nat) : lsArr L (fun _ => .bool false) = outArr L [] := lsArr_congr (fun i => by simp)
theorem out_false (L : Nat) (l : List Bool) : outArr L (l ++ [false]) = outArr L l := lsArr_congr (fun i => by
  by_cases h : i < l.length
  · rw [List.getElem?_append_left h]
  · rw [List.getElem?_append_right (by omega), List.getElem?_eq_none (by omega : l.length ≤ i)]
    cases i - l.length <;> simp)
theorem out_true (L : Nat) (l : List Bool) : (outArr L l).setIfInBounds l.length (.bool true) = outArr L (l ++ [true]) := by
  unfold outArr
  rw [lsArr_set]
  apply lsArr_congr
  intro i
  unfold putP
  by_cases h : i = l.length
  · subst h
    simp
  · rw [if_neg h]
    by_cases h2 : i < l.length
    · rw [List.getElem?_append_left h2]
    · dsimp only
      rw [List.getElem?_eq_none (by omega : l.length ≤ i), List.getElem?_eq_none (by simp; omega)]
theorem run_mkB (n : Nat) (hn : n ≤ 45) (w : World) :
    (Instr.makeSlice 33 (.int .i64 (n : Int)) (.int .i64 (n : Int))).run Try.prog w = .ok (.slice (some ⟨w.heap.size, 0, none⟩) n n) (w.alloc (.cells (outArr n []) 4)) := by
  obtain ⟨i0, hi, hz0, hz1, hz2⟩ := info_parts infoBool
  have := run_makeSlice (P := Try.prog) w 33 4 i0 (.bool false) Try.underlying33 hi hz0 .i64 .i64 (n : Int) (n : Int) (by omega) (by omega) (by rw [hz1]; simp; omega) (by rw [hz2]; omega) (by omega)
  rw [this, hz1]
  simp only [Int.toNat_natCast]
  rw [made_one (.bool false) rfl, out_nil]
theorem RunW.snoc {n : Nat} {wo : Int} {es : List (Int × Int)} {k : Nat} {f : Int × Int} {l : List Bool} {b : Bool} (hf : es[k]? = some f) (hl : l.length = k) (h : RunW n wo (revE es k) l.reverse) (hlen : k < es.length)
    (h1 : (k : Int) = wo → b = false) (h2 : (k : Int) ≠ wo → (b = true ↔ Sparse n ((keptF (es.take k) l ++ [f]).map toE))) : RunW n wo (revE es (k + 1)) (l ++ [b]).reverse := by
  rw [revE_succ hf, show (l ++ [b]).reverse = b :: l.reverse by simp]
  have hk : (revE es k).length = k := by unfold revE; rw [List.length_reverse, List.length_map, List.length_take]; omega
  refine ⟨h, ?_⟩
  rw [hk]
  refine ⟨h1, fun hne => (h2 hne).trans ?_⟩
  have e : keptR (revE es k) l.reverse = ((keptF (es.take k) l).map toE).reverse := kept_both _ _ (by rw [List.length_take]; omega)
  rw [e]
  have hp : ((keptF (es.take k) l ++ [f]).map toE).Perm (toE f :: ((keptF (es.take k) l).map toE).reverse) := by
    rw [List.map_append]
    exact (List.perm_append_comm).trans (List.Perm.cons _ (List.reverse_perm _).symm)
  exact ⟨fun h => h.perm hp, fun h => h.perm hp.symm⟩
/-- kept[:len(kept):len(kept)] with one more -/
theorem app_next {w : World} {B0 : Nat} (hB : B0 ≤ w.heap.size) (q : Nat) (xs : List (Int × Int)) (f : Int × Int) (A : Addr) (hx : ESrc w ⟨q, 0, none⟩ xs) (hy : ESrc w A [f]) (hl : xs.length ≤ 45) :
    ∃ v' w', appRun Try.prog 27 27 (.slice (some ⟨q, 0, none⟩) xs.length xs.length) (.slice (some A) 1 1) w = .ok v' w' ∧ EOwn w' B0 v' (xs ++ [f]) ∧ Below w.heap.size w w' := app_grow hB _ A xs [f] xs.length 1 1 rfl rfl (by decide) hx hy (by omega)
theorem app_first {w : World} {B0 : Nat} (hB : B0 ≤ w.heap.size) (f : Int × Int) (A : Addr) (hy : ESrc w A [f]) :
    ∃ v' w', appRun Try.prog 27 27 (.slice none 0 0) (.slice (some A) 1 1) w = .ok v' w' ∧ EOwn w' B0 v' [f] ∧ Below w.heap.size w w' := by
  obtain ⟨v', w', h1, h2, h3, _⟩ := (EOwn.nil w B0).app A [f] hy (by simp) hB 1
  exact ⟨v', w', h1, h2, ⟨h3.os, h3.tape, h3.output, h3.size, fun b hb => h3.block b hb (by simp [Value.ownBlock])⟩⟩
set_option maxRecDepth 100000 in
set_option maxHeartbeats 4000000 in
theorem ref_FreeOf (n : Nat) (hn1 : 1 ≤ n) (hn : n ≤ 10) (a : Option Addr) (cap : Nat) (es : List (Int × Int)) (wo : Int) (w : World) (he : ERow w a cap es) (hg : Good n es) (hlen : es.length ≤ 45) :
    Calls Try.prog 16 #[.int .i64 (n : Int), .slice a es.length cap, .int .i64 wo] w fun e w' => ∃ v l, e = .returned v ∧ BLst w' v l ∧ RunW n wo (es.map toE).reverse l.reverse ∧ Below w.heap.size w w' := by
  have HE := Hid.intro he
  have HG := Hid.intro hg
  have HL := Hid.intro hlen
  have hmk := run_mkB es.length hlen w
  obtain ⟨W, hW⟩ : ∃ W, w.alloc (.cells (outArr es.length []) 4) = W := ⟨_, rfl⟩
  obtain ⟨g, hgs⟩ : ∃ g, g = w.heap.size := ⟨_, rfl⟩
  have HB0 : Hid (Below w.heap.size w W) := Hid.intro (by rw [← hW]; exact (Below.refl _ _).alloc (Nat.le_refl _) _)
  have HS0 : Hid (SB W g 4 (outArr es.length [])) := Hid.intro (by rw [← hW, hgs]; exact SB.new w _ _)
  have HWS : Hid (W.heap.size = g + 1) := Hid.intro (by rw [← hW, World.size_alloc, hgs])
  rw [hW, ← hgs] at hmk
  have HGS := Hid.intro hgs
  clear he hg hgs hW
  go_enter Try.func16, Try.ntmps16
  go_wp2_with fail
  clear hmk
  go_loopw [17, 8] (fun iv kv wr => ∃ (k : Nat) (l : List Bool), k ≤ es.length ∧ iv = .int .i64 k ∧ l.length = k ∧ EOwn wr (g + 1) kv (keptF (es.take k) l) ∧ SB wr g 4 (outArr es.length l) ∧ RunW n wo (revE es k) l.reverse ∧ Below w.heap.size w wr ∧ g + 1 ≤ wr.heap.size) (fun iv _ _ => es.length - (intOf iv).toNat)
  case atStart => exact ⟨0, [], by omega, rfl, rfl, EOwn.nil _ _, HS0.out, trivial, HB0.out, by rw [HWS.out]; exact Nat.le_refl _⟩
  case round =>
    obtain ⟨k, l, hk, rfl, hl, hown, hsb, hrun, hbw, hsz⟩ := hrel
    have HLK := Hid.intro hl
    have HO := Hid.intro hown
    have HSW := Hid.intro hsb
    have HR := Hid.intro hrun
    have HBW := Hid.intro hbw
    clear hl hown hsb hrun hbw
    by_cases hlt : k < es.length
    · obtain ⟨f, hf⟩ : ∃ f, es[k]? = some f := ⟨es[k], List.getElem?_eq_getElem hlt⟩
      obtain ⟨fb, off, rfl, hfb, d0, d1⟩ := (HE.out.below HBW.out).cell k f hf
      have HFK := Hid.intro hf
      obtain ⟨V1, hV1⟩ : ∃ V1, wr.alloc (.cells #[.int .i64 f.1, .int .i64 f.2] 29) = V1 := ⟨_, rfl⟩
      have hb1 : Below wr.heap.size wr V1 := by rw [← hV1]; exact (Below.refl _ _).alloc (Nat.le_refl _) _
      have HBV1 := Hid.intro (HBW.out.trans (hb1.mono HBW.out.size))
      have HS1 := Hid.intro (HSW.out.below hb1 HSW.out.lt)
      have HO1 := Hid.intro (HO.out.below hb1)
      have HP1 : Hid (SB V1 wr.heap.size 29 #[.int .i64 f.1, .int .i64 f.2]) := Hid.intro (by rw [← hV1]; exact SB.new wr _ _)
      have HZ1 : Hid (V1.heap.size = wr.heap.size + 1) := Hid.intro (by rw [← hV1, World.size_alloc])
      have HV1 := Hid.intro hV1
      have q1 : ((k : Int) < (es.length : Int)) := by omega
      have HKF := Hid.intro (fun b => keptF_snoc (es.take k) l f b (by rw [List.length_take, HLK.out]; omega))
      have HTK : Hid (es.take (k + 1) = es.take k ++ [f]) := Hid.intro (by rw [List.take_add_one, hf]; rfl)
      clear hf hV1 hb1
      by_cases g1 : (k : Int) = wo
      · have e1 : ((k : Int) == wo) = true := by simpa using g1
        have HRX : Hid (RunW n wo (revE es (k + 1)) (l ++ [false]).reverse) := Hid.intro (RunW.snoc HFK.out HLK.out HR.out hlt (fun _ => rfl) (fun h => absurd g1 h))
        clear g1
        go_wp2
        go_roundw
        case rel =>
          rw [HV1.out]
          refine ⟨k + 1, l ++ [false], by omega, by go_num, by rw [List.length_append, HLK.out]; rfl, ?_, by rw [out_false]; exact HS1.out, HRX.out, HBV1.out, by rw [HZ1.out]; omega⟩
          rw [HTK.out, HKF.out]
          exact HO1.out
        case measure => simp [intOf]; omega
      · have e1 : ((k : Int) == wo) = false := by simpa using g1
        have HNE := Hid.intro g1
        clear g1
        obtain ⟨E, hE⟩ : ∃ E, V1.drew = E := ⟨_, rfl⟩
        obtain ⟨X, hX⟩ : ∃ X, E.alloc (.cells #[.int .i64 f.1, .int .i64 f.2] 29) = X := ⟨_, rfl⟩
        have hbX : Below V1.heap.size V1 X := by rw [← hX, ← hE]; exact ((Below.refl _ _).drew).alloc (Nat.le_refl _) _
        have hy : ESrc X ⟨E.heap.size, 0, none⟩ [f] := by rw [← hX]; exact src_new E _ [f] rfl (Below.refl _ _)
        have hgX : g + 1 ≤ X.heap.size := by
          have h1 := hbX.size
          have h2 := HZ1.out
          omega
        rcases HO1.out.2 with ⟨rfl, hz⟩ | ⟨q, c, cur, rfl, hq, hcur, hc, hc2, hc3, hc4⟩
        · have hnil := List.eq_nil_of_length_eq_zero hz
          obtain ⟨v8, w8, happ, ho8', hb8⟩ := app_first hgX f _ hy
          have ho8 : EOwn w8 (g + 1) v8 (keptF (es.take k) l ++ [f]) := by rw [hnil]; exact ho8'
          clear ho8' hnil hz hgX
          obtain ⟨ak, ck, rfl, hrow, _⟩ := ho8.row
          obtain ⟨m8, hm8⟩ : ∃ m8, (keptF (es.take k) l ++ [f]).length = m8 := ⟨_, rfl⟩
          have hb9 := hbX.trans (hb8.mono hbX.size)
          have HC8 : Hid (w8.cell? ⟨wr.heap.size, 0, none⟩ = some (.int .i64 f.1) ∧ w8.cell? ⟨wr.heap.size, 1, none⟩ = some (.int .i64 f.2)) := Hid.intro ⟨(HP1.out.below hb9 HP1.out.lt).cell 0, (HP1.out.below hb9 HP1.out.lt).cell 1⟩
          have HS8 := Hid.intro (HS1.out.below hb9 HS1.out.lt)
          have HB8 := Hid.intro (HBV1.out.trans (hb9.mono HBV1.out.size))
          have HZ8 : Hid (g + 1 ≤ w8.heap.size) := Hid.intro (by have := hb9.size; have := HZ1.out; omega)
          have HOK := Hid.intro (HO1.out.below hb9)
          have HO8 := Hid.intro ho8
          have hkl : (keptF (es.take k) l ++ [f]).length ≤ 45 := by
            have h1 := (keptF_sub (es.take k) l).1
            rw [List.length_take] at h1
            rw [List.length_append]
            have : [f].length = 1 := rfl
            omega
          have HTG := Hid.intro (ref_Together n hn1 hn ak ck (keptF (es.take k) l ++ [f]) w8 hrow (fun e he => by
            rcases List.mem_append.1 he with h | h
            · exact HG.out e (List.mem_of_mem_take ((keptF_sub (es.take k) l).2 e h))
            · rw [List.mem_singleton.1 h]
              exact HG.out f (List.mem_of_getElem? HFK.out)) hkl)
          have HCX : Hid (X.cell? ⟨wr.heap.size, 0, none⟩ = some (.int .i64 f.1) ∧ X.cell? ⟨wr.heap.size, 1, none⟩ = some (.int .i64 f.2)) := Hid.intro ⟨(HP1.out.below hbX HP1.out.lt).cell 0, (HP1.out.below hbX HP1.out.lt).cell 1⟩
          have HEX := Hid.intro hE
          rw [← hX] at happ HCX
          rw [hm8] at happ HTG HO8
          clear hm8 hbX hX hy hb8 ho8 hrow hb9 hE hkl
          go_wp2_with fail
          rw [HV1.out]
          refine wp_region_held_drew (S := (fun v => v.cell? ⟨wr.heap.size, 0, none⟩ = some (.int .i64 f.1) ∧ v.cell? ⟨wr.heap.size, 1, none⟩ = some (.int .i64 f.2))) (by kernel_rfl) ⟨HP1.out.cell 0, HP1.out.cell 1⟩ (fun hHeld => ?_)
          rw [HEX.out] at hHeld ⊢
          refine wpAnyH_take (i := 0) (v := ?_) rfl (by kernel_rfl) (by kernel_rfl) (by kernel_rfl) (fun _ _ _ h => h) (Or.inl ⟨by rfl, ?_⟩) (by assumption) ?_
          rotate_left
          · intro w hSw
            (try dsimp only at hSw)
            first | (go_simp; done) | (go_simp; with_reducible rfl)
          (try simp only [Act.put, List.setIfInBounds_toArray, List.set_cons_zero, List.set_cons_succ])
          refine wpAnyH_take (i := 1) (v := ?_) rfl (by kernel_rfl) (by kernel_rfl) (by kernel_rfl) (fun _ _ _ h => h) (Or.inl ⟨by rfl, ?_⟩) (by assumption) ?_
          rotate_left
          · intro w hSw
            (try dsimp only at hSw)
            first | (go_simp; done) | (go_simp; with_reducible rfl)
          (try simp only [Act.put, List.setIfInBounds_toArray, List.set_cons_zero, List.set_cons_succ])
          refine wpAnyH_take (i := 2) (v := ?_) rfl (by kernel_rfl) (by kernel_rfl) (by kernel_rfl) (fun _ _ _ h => h) (Or.inl ⟨by rfl, ?_⟩) (by assumption) ?_
          rotate_left
          · intro w hSw
            (try dsimp only at hSw)
            first | (go_simp; done) | (go_simp; with_reducible rfl)
          (try simp only [Act.put, List.setIfInBounds_toArray, List.set_cons_zero, List.set_cons_succ])
          refine wpAnyH_take (i := 3) (v := ?_) rfl (by kernel_rfl) (by kernel_rfl) (by kernel_rfl) (fun _ _ _ h => h) (Or.inl ⟨by rfl, ?_⟩) (by assumption) ?_
          rotate_left
          · intro w hSw
            (try dsimp only at hSw)
            first | (go_simp; done) | (go_simp; with_reducible rfl)
          (try simp only [Act.put, List.setIfInBounds_toArray, List.set_cons_zero, List.set_cons_succ])
          refine wpAnyH_take (i := 4) (v := ?_) rfl (by kernel_rfl) (by kernel_rfl) (by kernel_rfl) (fun _ _ _ h => h) (Or.inl ⟨by rfl, ?_⟩) (by assumption) ?_
          rotate_left
          · intro w hSw
            (try dsimp only at hSw)
            first | (go_simp; done) | (go_simp; with_reducible rfl)
          (try simp only [Act.put, List.setIfInBounds_toArray, List.set_cons_zero, List.set_cons_succ])
          refine wpAnyH_take (i := 5) (v := ?_) rfl (by kernel_rfl) (by kernel_rfl) (by kernel_rfl) (fun _ _ _ h => h) (Or.inl ⟨by rfl, ?_⟩) (by assumption) ?_
          rotate_left
          · intro w hSw
            (try dsimp only at hSw)
            first | (go_simp; done) | (go_simp; with_reducible rfl)
          (try simp only [Act.put, List.setIfInBounds_toArray, List.set_cons_zero, List.set_cons_succ])
          refine wpAnyH_take (i := 6) (v := ?_) rfl (by kernel_rfl) (by kernel_rfl) (by kernel_rfl) (fun _ _ _ h => h) (Or.inl ⟨by rfl, ?_⟩) (by assumption) ?_
          rotate_left
          · intro w hSw
            (try dsimp only at hSw)
            first | (go_simp; done) | (go_simp; with_reducible rfl)
          (try simp only [Act.put, List.setIfInBounds_toArray, List.set_cons_zero, List.set_cons_succ])
          refine wpAnyH_ready (rs := [7]) (by kernel_rfl) (by simp) ?_
          refine AllReadyH.cons rfl (fun K hK => ?_) AllReadyH.nil
          go_simp
          (try dsimp only)
          refine hK.out _ _ (HCX.out) (fun hHeld => ?_)
          clear hK K
          (try simp only [Act.put, List.setIfInBounds_toArray, List.set_cons_zero, List.set_cons_succ])
          refine wpAnyH_ready (rs := [8]) (by kernel_rfl) (by simp) ?_
          refine AllReadyH.cons rfl (fun K hK => ?_) AllReadyH.nil
          refine step_app (t := 27) rfl (.tmp 30) (.tmp 32) rfl (vs := .slice none 0 0) (vx := .slice (some ⟨E.heap.size, 0, none⟩) 1 1) (by simp [Act.eval]) (by simp [Act.eval]) happ ?_
          (try dsimp only)
          refine hK.out _ _ (HC8.out) (fun hHeld => ?_)
          clear hK K
          (try simp only [Act.put, List.setIfInBounds_toArray, List.set_cons_zero, List.set_cons_succ])
          refine wpAnyH_ready (rs := [9]) (by kernel_rfl) (by simp) ?_
          refine AllReadyH.cons rfl (fun K hK => ?_) AllReadyH.nil
          go_simp
          (try dsimp only)
          refine hK.out _ _ (HC8.out) (fun hHeld => ?_)
          clear hK K
          (try simp only [Act.put, List.setIfInBounds_toArray, List.set_cons_zero, List.set_cons_succ])
          refine wpAnyH_done (by kernel_rfl) ?_ _
          go_wp2_with fail
          go_fit HTG.out
          rintro e w9 ⟨b, rfl, hb, hb9⟩
          have HB9 := Hid.intro (HB8.out.trans (hb9.mono HB8.out.size))
          have HS9 := Hid.intro (HS8.out.below hb9 HS8.out.lt)
          have HO9 := Hid.intro (HO8.out.below hb9)
          have HOK9 := Hid.intro (HOK.out.below hb9)
          have HZ9 : Hid (g + 1 ≤ w9.heap.size) := Hid.intro (Nat.le_trans HZ8.out hb9.size)
          have HBB := Hid.intro hb
          have hl45 : es.length ≤ 45 := HL.out
          clear hb hb9
          cases b with
          | true =>
            have HRX : Hid (RunW n wo (revE es (k + 1)) (l ++ [false]).reverse) := Hid.intro (RunW.snoc HFK.out HLK.out HR.out hlt (fun _ => rfl) (fun _ => ⟨(fun h => by cases h), fun h => by have := HBB.out.2 h; cases this⟩))
            go_wp2
            go_roundw
            case rel =>
              refine ⟨k + 1, l ++ [false], by omega, by go_num, by rw [List.length_append, HLK.out]; rfl, ?_, by rw [out_false]; exact HS9.out, HRX.out, HB9.out, HZ9.out⟩
              rw [HTK.out, HKF.out]
              exact HOK9.out
            case measure => simp [intOf]; omega
          | false =>
            have HRX : Hid (RunW n wo (revE es (k + 1)) (l ++ [true]).reverse) := Hid.intro (RunW.snoc HFK.out HLK.out HR.out hlt (fun h => absurd h HNE.out) (fun _ => ⟨fun _ => HBB.out.1 rfl, fun _ => rfl⟩))
            have z0 : w9.cell? ⟨g, k, none⟩ = some (.bool (l[k]?.getD false)) := (HS9.out.cell k).trans (lsArr_get _ hlt)
            have f0 : w9.frozen? ⟨g, k, none⟩ = false := HS9.out.free k
            go_wp2
            go_roundw
            case rel =>
              refine ⟨k + 1, l ++ [true], by omega, by go_num, by rw [List.length_append, HLK.out]; rfl, ?_, ?_, HRX.out, HB9.out.setCell (by rw [HGS.out]; exact Nat.le_refl _) _, by simpa [World.setCell] using HZ9.out⟩
              · rw [HTK.out, HKF.out]
                exact HO9.out.keep (fun b hb => Below.heap_setCell _ _ _ _ (by have := (HO9.out.block hb).1; show b ≠ g; omega))
              · have := HS9.out.set l.length (.bool true)
                rw [out_true, HLK.out] at this
                exact this
            case measure => simp [intOf]; omega
        · have hkl : (keptF (es.take k) l).length ≤ 45 := by
            have h1 := (keptF_sub (es.take k) l).1
            rw [List.length_take] at h1
            omega
          obtain ⟨v8, w8, happ, ho8, hb8⟩ := app_next hgX q (keptF (es.take k) l) f _ (EOwn.cells (HO1.out.below hbX)) hy hkl
          obtain ⟨m, hm⟩ : ∃ m, (keptF (es.take k) l).length = m := ⟨_, rfl⟩
          rw [hm] at happ hc hkl HO1 ⊢
          have HM := Hid.intro hm
          clear hgX hq hcur hc2 hc3 hc4 hm
          obtain ⟨ak, ck, rfl, hrow, _⟩ := ho8.row
          obtain ⟨m8, hm8⟩ : ∃ m8, (keptF (es.take k) l ++ [f]).length = m8 := ⟨_, rfl⟩
          have hb9 := hbX.trans (hb8.mono hbX.size)
          have HC8 : Hid (w8.cell? ⟨wr.heap.size, 0, none⟩ = some (.int .i64 f.1) ∧ w8.cell? ⟨wr.heap.size, 1, none⟩ = some (.int .i64 f.2)) := Hid.intro ⟨(HP1.out.below hb9 HP1.out.lt).cell 0, (HP1.out.below hb9 HP1.out.lt).cell 1⟩
          have HS8 := Hid.intro (HS1.out.below hb9 HS1.out.lt)
          have HB8 := Hid.intro (HBV1.out.trans (hb9.mono HBV1.out.size))
          have HZ8 : Hid (g + 1 ≤ w8.heap.size) := Hid.intro (by have := hb9.size; have := HZ1.out; omega)
          have HOK := Hid.intro (HO1.out.below hb9)
          have HO8 := Hid.intro ho8
          have hkl : (keptF (es.take k) l ++ [f]).length ≤ 45 := by
            have h1 := (keptF_sub (es.take k) l).1
            rw [List.length_take] at h1
            rw [List.length_append]
            have : [f].length = 1 := rfl
            omega
          have HTG := Hid.intro (ref_Together n hn1 hn ak ck (keptF (es.take k) l ++ [f]) w8 hrow (fun e he => by
            rcases List.mem_append.1 he with h | h
            · exact HG.out e (List.mem_of_mem_take ((keptF_sub (es.take k) l).2 e h))
            · rw [List.mem_singleton.1 h]
              exact HG.out f (List.mem_of_getElem? HFK.out)) hkl)
          have HCX : Hid (X.cell? ⟨wr.heap.size, 0, none⟩ = some (.int .i64 f.1) ∧ X.cell? ⟨wr.heap.size, 1, none⟩ = some (.int .i64 f.2)) := Hid.intro ⟨(HP1.out.below hbX HP1.out.lt).cell 0, (HP1.out.below hbX HP1.out.lt).cell 1⟩
          have HEX := Hid.intro hE
          rw [← hX] at happ HCX
          rw [hm8] at happ HTG HO8
          clear hm8 hbX hX hy hb8 ho8 hrow hb9 hE hkl
          go_wp2_with fail
          rw [HV1.out]
          refine wp_region_held_drew (S := (fun v => v.cell? ⟨wr.heap.size, 0, none⟩ = some (.int .i64 f.1) ∧ v.cell? ⟨wr.heap.size, 1, none⟩ = some (.int .i64 f.2))) (by kernel_rfl) ⟨HP1.out.cell 0, HP1.out.cell 1⟩ (fun hHeld => ?_)
          rw [HEX.out] at hHeld ⊢
          refine wpAnyH_take (i := 0) (v := ?_) rfl (by kernel_rfl) (by kernel_rfl) (by kernel_rfl) (fun _ _ _ h => h) (Or.inl ⟨by rfl, ?_⟩) (by assumption) ?_
          rotate_left
          · intro w hSw
            (try dsimp only at hSw)
            first | (go_simp; done) | (go_simp; with_reducible rfl)
          (try simp only [Act.put, List.setIfInBounds_toArray, List.set_cons_zero, List.set_cons_succ])
          refine wpAnyH_take (i := 1) (v := ?_) rfl (by kernel_rfl) (by kernel_rfl) (by kernel_rfl) (fun _ _ _ h => h) (Or.inl ⟨by rfl, ?_⟩) (by assumption) ?_
          rotate_left
          · intro w hSw
            (try dsimp only at hSw)
            first | (go_simp; done) | (go_simp; with_reducible rfl)
          (try simp only [Act.put, List.setIfInBounds_toArray, List.set_cons_zero, List.set_cons_succ])
          refine wpAnyH_take (i := 2) (v := ?_) rfl (by kernel_rfl) (by kernel_rfl) (by kernel_rfl) (fun _ _ _ h => h) (Or.inl ⟨by rfl, ?_⟩) (by assumption) ?_
          rotate_left
          · intro w hSw
            (try dsimp only at hSw)
            first | (go_simp; done) | (go_simp; with_reducible rfl)
          (try simp only [Act.put, List.setIfInBounds_toArray, List.set_cons_zero, List.set_cons_succ])
          refine wpAnyH_take (i := 3) (v := ?_) rfl (by kernel_rfl) (by kernel_rfl) (by kernel_rfl) (fun _ _ _ h => h) (Or.inl ⟨by rfl, ?_⟩) (by assumption) ?_
          rotate_left
          · intro w hSw
            (try dsimp only at hSw)
            first | (go_simp; done) | (go_simp; with_reducible rfl)
          (try simp only [Act.put, List.setIfInBounds_toArray, List.set_cons_zero, List.set_cons_succ])
          refine wpAnyH_take (i := 4) (v := ?_) rfl (by kernel_rfl) (by kernel_rfl) (by kernel_rfl) (fun _ _ _ h => h) (Or.inl ⟨by rfl, ?_⟩) (by assumption) ?_
          rotate_left
          · intro w hSw
            (try dsimp only at hSw)
            first | (go_simp; done) | (go_simp; with_reducible rfl)
          (try simp only [Act.put, List.setIfInBounds_toArray, List.set_cons_zero, List.set_cons_succ])
          refine wpAnyH_take (i := 5) (v := ?_) rfl (by kernel_rfl) (by kernel_rfl) (by kernel_rfl) (fun _ _ _ h => h) (Or.inl ⟨by rfl, ?_⟩) (by assumption) ?_
          rotate_left
          · intro w hSw
            (try dsimp only at hSw)
            first | (go_simp; done) | (go_simp; with_reducible rfl)
          (try simp only [Act.put, List.setIfInBounds_toArray, List.set_cons_zero, List.set_cons_succ])
          refine wpAnyH_take (i := 6) (v := ?_) rfl (by kernel_rfl) (by kernel_rfl) (by kernel_rfl) (fun _ _ _ h => h) (Or.inl ⟨by rfl, ?_⟩) (by assumption) ?_
          rotate_left
          · intro w hSw
            (try dsimp only at hSw)
            first | (go_simp; done) | (go_simp; with_reducible rfl)
          (try simp only [Act.put, List.setIfInBounds_toArray, List.set_cons_zero, List.set_cons_succ])
          refine wpAnyH_ready (rs := [7]) (by kernel_rfl) (by simp) ?_
          refine AllReadyH.cons rfl (fun K hK => ?_) AllReadyH.nil
          go_simp
          (try dsimp only)
          refine hK.out _ _ (HCX.out) (fun hHeld => ?_)
          clear hK K
          (try simp only [Act.put, List.setIfInBounds_toArray, List.set_cons_zero, List.set_cons_succ])
          refine wpAnyH_ready (rs := [8]) (by kernel_rfl) (by simp) ?_
          refine AllReadyH.cons rfl (fun K hK => ?_) AllReadyH.nil
          refine step_app (t := 27) rfl (.tmp 30) (.tmp 32) rfl (vs := .slice (some ⟨q, 0, none⟩) m m) (vx := .slice (some ⟨E.heap.size, 0, none⟩) 1 1) (by simp [Act.eval]) (by simp [Act.eval]) happ ?_
          (try dsimp only)
          refine hK.out _ _ (HC8.out) (fun hHeld => ?_)
          clear hK K
          (try simp only [Act.put, List.setIfInBounds_toArray, List.set_cons_zero, List.set_cons_succ])
          refine wpAnyH_ready (rs := [9]) (by kernel_rfl) (by simp) ?_
          refine AllReadyH.cons rfl (fun K hK => ?_) AllReadyH.nil
          go_simp
          (try dsimp only)
          refine hK.out _ _ (HC8.out) (fun hHeld => ?_)
          clear hK K
          (try simp only [Act.put, List.setIfInBounds_toArray, List.set_cons_zero, List.set_cons_succ])
          refine wpAnyH_done (by kernel_rfl) ?_ _
          go_wp2_with fail
          go_fit HTG.out
          rintro e w9 ⟨b, rfl, hb, hb9⟩
          have HB9 := Hid.intro (HB8.out.trans (hb9.mono HB8.out.size))
          have HS9 := Hid.intro (HS8.out.below hb9 HS8.out.lt)
          have HO9 := Hid.intro (HO8.out.below hb9)
          have HOK9 := Hid.intro (HOK.out.below hb9)
          have HZ9 : Hid (g + 1 ≤ w9.heap.size) := Hid.intro (Nat.le_trans HZ8.out hb9.size)
          have HBB := Hid.intro hb
          have hl45 : es.length ≤ 45 := HL.out
          clear hb hb9
          cases b with
          | true =>
            have HRX : Hid (RunW n wo (revE es (k + 1)) (l ++ [false]).reverse) := Hid.intro (RunW.snoc HFK.out HLK.out HR.out hlt (fun _ => rfl) (fun _ => ⟨(fun h => by cases h), fun h => by have := HBB.out.2 h; cases this⟩))
            go_wp2
            go_roundw
            case rel =>
              refine ⟨k + 1, l ++ [false], by omega, by go_num, by rw [List.length_append, HLK.out]; rfl, ?_, by rw [out_false]; exact HS9.out, HRX.out, HB9.out, HZ9.out⟩
              rw [HTK.out, HKF.out]
              exact HOK9.out
            case measure => simp [intOf]; omega
          | false =>
            have HRX : Hid (RunW n wo (revE es (k + 1)) (l ++ [true]).reverse) := Hid.intro (RunW.snoc HFK.out HLK.out HR.out hlt (fun h => absurd h HNE.out) (fun _ => ⟨fun _ => HBB.out.1 rfl, fun _ => rfl⟩))
            have z0 : w9.cell? ⟨g, k, none⟩ = some (.bool (l[k]?.getD false)) := (HS9.out.cell k).trans (lsArr_get _ hlt)
            have f0 : w9.frozen? ⟨g, k, none⟩ = false := HS9.out.free k
            go_wp2
            go_roundw
            case rel =>
              refine ⟨k + 1, l ++ [true], by omega, by go_num, by rw [List.length_append, HLK.out]; rfl, ?_, ?_, HRX.out, HB9.out.setCell (by rw [HGS.out]; exact Nat.le_refl _) _, by simpa [World.setCell] using HZ9.out⟩
              · rw [HTK.out, HKF.out]
                exact HO9.out.keep (fun b hb => Below.heap_setCell _ _ _ _ (by have := (HO9.out.block hb).1; show b ≠ g; omega))
              · have := HS9.out.set l.length (.bool true)
                rw [out_true, HLK.out] at this
                exact this
            case measure => simp [intOf]; omega
    · obtain rfl : k = es.length := by omega
      go_wp2
      go_ret
      exact ⟨.slice (some ⟨g, 0, none⟩) es.length es.length, l, rfl, ⟨some ⟨g, 0, none⟩, es.length, by rw [HLK.out], fun i q hi => ⟨g, 0, rfl, HSW.out.lt, by
        have h1 := (List.getElem?_eq_some_iff.1 hi).1
        rw [HLK.out] at h1
        rw [Nat.zero_add, HSW.out.cell i, outArr, lsArr_get _ h1, hi]
        rfl⟩⟩, by rw [← revE_all]; exact HR.out, HBW.out⟩
end Go.Proofs.Ytgnmjaponiclhaa
