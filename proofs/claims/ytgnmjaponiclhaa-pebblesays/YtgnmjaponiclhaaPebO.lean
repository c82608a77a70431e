/- slices.Grow and slices.Concat of edges; package pebble: Over. -/
import Derived.Test.YtgnmjaponiclhaaPebP
import Derived.Lib.SliceRun
import Derived.Lib.AppendZerosOnto
namespace Go.Proofs.Ytgnmjaponiclhaa
open Go.RowKit Go.MapKept
set_option linter.unusedVariables false
set_option linter.unusedSimpArgs false

/-- an append of noughts, as a walk meets it -/
def appZ (P : Program) (ty : TypeId) (vs vx : Value) (w : World) : Result Value := (Builtin.append_ #[27, 3] ty #[vs, vx]).run P w
@[go_sem ↓] theorem exec_appZ (ρ : Operand → Value) (dst : Option Tmp) (x y : Operand) (ty : TypeId) (pos : String) (after : Array Go.Edge) (guard : Option (Nat × Bool)) (w : World) :
    (execOp ρ { dst, op := .call { callee := .builtin .append, args := #[x, y], argTypes := #[27, 3] }, type := ty, pos, after, guard }).run Try.prog w = (appZ Try.prog ty (ρ x) (ρ y) w).andThen (fun v w' => .ok (.value v) w') := by
  have e : (#[x, y] : Array Operand).map ρ = #[ρ x, ρ y] := by simp
  rw [BigFrame.execOp_builtin, BigFrame.builtin_append, e, Sem.run_bind]
  unfold appZ
  simp only [Sem.run_pure]
set_option maxRecDepth 100000 in
theorem sl_Grow (n : Nat) (hn : n ≤ 45) (w : World) :
    Calls Try.prog 31 #[.slice none 0 0, .int .i64 (n : Int)] w fun e w' => ∃ v, e = .returned v ∧ EOwn w' w.heap.size v [] ∧ Below w.heap.size w w' := by
  by_cases h0 : n = 0
  · subst h0
    go_enter Try.func31, Try.ntmps31
    go_wp2
    go_ret
    exact ⟨_, rfl, EOwn.nil _ _, Below.refl _ _⟩
  · have q1 : (0 : Int) < (n : Int) := by omega
    obtain ⟨i0, hi, hz0, hz1, hz2⟩ := info_parts infoPairs
    have hr := Lib.run_append_grow_zeros (P := Try.prog) w 27 3 27 29 i0 (.agg #[.int .i64 0, .int .i64 0]) .i64 .i64 Try.underlying27 Try.underlying3 hi hz0 none 0 0 [] rfl n (by omega) (by rw [hz1]; decide) (by omega) (by omega) (by rw [hz2]; omega) (by rw [hz2]; exact growslice_fits (by omega) (by omega))
    obtain ⟨cap, hcap⟩ : ∃ cap, grownCap w (0 + n) 0 29 = cap := ⟨_, rfl⟩
    have hge : n ≤ cap := by rw [← hcap]; have := grownCap_ge w (0 + n) 0 29; omega
    have hle : cap ≤ maxLen := by rw [← hcap]; exact grownCap_le_maxLen _ _ _ _ (by unfold maxLen; omega)
    rw [hcap, Nat.zero_add] at hr
    obtain ⟨X, hX⟩ : ∃ X, w.drew.alloc (.cells (([] : List Value).toArray ++ Builtin.zeroCells (Value.agg #[.int .i64 0, .int .i64 0]).cells n ++ Builtin.zeroCells (Value.agg #[.int .i64 0, .int .i64 0]).cells (cap - n)) 29) = X := ⟨_, rfl⟩
    have happ : appZ Try.prog 27 (.slice none 0 0) (.int .i64 (n : Int)) w = .ok (.slice (some ⟨w.heap.size, 0, none⟩) n cap) X := by rw [← hX]; exact hr
    have HB : Hid (Below w.heap.size w X) := Hid.intro (by rw [← hX]; exact ((Below.refl _ _).drew).alloc (Nat.le_refl _) _)
    have HO : Hid (EOwn X w.heap.size (.slice (some ⟨w.heap.size, 0, none⟩) 0 cap) []) := Hid.intro ⟨rfl, .inr ⟨w.heap.size, cap, _, rfl, Nat.le_refl _, by rw [← hX]; exact SB.new w.drew _ _, Nat.zero_le _, hle, by
      have hc2 : (Value.agg #[.int .i64 0, .int .i64 0]).cells.size = 2 := rfl
      simp only [Array.size_append, List.size_toArray, size_zeroCells, hc2, List.length_nil]
      omega, rfl⟩⟩
    have hle' : cap ≤ 9223372036854775807 := by simpa [maxLen] using hle
    clear hr hcap hX hz0 hz1 hz2 hi hle
    go_enter Try.func31, Try.ntmps31
    go_wp2
    go_ret
    exact ⟨_, rfl, HO.out, HB.out⟩
/-- where edges lie, from an address on -/
def ESrc (w : World) (A : Addr) (xs : List (Int × Int)) : Prop := ∀ j u, (xs.flatMap eCells)[j]? = some u → w.cell? (A.add j) = some u
theorem add_block (A : Addr) (j : Nat) : (A.add j).block = A.block := by
  unfold Addr.add
  split <;> rfl
theorem ESrc.below {w w' : World} {A : Addr} {xs : List (Int × Int)} (h : ESrc w A xs) (hb : Below w.heap.size w w') : ESrc w' A xs := fun j u hj => by
  have := h j u hj
  rw [hb.cell (p := A.add j) (World.block_lt_of_cell? _ _ this)]
  exact this
set_option maxRecDepth 100000 in
set_option maxHeartbeats 2000000 in
theorem sl_Concat (g : Nat) (A B : Addr) (c d : Nat) (xs ys : List (Int × Int)) (w : World) (hs : SB w g 27 #[.slice (some A) xs.length c, .slice (some B) ys.length d]) (hA : ESrc w A xs) (hB : ESrc w B ys) (hl : xs.length + ys.length ≤ 45) :
    Calls Try.prog 27 #[.slice (some ⟨g, 0, none⟩) 2 2] w fun e w' => ∃ v, e = .returned v ∧ EOwn w' w.heap.size v (xs ++ ys) ∧ Below w.heap.size w w' := by
  have HS := Hid.intro hs
  have HA := Hid.intro hA
  have HBs := Hid.intro hB
  have k0 : w.cell? ⟨g, 0, none⟩ = some (.slice (some A) xs.length c) := hs.cell 0
  have k1 : w.cell? ⟨g, 1, none⟩ = some (.slice (some B) ys.length d) := hs.cell 1
  clear hs hA hB
  go_enter Try.func27, Try.ntmps27
  go_wp2_with fail
  go_loopw [11, 3] (fun iv sv wr => ∃ k x : Nat, iv = .int .i64 k ∧ sv = .int .i64 x ∧ ((k = 0 ∧ x = 0) ∨ (k = 1 ∧ x = xs.length) ∨ (k = 2 ∧ x = xs.length + ys.length)) ∧ wr = w) (fun iv _ _ => 2 - (intOf iv).toNat)
  case atStart => exact ⟨0, 0, rfl, rfl, Or.inl ⟨rfl, rfl⟩, rfl⟩
  case round =>
    obtain ⟨k, x, rfl, rfl, hkx, rfl⟩ := hrel
    rcases hkx with ⟨rfl, rfl⟩ | ⟨rfl, rfl⟩ | ⟨rfl, rfl⟩
    · go_wp2
      go_roundw
      case rel => exact ⟨1, xs.length, rfl, rfl, Or.inr (Or.inl ⟨rfl, rfl⟩), by first | rfl | trivial⟩
      case measure => decide
    · have q0 : ¬ ((xs.length : Int) + (ys.length : Int) < 0) := by omega
      go_wp2
      go_roundw
      case rel => exact ⟨2, xs.length + ys.length, rfl, by simp, Or.inr (Or.inr ⟨rfl, rfl⟩), by first | rfl | trivial⟩
      case measure => decide
    · obtain ⟨z, hz⟩ : ∃ z, xs.length + ys.length = z := ⟨_, rfl⟩
      rw [hz] at hl ⊢
      have HZ := Hid.intro hz
      have HGR := Hid.intro (sl_Grow z hl wr)
      clear hz
      go_wp2_with fail
      go_fit HGR.out
      rintro e w1 ⟨v1, rfl, ho1, hb1⟩
      have HO1 := Hid.intro ho1
      have HB1 := Hid.intro hb1
      clear ho1 hb1
      go_wp2_with fail
      obtain ⟨w0, hw0⟩ : ∃ w0, w0 = wr := ⟨wr, rfl⟩
      rw [← hw0] at HS HA HBs k0 k1 HGR HO1 HB1
      have HW0 := Hid.intro hw0
      clear hw0 k0 k1
      go_loopw [27, 6] (fun iv sv wi => ∃ (k : Nat) (zs : List (Int × Int)), iv = .int .i64 k ∧ ((k = 0 ∧ zs = []) ∨ (k = 1 ∧ zs = xs) ∨ (k = 2 ∧ zs = xs ++ ys)) ∧ EOwn wi w0.heap.size sv zs ∧ Below w0.heap.size w0 wi) (fun iv _ _ => 2 - (intOf iv).toNat)
      case atStart => exact ⟨0, [], rfl, Or.inl ⟨rfl, rfl⟩, HO1.out, HB1.out⟩
      case round =>
        obtain ⟨k, zs, rfl, hkz, ho, hb⟩ := hrel
        have hsl : SB wr g 27 #[.slice (some A) xs.length c, .slice (some B) ys.length d] := HS.out.below hb HS.out.lt
        have HBI := Hid.intro hb
        have grown : ∀ {v' : Value} {w' : World}, wr.grownBy w' u6.ownBlock → Below w0.heap.size w0 w' := fun {v' w'} hg => hb.trans ⟨hg.os, hg.tape, hg.output, hg.size, fun j hj => hg.block j (by have := hb.size; omega) (fun e => by have := (ho.block e.symm).1; omega)⟩
        rcases hkz with ⟨rfl, rfl⟩ | ⟨rfl, rfl⟩ | ⟨rfl, rfl⟩
        · obtain ⟨v2, w2, happ, ho2, hg2, _⟩ := ho.app A xs (HA.out.below hb) (by have := HZ.out; simp; omega) hb.size c
          have k0 : wr.cell? ⟨g, 0, none⟩ = some (.slice (some A) xs.length c) := hsl.cell 0
          have HB2 := Hid.intro (grown (v' := v2) hg2)
          have HO2 := Hid.intro ho2
          clear hb ho hsl grown ho2 hg2
          go_wp2
          go_roundw
          case rel => exact ⟨1, xs, rfl, Or.inr (Or.inl ⟨rfl, rfl⟩), HO2.out, HB2.out⟩
          case measure => decide
        · obtain ⟨v2, w2, happ, ho2, hg2, _⟩ := ho.app B ys (HBs.out.below hb) (by have := HZ.out; omega) hb.size d
          have k1 : wr.cell? ⟨g, 1, none⟩ = some (.slice (some B) ys.length d) := hsl.cell 1
          have HB2 := Hid.intro (grown (v' := v2) hg2)
          have HO2 := Hid.intro ho2
          clear hb ho hsl grown ho2 hg2
          go_wp2
          go_roundw
          case rel => exact ⟨2, zs ++ ys, rfl, Or.inr (Or.inr ⟨rfl, rfl⟩), HO2.out, HB2.out⟩
          case measure => decide
        · have HO2 := Hid.intro ho
          clear hb ho hsl grown
          go_wp2
          go_ret
          exact ⟨_, rfl, by rw [← HW0.out]; exact HO2.out, by rw [← HW0.out]; exact HBI.out⟩
end Go.Proofs.Ytgnmjaponiclhaa
