/- package pebble: the searches. -/
import Derived.Test.YtgnmjaponiclhaaPebM
namespace Go.Proofs.Ytgnmjaponiclhaa
open Go.RowKit Go.MapKept
set_option linter.unusedVariables false
set_option linter.unusedSimpArgs false

def Bd (n : Nat) (loose : Nat → Nat) (paid : Nat → List Nat) : Prop := (∀ p, p < n → loose p + (paid p).length ≤ 2) ∧ ∀ p, p < n → ∀ q ∈ paid p, q < n
/-- how many points aren't seen -/
def unseen (n : Nat) (s : PSet) : Nat := sumTo n (fun p => (!s p).toNat)
theorem unseen_put {n : Nat} {s : PSet} {q : Nat} (hq : q < n) (hs : s q = false) : unseen n (putP s q true) + 1 = unseen n s := by
  have := sumTo_put n (fun p => (!s p).toNat) (fun p => (!putP s q true p).toNat) q hq (fun i _ hne => by simp only [putP_other _ _ hne])
  simp only [putP_self, hs] at this
  unfold unseen
  simpa using this
theorem unseen_more {n : Nat} {s s' : PSet} (h : ∀ r, s r = true → s' r = true) : unseen n s' ≤ unseen n s :=
  sumTo_le n _ _ (fun i _ => by
    cases hs : s i with
    | false => exact Bool.toNat_le _
    | true => rw [h i hs]; exact Nat.le_refl _)
def SpareSays (n q : Nat) (seen : PSet) (hv : Nat → Value) (loose : Nat → Nat) (paid : Nat → List Nat) (b : Bool) (hv' : Nat → Value) (loose' : Nat → Nat) (paid' : Nat → List Nat) (seen' : PSet) : Prop :=
  (b = true ∧ seen q = false ∧ Gave n q seen loose paid loose' paid') ∨ (b = false ∧ loose' = loose ∧ paid' = paid ∧ hv' = hv ∧ Shut loose paid seen seen' ∧ seen' q = true)
def RelSays (n p : Nat) (seen : PSet) (hv : Nat → Value) (loose : Nat → Nat) (paid : Nat → List Nat) (b : Bool) (hv' : Nat → Value) (loose' : Nat → Nat) (paid' : Nat → List Nat) (seen' : PSet) : Prop :=
  (b = true ∧ Gave n p (putP seen p false) loose paid loose' paid' ∧ loose' p = loose p) ∨ (b = false ∧ loose' = loose ∧ paid' = paid ∧ hv' = hv ∧ Shut loose paid seen seen' ∧ ∀ q ∈ paid p, seen' q = true)
theorem RelSays.spare {n q : Nat} {seen seen' : PSet} {hv hv' : Nat → Value} {loose loose' : Nat → Nat} {paid paid' : Nat → List Nat} {b : Bool} (h : RelSays n q (putP seen q true) hv loose paid b hv' loose' paid' seen') (hs : seen q = false) (hl : loose q = 0) : SpareSays n q seen hv loose paid b hv' loose' paid' seen' := by
  rcases h with ⟨h1, h2, h3⟩ | ⟨h1, h2, h3, h4, h5, h6⟩
  · refine Or.inl ⟨h1, hs, h2.less (fun r hr => ?_)⟩
    have : r ≠ q := fun e => by rw [e, hs] at hr; cases hr
    rw [putP_other _ _ this, putP_other _ _ this]
    exact hr
  · obtain ⟨a, c⟩ := h5.spare hl h6
    exact Or.inr ⟨h1, h2, h3, h4, a, c⟩
abbrev brdV (g : Nat) : Value := .pointer (some ⟨g, 0, none⟩)
def SpareAt (B0 B n g gl gp gm k : Nat) : Prop := ∀ (w : World) (hv : Nat → Value) (loose : Nat → Nat) (paid : Nat → List Nat) (seen : PSet) (q : Nat), PB w B0 B n g gl gp gm hv loose paid seen → Bd n loose paid → q < n → unseen n seen ≤ k →
  Calls Try.prog 33 #[brdV g, nv q] w fun e w' => ∃ b hv' loose' paid' seen', e = .returned (.bool b) ∧ PB w' B0 B n g gl gp gm hv' loose' paid' seen' ∧ Kp B0 w w' ∧ SpareSays n q seen hv loose paid b hv' loose' paid' seen'
def RelAt (B0 B n g gl gp gm k : Nat) : Prop := ∀ (w : World) (hv : Nat → Value) (loose : Nat → Nat) (paid : Nat → List Nat) (seen : PSet) (p : Nat), PB w B0 B n g gl gp gm hv loose paid seen → Bd n loose paid → p < n → seen p = true → unseen n seen ≤ k →
  Calls Try.prog 32 #[brdV g, nv p] w fun e w' => ∃ b hv' loose' paid' seen', e = .returned (.bool b) ∧ PB w' B0 B n g gl gp gm hv' loose' paid' seen' ∧ Kp B0 w w' ∧ RelSays n p seen hv loose paid b hv' loose' paid' seen'

set_option maxRecDepth 100000 in
set_option maxHeartbeats 2000000 in
theorem spare_of {B0 B n g gl gp gm k : Nat} (hn : n ≤ 10) (hrel : ∀ j, j < k → RelAt B0 B n g gl gp gm j) : SpareAt B0 B n g gl gp gm k := by
  intro w hv loose paid seen q h hbd hq hk
  have HREL := Hid.intro hrel
  have HPB := Hid.intro h
  have HBD := Hid.intro hbd
  have HK := Hid.intro hk
  obtain ⟨es, c, hm, hi⟩ := h.map
  have hlook : (Instr.lookup 61 (.map (some gm)) (.int .i64 (q : Int)) true).run Try.prog w = _ := run_look hm hi q
  have c2 : w.cell? ⟨g, 2, none⟩ = some (.map (some gm)) := h.brd.cell 2
  obtain ⟨V, hV⟩ : ∃ V, w.alloc (.cells #[] 66) = V := ⟨_, rfl⟩
  have hpv : PB V B0 B n g gl gp gm hv loose paid seen := by rw [← hV]; exact h.alloc _
  have hbw : B0 ≤ w.heap.size := by have := h.hi; have := h.lo; omega
  have HKV : Hid (Kp B0 w V) := Hid.intro (by rw [← hV]; exact (Kp.refl _ _).alloc hbw _)
  have HPV := Hid.intro hpv
  cases hs : seen q with
  | true =>
    rw [hs] at hlook
    have HS := Hid.intro hs
    have HV := Hid.intro hV
    clear h hbd hk hm hi hpv hbw hs hV hrel
    go_enter Try.func33, Try.ntmps33
    go_wp2
    go_ret
    exact ⟨false, hv, loose, paid, seen, rfl, by rw [HV.out]; exact HPV.out, by rw [HV.out]; exact HKV.out, Or.inr ⟨rfl, rfl, rfl, rfl, Shut.refl _ _ _, HS.out⟩⟩
  | false =>
    rw [hs] at hlook
    have hmV : V.heap[gm]? = some (.map es c) := by rw [← hV]; exact (alloc_keep w _ (by have := h.hi; omega)).trans hm
    have hput : (Instr.mapUpdate 61 (.map (some gm)) (.int .i64 (q : Int)) (.agg #[])).run Try.prog V = _ := run_put hmV hi q hs
    obtain ⟨U, hU⟩ : ∃ U, ({ V with heap := V.heap.setIfInBounds gm (.map (es.push { key := nv q, val := .agg #[], born := c }) (c + 1)) } : World) = U := ⟨_, rfl⟩
    have hpu : PB U B0 B n g gl gp gm hv loose paid (putP seen q true) := by rw [← hU]; exact hpv.setMap (hi.push q c)
    have HKU : Hid (Kp B0 w U) := Hid.intro (by rw [← hU]; exact HKV.out.map hmV (by have := h.lo; omega) _)
    rw [hU] at hput
    have HPU := Hid.intro hpu
    have c2V : V.cell? ⟨g, 2, none⟩ = some (.map (some gm)) := hpv.brd.cell 2
    have c0U : U.cell? ⟨g, 0, none⟩ = some (.slice (some ⟨gl, 0, none⟩) n n) := hpu.brd.cell 0
    have l0U : U.cell? ⟨gl, q, none⟩ = some (.int .i64 (loose q : Int)) := (hpu.ls.cell q).trans (lsArr_get _ hq)
    have f0U : U.frozen? ⟨gl, q, none⟩ = false := hpu.ls.free q
    have hlq : loose q ≤ 2 := by have := hbd.1 q hq; omega
    have HS := Hid.intro hs
    have HV := Hid.intro hV
    have HU := Hid.intro hU
    rw [← hV] at c2V hput
    clear h hbd hk hm hi hpv hbw hs hV hrel hmV hpu hU
    by_cases hl : 0 < loose q
    · have e1 : ((loose q : Int) > 0) := by omega
      have e2 : IntKind.i64.wrap ((loose q : Int) - 1) = ((loose q - 1 : Nat) : Int) := by
        rw [show ((loose q : Int) - 1) = ((loose q - 1 : Nat) : Int) by omega]
        simp [IntKind.wrap, IntKind.signed, IntKind.bits]
        omega
      go_enter Try.func33, Try.ntmps33
      go_wp2
      go_ret
      exact ⟨true, hv, putP loose q (loose q - 1), paid, putP seen q true, rfl, HPU.out.setLoose q _, HKU.out.setCell HPU.out.ls (by decide) HPU.out.lo.2.1 _ _, Or.inl ⟨rfl, HS.out, gave_loose HS.out hl HBD.out.2⟩⟩
    · have e1 : ¬ ((loose q : Int) > 0) := by omega
      go_enter Try.func33, Try.ntmps33
      have HC := Hid.intro (HREL.out (k - 1) (by have := unseen_put hq HS.out; have := HK.out; omega) U hv loose paid (putP seen q true) q HPU.out HBD.out hq (putP_self _ _ _) (by have := unseen_put hq HS.out; have := HK.out; omega))
      go_wp2_with fail
      go_fit HC.out
      rintro e w1 ⟨b, hv1, loose1, paid1, seen1, rfl, hpb1, hkp1, hsay⟩
      have HP1 := Hid.intro hpb1
      have HK1 := Hid.intro (HKU.out.trans hkp1)
      have HSA := Hid.intro hsay
      clear hpb1 hkp1 hsay
      go_wp2
      go_ret
      exact ⟨b, hv1, loose1, paid1, seen1, rfl, HP1.out, HK1.out, HSA.out.spare HS.out (by omega)⟩
end Go.Proofs.Ytgnmjaponiclhaa
