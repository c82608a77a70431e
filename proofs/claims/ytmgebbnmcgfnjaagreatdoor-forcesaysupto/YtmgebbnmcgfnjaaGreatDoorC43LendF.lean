/- raftersame's Lend at forces. -/
import Derived.Test.YtmgebbnmcgfnjaaGreatDoorC42Lend
import Derived.Test.YtmgebbnmcgfnjaaGreatDoorC08IntGive
import Derived.Test.YtmgebbnmcgfnjaaGreatDoorC04BigDivL3
import Derived.Deep.RegionHeld3
import Derived.KernelRfl
namespace Go.Proofs.YtmgebbnmcgfnjaaGreatDoor
open Go.RowKit
set_option linter.unusedVariables false
set_option linter.unusedSimpArgs false

theorem infoForce : (Tryz.prog.info? 29).map (fun i => (i.zero, i.size, i.bytes)) = some (some (.agg #[.string ⟨#[]⟩, .string ⟨#[]⟩, .string ⟨#[]⟩, .string ⟨#[]⟩]), 4, 64) := by kernel_rfl
theorem made_force (n : Nat) (hn : n ≤ 1048576) : ∃ MC : Array Value, MC.size = (n + 3) * 4 ∧ ∀ w, (Instr.makeSlice 22 (.int .i64 0) (.int .i64 (IntKind.i64.wrap ((n : Int) + 3)))).run Tryz.prog w = .ok (.slice (some ⟨w.heap.size, 0, none⟩) 0 (n + 3)) (w.alloc (.cells MC 29)) := by
  obtain ⟨i, hi, h⟩ := Option.map_eq_some_iff.1 infoForce
  simp only [Prod.mk.injEq] at h
  obtain ⟨hz, hs, hb⟩ := h
  refine ⟨madeCells (Value.cells (.agg #[.string ⟨#[]⟩, .string ⟨#[]⟩, .string ⟨#[]⟩, .string ⟨#[]⟩])) ((n + 3) * 4), size_madeCells _ _, fun w => ?_⟩
  have := run_make w 22 29 i _ Tryz.underlying22 hi hz .i64 .i64 0 ((n : Int) + 3) (by omega) (by omega) (by rw [hb]; omega) (by omega)
  have e : ((n : Int) + 3).toNat = n + 3 := by omega
  rw [e, hs] at this
  rw [show IntKind.i64.wrap ((n : Int) + 3) = (n : Int) + 3 by rw [IntKind.wrap_i64]; omega]
  exact this

set_option maxRecDepth 100000 in
set_option maxHeartbeats 4000000 in
theorem lend_force (a : Option Addr) (cap : Nat) (fs : List F4) (m0 m1 m2 m3 : ByteArray) (w : World) (hf : FRow w a cap fs) (hn : fs.length ≤ 1048576) :
    Calls Tryz.prog 11 #[.slice a fs.length cap, .agg #[.string m0, .string m1, .string m2, .string m3]] w fun e w' => ∃ g, e = .returned (.slice (some ⟨g, 0, none⟩) fs.length (fs.length + 3)) ∧ FRow w' (some ⟨g, 0, none⟩) (fs.length + 3) (fs ++ [⟨m0, m1, m2, m3⟩, ⟨m0, m1, m2, m3⟩, ⟨m0, m1, m2, m3⟩]) ∧ Below w.heap.size w w' := by
  have HC := Hid.intro hf.crow
  obtain ⟨MC, hMC, hmk⟩ := made_force fs.length hn
  have HMC := Hid.intro hMC
  obtain ⟨i, hi, h⟩ := Option.map_eq_some_iff.1 infoForce
  simp only [Prod.mk.injEq] at h
  obtain ⟨hz, hs, hb⟩ := h
  have HI := Hid.intro hi
  have HS := Hid.intro hs
  clear hz hb hi hs hMC hf
  go_enter Tryz.func11, Tryz.ntmps11
  go_wp2_with fail
  obtain ⟨W, hW⟩ : ∃ W, w.alloc (.cells #[.string m0, .string m1, .string m2, .string m3] 29) = W := ⟨_, rfl⟩
  have HB0 : Hid (Below w.heap.size w W) := Hid.intro (by rw [← hW]; exact (Below.refl _ _).alloc (Nat.le_refl _) _)
  have hsb : SB W w.heap.size 29 #[.string m0, .string m1, .string m2, .string m3] := by rw [← hW]; exact SB.new w _ _
  rw [hW]
  have hlt := hsb.lt
  have c0 : W.cell? ⟨w.heap.size, 0, none⟩ = some (.string m0) := hsb.cell 0
  have c1 : W.cell? ⟨w.heap.size, 1, none⟩ = some (.string m1) := hsb.cell 1
  have c2 : W.cell? ⟨w.heap.size, 2, none⟩ = some (.string m2) := hsb.cell 2
  have c3 : W.cell? ⟨w.heap.size, 3, none⟩ = some (.string m3) := hsb.cell 3
  clear hsb hW
  obtain ⟨MK, hMK⟩ : ∃ MK : List F4, MK = [⟨m0, m1, m2, m3⟩, ⟨m0, m1, m2, m3⟩, ⟨m0, m1, m2, m3⟩] := ⟨_, rfl⟩
  have HMK := Hid.intro hMK
  have hBC : ∀ (X : World) (j : Nat) (u : Value), (flatF MK)[j]? = some u → (X.alloc (.cells #[.string m0, .string m1, .string m2, .string m3, .string m0, .string m1, .string m2, .string m3, .string m0, .string m1, .string m2, .string m3] 29)).cell? ⟨X.heap.size, j, none⟩ = some u := by
    intro X j u hj
    rw [(SB.new X 29 #[.string m0, .string m1, .string m2, .string m3, .string m0, .string m1, .string m2, .string m3, .string m0, .string m1, .string m2, .string m3]).cell j]
    rw [hMK] at hj
    simpa [flatF, F4.cells] using hj
  have HBC := Hid.intro hBC
  have HML : Hid ((flatF MK).length = 3 * 4) := Hid.intro (by rw [hMK]; rfl)
  have HCW := Hid.intro (HC.out.below HB0.out)
  have hown : ∀ X : World, W.heap.size ≤ X.heap.size → (X.alloc (.cells MC 29)).ownsRow W.heap.size 29 4 (.slice (some ⟨X.heap.size, 0, none⟩) 0 (fs.length + 3)) 0 [] := fun X hX => World.ownsRow_made X MC (fs.length + 3) hX (by unfold maxLen; omega) HMC.out
  have HOW := Hid.intro hown
  have HA : Hid (Below W.heap.size W (W.alloc (.cells MC 29)).drew) := Hid.intro ((Below.refl _ _).alloc (Nat.le_refl _) _).drew
  obtain ⟨BC, hBCe⟩ : ∃ BC : Array Value, BC = #[.string m0, .string m1, .string m2, .string m3, .string m0, .string m1, .string m2, .string m3, .string m0, .string m1, .string m2, .string m3] := ⟨_, rfl⟩
  have HAX : Hid (Below W.heap.size W ((W.alloc (.cells #[.string m0, .string m1, .string m2, .string m3, .string m0, .string m1, .string m2, .string m3, .string m0, .string m1, .string m2, .string m3] 29)).alloc (.cells MC 29)).drew) := Hid.intro ((((Below.refl _ _).alloc (Nat.le_refl _) _).alloc (by simp) _).drew)
  have HOX : Hid (((W.alloc (.cells #[.string m0, .string m1, .string m2, .string m3, .string m0, .string m1, .string m2, .string m3, .string m0, .string m1, .string m2, .string m3] 29)).alloc (.cells MC 29)).drew.ownsRow W.heap.size 29 4 (.slice (some ⟨W.heap.size + 1, 0, none⟩) 0 (fs.length + 3)) 0 []) := Hid.intro (by
    have := hown (W.alloc (.cells #[.string m0, .string m1, .string m2, .string m3, .string m0, .string m1, .string m2, .string m3, .string m0, .string m1, .string m2, .string m3] 29)) (by simp)
    simp only [World.size_alloc] at this
    exact this)
  have HCX := Hid.intro (HCW.out.below HAX.out)
  have HBX : Hid (∀ (j : Nat) (u : Value), (flatF MK)[j]? = some u → ((W.alloc (.cells #[.string m0, .string m1, .string m2, .string m3, .string m0, .string m1, .string m2, .string m3, .string m0, .string m1, .string m2, .string m3] 29)).alloc (.cells MC 29)).drew.cell? ⟨W.heap.size, j, none⟩ = some u) := Hid.intro (fun j u hj => by
    have h1 := hBC W j u hj
    have h2 : Below (W.alloc (.cells #[.string m0, .string m1, .string m2, .string m3, .string m0, .string m1, .string m2, .string m3, .string m0, .string m1, .string m2, .string m3] 29)).heap.size _ _ := (Below.refl _ (W.alloc (.cells #[.string m0, .string m1, .string m2, .string m3, .string m0, .string m1, .string m2, .string m3, .string m0, .string m1, .string m2, .string m3] 29))).alloc (Nat.le_refl _) (.cells MC 29)
    exact (h2.drew.cell (p := ⟨W.heap.size, j, none⟩) (by simp)).trans h1)
  clear hMK hBC hown hBCe BC
  go_region_held3 (fun w' => w'.cell? ⟨w.heap.size, 0, none⟩ = some (.string m0) ∧ w'.cell? ⟨w.heap.size, 1, none⟩ = some (.string m1) ∧ w'.cell? ⟨w.heap.size, 2, none⟩ = some (.string m2) ∧ w'.cell? ⟨w.heap.size, 3, none⟩ = some (.string m3)) ((first | (simp [*]; done) | go_keep)) (first
    | (refine step_app1 Tryz.underlying22 HI.out HS.out (by decide) rfl (.tmp 9) (.tmp 10) rfl W.heap.size (xs := flatF fs) rfl rfl (HOW.out W (Nat.le_refl _)) (HCW.out.below HA.out) (flatF_len fs) (flatF_one fs) (by omega) ?_
       intro w1 hown1 hgr1
       have HO1 := Hid.intro hown1
       have hs1 : W.heap.size < w1.heap.size := by have := hgr1.size; simp at this; omega
       have c0 : w1.cell? ⟨w.heap.size, 0, none⟩ = some (.string m0) := (grown_cell hgr1 (p := ⟨w.heap.size, 0, none⟩) (by simp; omega) (by simp; omega)).trans (by simp [*])
       have c1 : w1.cell? ⟨w.heap.size, 1, none⟩ = some (.string m1) := (grown_cell hgr1 (p := ⟨w.heap.size, 1, none⟩) (by simp; omega) (by simp; omega)).trans (by simp [*])
       have c2 : w1.cell? ⟨w.heap.size, 2, none⟩ = some (.string m2) := (grown_cell hgr1 (p := ⟨w.heap.size, 2, none⟩) (by simp; omega) (by simp; omega)).trans (by simp [*])
       have c3 : w1.cell? ⟨w.heap.size, 3, none⟩ = some (.string m3) := (grown_cell hgr1 (p := ⟨w.heap.size, 3, none⟩) (by simp; omega) (by simp; omega)).trans (by simp [*])
       have HB1 : Hid (Below W.heap.size W w1) := Hid.intro (Below.ofGrown HA.out hgr1 HA.out.size (Nat.le_refl _))
       clear hown1 hgr1)
    | (refine step_app2 Tryz.underlying22 HI.out HS.out rfl (.tmp 11) (.tmp 15) rfl W.heap.size (xs := flatF fs) (news := flatF MK) (n := fs.length) (m := 3) rfl rfl (HO1.out.alloc _) HML.out (HBC.out w1) (flatF_one MK) (Nat.le_refl _) ?_
       intro w2 hown2 hgr2
       have HO2 := Hid.intro hown2
       have hs2 : w1.heap.size < w2.heap.size := by have := hgr2.size; simp at this; omega
       have c0 : w2.cell? ⟨w.heap.size, 0, none⟩ = some (.string m0) := (grown_cell hgr2 (p := ⟨w.heap.size, 0, none⟩) (by simp; omega) (by simp; omega)).trans (by simp [*])
       have c1 : w2.cell? ⟨w.heap.size, 1, none⟩ = some (.string m1) := (grown_cell hgr2 (p := ⟨w.heap.size, 1, none⟩) (by simp; omega) (by simp; omega)).trans (by simp [*])
       have c2 : w2.cell? ⟨w.heap.size, 2, none⟩ = some (.string m2) := (grown_cell hgr2 (p := ⟨w.heap.size, 2, none⟩) (by simp; omega) (by simp; omega)).trans (by simp [*])
       have c3 : w2.cell? ⟨w.heap.size, 3, none⟩ = some (.string m3) := (grown_cell hgr2 (p := ⟨w.heap.size, 3, none⟩) (by simp; omega) (by simp; omega)).trans (by simp [*])
       have HB2 : Hid (Below w.heap.size w w2) := Hid.intro (HB0.out.trans ((Below.ofGrown (HB1.out.alloc HB1.out.size _) hgr2 (by have := HB1.out.size; simp; omega) (Nat.le_refl _)).mono HB0.out.size))
       clear hown2 hgr2)
    | (refine step_app1 Tryz.underlying22 HI.out HS.out (by decide) rfl (.tmp 9) (.tmp 10) rfl W.heap.size (xs := flatF fs) rfl rfl ((HOW.out W (Nat.le_refl _)).alloc (.cells #[.string m0, .string m1, .string m2, .string m3, .string m0, .string m1, .string m2, .string m3, .string m0, .string m1, .string m2, .string m3] 29)) (HCW.out.below (HA.out.alloc HA.out.size _)) (flatF_len fs) (flatF_one fs) (by omega) ?_
       intro w1 hown1 hgr1
       have HO1 := Hid.intro hown1
       have hs1 : W.heap.size < w1.heap.size := by have := hgr1.size; simp at this; omega
       have c0 : w1.cell? ⟨w.heap.size, 0, none⟩ = some (.string m0) := (grown_cell hgr1 (p := ⟨w.heap.size, 0, none⟩) (by simp; omega) (by simp; omega)).trans (by simp [*])
       have c1 : w1.cell? ⟨w.heap.size, 1, none⟩ = some (.string m1) := (grown_cell hgr1 (p := ⟨w.heap.size, 1, none⟩) (by simp; omega) (by simp; omega)).trans (by simp [*])
       have c2 : w1.cell? ⟨w.heap.size, 2, none⟩ = some (.string m2) := (grown_cell hgr1 (p := ⟨w.heap.size, 2, none⟩) (by simp; omega) (by simp; omega)).trans (by simp [*])
       have c3 : w1.cell? ⟨w.heap.size, 3, none⟩ = some (.string m3) := (grown_cell hgr1 (p := ⟨w.heap.size, 3, none⟩) (by simp; omega) (by simp; omega)).trans (by simp [*])
       have HB1 : Hid (Below W.heap.size W w1) := Hid.intro (Below.ofGrown (HA.out.alloc HA.out.size _) hgr1 (by simp <;> omega) (Nat.le_refl _))
       have HBB : Hid (∀ (j : Nat) (u : Value), (flatF MK)[j]? = some u → w1.cell? ⟨W.heap.size + 1, j, none⟩ = some u) := Hid.intro (fun j u hj => (grown_cell hgr1 (p := ⟨W.heap.size + 1, j, none⟩) (by simp <;> omega) (by simp <;> omega)).trans (by simpa using HBC.out (W.alloc (.cells MC 29)) j u hj))
       clear hown1 hgr1)
    | (refine step_app1 Tryz.underlying22 HI.out HS.out (by decide) rfl (.tmp 9) (.tmp 10) rfl W.heap.size (xs := flatF fs) (g := W.heap.size + 1) rfl rfl (HOX.out) (HCX.out) (flatF_len fs) (flatF_one fs) (by omega) ?_
       intro w1 hown1 hgr1
       have HO1 := Hid.intro hown1
       have hs1 : W.heap.size < w1.heap.size := by have := hgr1.size; simp at this; omega
       have c0 : w1.cell? ⟨w.heap.size, 0, none⟩ = some (.string m0) := (grown_cell hgr1 (p := ⟨w.heap.size, 0, none⟩) (by simp; omega) (by simp; omega)).trans (by simp [*])
       have c1 : w1.cell? ⟨w.heap.size, 1, none⟩ = some (.string m1) := (grown_cell hgr1 (p := ⟨w.heap.size, 1, none⟩) (by simp; omega) (by simp; omega)).trans (by simp [*])
       have c2 : w1.cell? ⟨w.heap.size, 2, none⟩ = some (.string m2) := (grown_cell hgr1 (p := ⟨w.heap.size, 2, none⟩) (by simp; omega) (by simp; omega)).trans (by simp [*])
       have c3 : w1.cell? ⟨w.heap.size, 3, none⟩ = some (.string m3) := (grown_cell hgr1 (p := ⟨w.heap.size, 3, none⟩) (by simp; omega) (by simp; omega)).trans (by simp [*])
       have HB1 : Hid (Below W.heap.size W w1) := Hid.intro (Below.ofGrown HAX.out hgr1 (by simp <;> omega) (by omega))
       have HBB : Hid (∀ (j : Nat) (u : Value), (flatF MK)[j]? = some u → w1.cell? ⟨W.heap.size, j, none⟩ = some u) := Hid.intro (fun j u hj => (grown_cell hgr1 (p := ⟨W.heap.size, j, none⟩) (by simp <;> omega) (by simp <;> omega)).trans (HBX.out j u hj))
       clear hown1 hgr1)
    | (refine step_app2 Tryz.underlying22 HI.out HS.out rfl (.tmp 11) (.tmp 15) rfl W.heap.size (xs := flatF fs) (news := flatF MK) (n := fs.length) (m := 3) rfl rfl HO1.out HML.out HBB.out (flatF_one MK) (Nat.le_refl _) ?_
       intro w2 hown2 hgr2
       have HO2 := Hid.intro hown2
       have hs2 : w1.heap.size ≤ w2.heap.size := hgr2.size
       have c0 : w2.cell? ⟨w.heap.size, 0, none⟩ = some (.string m0) := (grown_cell hgr2 (p := ⟨w.heap.size, 0, none⟩) (by simp; omega) (by simp; omega)).trans (by simp [*])
       have c1 : w2.cell? ⟨w.heap.size, 1, none⟩ = some (.string m1) := (grown_cell hgr2 (p := ⟨w.heap.size, 1, none⟩) (by simp; omega) (by simp; omega)).trans (by simp [*])
       have c2 : w2.cell? ⟨w.heap.size, 2, none⟩ = some (.string m2) := (grown_cell hgr2 (p := ⟨w.heap.size, 2, none⟩) (by simp; omega) (by simp; omega)).trans (by simp [*])
       have c3 : w2.cell? ⟨w.heap.size, 3, none⟩ = some (.string m3) := (grown_cell hgr2 (p := ⟨w.heap.size, 3, none⟩) (by simp; omega) (by simp; omega)).trans (by simp [*])
       have HB2 : Hid (Below w.heap.size w w2) := Hid.intro (HB0.out.trans ((Below.ofGrown HB1.out hgr2 HB1.out.size (by omega)).mono HB0.out.size))
       clear hown2 hgr2)
    )
  all_goals
    go_wp2
    go_ret
    exact ⟨_, rfl, CRow.frow (by rw [flatF_append, ← HMK.out]; exact owns_crow HO2.out) (by simp), HB2.out⟩
end Go.Proofs.YtmgebbnmcgfnjaaGreatDoor
