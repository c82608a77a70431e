/- raftersame: Lend, of edges. -/
import Derived.Test.YtgnmjaponiclhaaPebJ
import Derived.Deep.Upon
import Derived.Laws.MakeOwn
namespace Go.Proofs.Ytgnmjaponiclhaa
open Go.RowKit Go.MapKept
set_option linter.unusedVariables false
set_option linter.unusedSimpArgs false
theorem EOwn.appBig {w : World} {B : Nat} {v : Value} {es : List (Int × Int)} (h : EOwn w B v es) (a : Addr) (fs : List (Int × Int)) (hx : ∀ j u, (fs.flatMap eCells)[j]? = some u → w.cell? (a.add j) = some u) (hl : es.length + fs.length ≤ 8796093022208) (hB : B ≤ w.heap.size) (c : Nat) :
    ∃ v' w', appRun Try.prog 27 27 v (.slice (some a) fs.length c) w = .ok v' w' ∧ EOwn w' B v' (es ++ fs) ∧ w.grownBy w' v.ownBlock ∧ (v'.ownBlock = v.ownBlock ∨ v'.ownBlock = some w.heap.size) := by
  obtain ⟨i0, hi, hz0, hz1, hz2⟩ := info_parts infoPairs
  obtain ⟨v', w', h1, h2, h3, h4, h5⟩ := run_append_own_at (P := Try.prog) w B 27 27 29 i0 (.agg #[.int .i64 0, .int .i64 0]) 2 16 Try.underlying27 hi hz0 hz1 hz2 rfl (by decide) v es.length (es.flatMap eCells) h a fs.length c (fs.flatMap eCells) (eFlat_len fs) hx (eFlat_one fs) (by unfold maxLen; omega) (by omega) hB
  refine ⟨v', w', h1, ?_, h3, h5⟩
  unfold EOwn
  rw [List.length_append, List.flatMap_append]
  exact h2
/-- while a list is lent: what came in stays, the mark too -/
structure LSt (w u : World) (s : Nat) (mk : Int × Int) : Prop where
  bel : Below w.heap.size w u
  at_ : s = w.heap.size
  mark : SB u s 29 #[.int .i64 mk.1, .int .i64 mk.2]
theorem LSt.grown {w u u' : World} {s : Nat} {mk : Int × Int} (h : LSt w u s mk) {row : Option Nat} (hg : u.grownBy u' row) (hr : ∀ g, row = some g → s < g) : LSt w u' s mk := by
  have hs := h.at_
  refine ⟨h.bel.trans ⟨hg.os, hg.tape, hg.output, hg.size, fun b hb => hg.block b (by have := h.bel.size; omega) (fun e => by have := hr b e.symm; omega)⟩, hs, h.mark.keep (hg.block s h.mark.lt (fun e => by have := hr s e.symm; omega))⟩
theorem LSt.below {w u u' : World} {s : Nat} {mk : Int × Int} (h : LSt w u s mk) (hb : Below u.heap.size u u') : LSt w u' s mk := ⟨h.bel.trans (hb.mono h.bel.size), h.at_, h.mark.below hb h.mark.lt⟩
theorem lend_make {w u : World} {s : Nat} {mk : Int × Int} (h : LSt w u s mk) (L : Nat) (hL : L ≤ 8796093021952) :
    ∃ u', (Instr.makeSlice 27 (.int .i64 0) (.int .i64 ((L : Int) + 3))).run Try.prog u = .ok (.slice (some ⟨u.heap.size, 0, none⟩) 0 (L + 3)) u' ∧ EOwn u' (s + 1) (.slice (some ⟨u.heap.size, 0, none⟩) 0 (L + 3)) [] ∧ LSt w u' s mk ∧ u.grownBy u' none := by
  obtain ⟨i0, hi, hz0, hz1, hz2⟩ := info_parts infoPairs
  have e : ((L : Int) + 3) = ((L + 3 : Nat) : Int) := by omega
  rw [e]
  obtain ⟨u', h1, h2, h3⟩ := run_make_own (P := Try.prog) u (s + 1) 27 29 i0 (.agg #[.int .i64 0, .int .i64 0]) 2 Try.underlying27 hi hz0 hz1 .i64 .i64 (L + 3) (by rw [hz2]; omega) (by unfold maxLen; omega) h.mark.lt
  exact ⟨u', h1, h2, h.grown h3 (fun g hg => by cases hg), h3⟩
theorem lend_app {w u : World} {s : Nat} {mk : Int × Int} (h : LSt w u s mk) {v : Value} (ho : EOwn u (s + 1) v []) {a : Option Addr} {cap : Nat} {es : List (Int × Int)} (he : ERow w a cap es) (hl : es.length ≤ 8796093021952) :
    ∃ v' u', appRun Try.prog 27 27 v (.slice a es.length cap) u = .ok v' u' ∧ EOwn u' (s + 1) v' es ∧ LSt w u' s mk ∧ u.grownBy u' v.ownBlock := by
  have heu := he.below h.bel
  cases a with
  | none =>
    have hnil : es = [] := by
      cases es with
      | nil => rfl
      | cons x l =>
        obtain ⟨b, off, h1, _⟩ := heu.cell 0 x rfl
        cases h1
    subst hnil
    obtain ⟨i0, hi, hz0, hz1, hz2⟩ := info_parts infoPairs
    obtain ⟨av, cv, rfl, hr, _⟩ := ho.row
    exact ⟨_, u, run_append_nothing u 27 27 27 29 i0 Try.underlying27 hi av 0 cv (Nat.zero_le _) _ (Src.ofNil u Try.underlying27 cap), ho, h, ⟨rfl, rfl, rfl, Nat.le_refl _, fun _ _ _ => rfl⟩⟩
  | some ad =>
    obtain ⟨v', u', h1, h2, h3, _⟩ := ho.appBig ad es heu.src (by simp; omega) h.mark.lt cap
    exact ⟨v', u', h1, h2, h.grown h3 (fun g hg => by have := (ho.block hg).1; omega), h3⟩
theorem lend_src {u u' : World} {q : Nat} {fs : List (Int × Int)} {row : Option Nat} (h : ESrc u ⟨q, 0, none⟩ fs) (hg : u.grownBy u' row) (hq : q < u.heap.size) (hr : some q ≠ row) : ESrc u' ⟨q, 0, none⟩ fs := fun j x hj => by
  exact (World.cell?_of_block (w := u) (w' := u') (a := (⟨q, 0, none⟩ : Addr).add j) (by rw [add_block]; exact hg.block q hq hr)).trans (h j x hj)
theorem lend_last {w u : World} {s q : Nat} {mk : Int × Int} (h : LSt w u s mk) {v : Value} {es : List (Int × Int)} (ho : EOwn u (s + 1) v es) (hs : ESrc u ⟨q, 0, none⟩ [mk, mk, mk]) (hl : es.length ≤ 8796093021952) :
    ∃ g c u', appRun Try.prog 27 27 v (.slice (some ⟨q, 0, none⟩) 3 3) u = .ok (.slice (some ⟨g, 0, none⟩) (es.length + 3) c) u' ∧ EOwn u' (s + 1) (.slice (some ⟨g, 0, none⟩) (es.length + 3) c) (es ++ [mk, mk, mk]) ∧ LSt w u' s mk ∧ es.length ≤ c := by
  obtain ⟨v', u', h1, h2, h3, _⟩ := ho.appBig ⟨q, 0, none⟩ [mk, mk, mk] hs (by simp; omega) h.mark.lt 3
  have hn : (es ++ [mk, mk, mk]).length = es.length + 3 := by rw [List.length_append]; rfl
  rcases h2.2 with ⟨_, hz⟩ | ⟨g, c, cur, rfl, _, _, hc, _⟩
  · omega
  · rw [hn] at h1 h2 hc
    exact ⟨g, c, u', h1, h2, h.grown h3 (fun g hg => by have := (ho.block hg).1; omega), by omega⟩
theorem lend_marks {w u : World} {s : Nat} {mk : Int × Int} (h : LSt w u s mk) : LSt w (u.alloc (.cells #[.int .i64 mk.1, .int .i64 mk.2, .int .i64 mk.1, .int .i64 mk.2, .int .i64 mk.1, .int .i64 mk.2] 29)) s mk ∧
    Below u.heap.size u (u.alloc (.cells #[.int .i64 mk.1, .int .i64 mk.2, .int .i64 mk.1, .int .i64 mk.2, .int .i64 mk.1, .int .i64 mk.2] 29)) ∧
    ESrc (u.alloc (.cells #[.int .i64 mk.1, .int .i64 mk.2, .int .i64 mk.1, .int .i64 mk.2, .int .i64 mk.1, .int .i64 mk.2] 29)) ⟨u.heap.size, 0, none⟩ [mk, mk, mk] := by
  have hb : Below u.heap.size u (u.alloc (.cells #[.int .i64 mk.1, .int .i64 mk.2, .int .i64 mk.1, .int .i64 mk.2, .int .i64 mk.1, .int .i64 mk.2] 29)) := (Below.refl _ _).alloc (Nat.le_refl _) _
  exact ⟨h.below hb, hb, src_new u _ [mk, mk, mk] rfl (Below.refl _ _)⟩
end Go.Proofs.Ytgnmjaponiclhaa
