/- A list of cells that is lent: plain laws, no function of the program in it. -/
import Derived.Test.YtmgebbnmcgfnjaaGreatDoorC16RefTurn
import Derived.Deep.RegionLaw
import Derived.Deep.Upon
import Derived.Laws.OwnMore
namespace Go.Proofs.YtmgebbnmcgfnjaaGreatDoor
open Go.RowKit
set_option linter.unusedVariables false
set_option linter.unusedSimpArgs false

/-- a slice's cells -/
structure CRow (w : World) (a : Option Addr) (xs : List Value) : Prop where
  cell : ∀ j u, xs[j]? = some u → ∃ b off, a = some ⟨b, off, none⟩ ∧ b < w.heap.size ∧ w.cell? ⟨b, off + j, none⟩ = some u
theorem CRow.below {w w' : World} {a : Option Addr} {xs : List Value} (h : CRow w a xs) (hb : Below w.heap.size w w') : CRow w' a xs := by
  refine ⟨fun j u hj => ?_⟩
  obtain ⟨b, off, h1, h2, h3⟩ := h.cell j u hj
  exact ⟨b, off, h1, by have := hb.size; omega, (hb.cell (p := ⟨b, off + j, none⟩) h2).trans h3⟩

section
variable {P : Program} {t e : TypeId} {i : TypeInfo} {size : Nat}

theorem add_at (b off j : Nat) : Addr.add ⟨b, off, none⟩ j = ⟨b, off + j, none⟩ := by
  unfold Addr.add
  by_cases hj : j = 0 <;> simp [hj]

/-- what came in, put behind nothing -/
theorem run_app1 (ht : P.underlying t = some (.slice e)) (hi : P.info? e = some i) (hsize : i.size = size) (h0 : 0 < size) {w : World} {g c base n cap : Nat} {a : Option Addr} {xs : List Value}
    (hown : w.ownsRow base e size (.slice (some ⟨g, 0, none⟩) 0 c) 0 []) (hx : CRow w a xs) (hl : xs.length = n * size) (h1 : ∀ u ∈ xs, u.oneCell' = true) (hroom : n ≤ c) (ty : TypeId) :
    ∃ w', (Builtin.append_ #[t, t] ty #[.slice (some ⟨g, 0, none⟩) 0 c, .slice a n cap]).run P w = .ok (.slice (some ⟨g, 0, none⟩) n c) w' ∧ w'.ownsRow base e size (.slice (some ⟨g, 0, none⟩) n c) n xs ∧ w.grownBy w' (some g) := by
  cases a with
  | none =>
    have hnil : xs = [] := by
      cases xs with
      | nil => rfl
      | cons u l =>
        obtain ⟨b, off, h, _⟩ := hx.cell 0 u rfl
        cases h
    subst hnil
    have hn : n = 0 := by
      rcases Nat.eq_zero_or_pos n with h | h
      · exact h
      · have := Nat.mul_pos h h0
        simp at hl
        omega
    subst hn
    have hs : Src P i.size t (.slice none 0 cap) 0 [] w := Src.ofNil w ht cap
    exact ⟨w, run_append_nothing w t t ty e i ht hi _ 0 c (Nat.zero_le _) _ hs, hown, ⟨rfl, rfl, rfl, Nat.le_refl _, fun _ _ _ => rfl⟩⟩
  | some ad =>
    have hnews : ∀ j u, xs[j]? = some u → w.cell? (ad.add j) = some u := by
      intro j u hj
      obtain ⟨b, off, h, _, hc⟩ := hx.cell j u hj
      cases h
      rw [add_at]
      exact hc
    have := run_append_fits w base t ty e i size ht hi hsize g 0 c [] hown ad n cap xs hl hnews h1 (by omega)
    simpa using this

theorem step_app {ops : Array Oper} {o : Oper} {a : Act} {w : World} {K : Act → World → Prop} {Q : Exit → Act → World → Prop} {E : Prop}
    (hg : o.guard = none) (s x : Operand) (hop : o.op = Op.call { callee := Callee.builtin Builtin.append, args := #[s, x], argTypes := #[t, t] })
    {vs vx v : Value} {w' : World} (hs : a.eval s = vs) (hx : a.eval x = vx) (hrun : (Builtin.append_ #[t, t] o.type #[vs, vx]).run P w = .ok v w') (hK : K (a.put o.dst v) w') :
    if Region.wanted o (yielded ops a.tmps) = true then Oper.wp P o a w K Q else E := by
  have hw : Region.wanted o (yielded ops a.tmps) = true := by simp [Region.wanted, hg]
  rw [if_pos hw]
  unfold Oper.wp
  simp [execOp, hop, resolve, invoke, builtin, hs, hx, hrun, Result.andThen]
  exact hK

theorem step_app1 (ht : P.underlying t = some (.slice e)) (hi : P.info? e = some i) (hsize : i.size = size) (h0 : 0 < size) {ops : Array Oper} {o : Oper} {a : Act} {w : World} {K : Act → World → Prop} {Q : Exit → Act → World → Prop} {E : Prop}
    (hg : o.guard = none) (s x : Operand) (hop : o.op = Op.call { callee := Callee.builtin Builtin.append, args := #[s, x], argTypes := #[t, t] })
    {g c n cap : Nat} (base : Nat) {ad : Option Addr} {xs : List Value} (hs : a.eval s = .slice (some ⟨g, 0, none⟩) 0 c) (hx : a.eval x = .slice ad n cap)
    (hown : w.ownsRow base e size (.slice (some ⟨g, 0, none⟩) 0 c) 0 []) (hr : CRow w ad xs) (hl : xs.length = n * size) (h1 : ∀ u ∈ xs, u.oneCell' = true) (hroom : n ≤ c)
    (hK : ∀ w', w'.ownsRow base e size (.slice (some ⟨g, 0, none⟩) n c) n xs → w.grownBy w' (some g) → K (a.put o.dst (.slice (some ⟨g, 0, none⟩) n c)) w') :
    if Region.wanted o (yielded ops a.tmps) = true then Oper.wp P o a w K Q else E := by
  obtain ⟨w', hrun, h2, h3⟩ := run_app1 ht hi hsize h0 (cap := cap) hown hr hl h1 hroom o.type
  exact step_app hg s x hop hs hx hrun (hK w' h2 h3)

theorem step_app2 (ht : P.underlying t = some (.slice e)) (hi : P.info? e = some i) (hsize : i.size = size) {ops : Array Oper} {o : Oper} {a : Act} {w : World} {K : Act → World → Prop} {Q : Exit → Act → World → Prop} {E : Prop}
    (hg : o.guard = none) (s x : Operand) (hop : o.op = Op.call { callee := Callee.builtin Builtin.append, args := #[s, x], argTypes := #[t, t] })
    {g c n m cap gb : Nat} (base : Nat) {xs news : List Value} (hs : a.eval s = .slice (some ⟨g, 0, none⟩) n c) (hx : a.eval x = .slice (some ⟨gb, 0, none⟩) m cap)
    (hown : w.ownsRow base e size (.slice (some ⟨g, 0, none⟩) n c) n xs) (hl : news.length = m * size) (hr : ∀ j u, news[j]? = some u → w.cell? ⟨gb, j, none⟩ = some u) (h1 : ∀ u ∈ news, u.oneCell' = true) (hroom : n + m ≤ c)
    (hK : ∀ w', w'.ownsRow base e size (.slice (some ⟨g, 0, none⟩) (n + m) c) (n + m) (xs ++ news) → w.grownBy w' (some g) → K (a.put o.dst (.slice (some ⟨g, 0, none⟩) (n + m) c)) w') :
    if Region.wanted o (yielded ops a.tmps) = true then Oper.wp P o a w K Q else E := by
  obtain ⟨w', hrun, h2, h3⟩ := run_append_fits w base t o.type e i size ht hi hsize g n c xs hown ⟨gb, 0, none⟩ m cap news hl (fun j u hj => by rw [add_at]; simpa using hr j u hj) h1 hroom
  exact step_app hg s x hop hs hx hrun (hK w' h2 h3)
end

theorem Below.ofGrown {B : Nat} {a w w' : World} {g : Nat} (h : Below B a w) (hg : w.grownBy w' (some g)) (hB : B ≤ w.heap.size) (hr : B ≤ g) : Below B a w' :=
  h.grown hg hB (fun k hk => by cases hk; exact hr)
theorem grown_cell {w w' : World} {g : Nat} (hg : w.grownBy w' (some g)) {p : Addr} (hp : p.block < w.heap.size) (hne : p.block ≠ g) : w'.cell? p = w.cell? p :=
  World.cell?_of_block (hg.block p.block hp (by simpa using hne))
theorem made_owns {W : World} {base e size c k : Nat} {z : Array Value} (hb : base ≤ W.heap.size) (hm : c ≤ maxLen) (hk : k = c * size) : (W.alloc (.cells (madeCells z k) e)).ownsRow base e size (.slice (some ⟨W.heap.size, 0, none⟩) 0 c) 0 [] :=
  World.ownsRow_made W _ c hb hm (by rw [size_madeCells, hk])

/-- a force's cells -/
def F4.cells (f : F4) : List Value := [.string f.ax, .string f.ay, .string f.wx, .string f.wy]
def flatF (fs : List F4) : List Value := fs.flatMap F4.cells
theorem flatF_cons (f : F4) (l : List F4) : flatF (f :: l) = .string f.ax :: .string f.ay :: .string f.wx :: .string f.wy :: flatF l := rfl
theorem flatF_append (l m : List F4) : flatF (l ++ m) = flatF l ++ flatF m := List.flatMap_append
theorem flatF_len (fs : List F4) : (flatF fs).length = fs.length * 4 := by
  induction fs with
  | nil => rfl
  | cons f l ih => rw [flatF_cons]; simp [ih]; omega
theorem flatF_one (fs : List F4) : ∀ u ∈ flatF fs, u.oneCell' = true := by
  induction fs with
  | nil => intro u h; cases h
  | cons f l ih =>
    intro u h
    rw [flatF_cons] at h
    simp only [List.mem_cons] at h
    rcases h with rfl | rfl | rfl | rfl | h
    · rfl
    · rfl
    · rfl
    · rfl
    · exact ih u h
theorem flatF_at : ∀ (fs : List F4) (i : Nat) (f : F4), fs[i]? = some f → (flatF fs)[i * 4]? = some (.string f.ax) ∧ (flatF fs)[i * 4 + 1]? = some (.string f.ay) ∧ (flatF fs)[i * 4 + 2]? = some (.string f.wx) ∧ (flatF fs)[i * 4 + 3]? = some (.string f.wy)
  | [], i, f, h => by simp at h
  | g :: l, 0, f, h => by
    obtain rfl : g = f := by simpa using h
    simp [flatF_cons]
  | g :: l, i + 1, f, h => by
    have := flatF_at l i f (by simpa using h)
    rw [flatF_cons, Nat.succ_mul]
    simpa using this
theorem flatF_get : ∀ (fs : List F4) (j : Nat) (u : Value), (flatF fs)[j]? = some u → ∃ i f k, fs[i]? = some f ∧ j = i * 4 + k ∧ f.cells[k]? = some u
  | [], j, u, h => by simp [flatF] at h
  | g :: l, j, u, h => by
    rw [flatF_cons] at h
    match j with
    | 0 => exact ⟨0, g, 0, rfl, rfl, h⟩
    | 1 => exact ⟨0, g, 1, rfl, rfl, h⟩
    | 2 => exact ⟨0, g, 2, rfl, rfl, h⟩
    | 3 => exact ⟨0, g, 3, rfl, rfl, h⟩
    | j + 4 =>
      obtain ⟨i, f, k, h1, h2, h3⟩ := flatF_get l j u (by simpa using h)
      exact ⟨i + 1, f, k, by simpa using h1, by omega, h3⟩
theorem FRow.crow {w : World} {a : Option Addr} {cap : Nat} {fs : List F4} (h : FRow w a cap fs) : CRow w a (flatF fs) := by
  refine ⟨fun j u hj => ?_⟩
  obtain ⟨i, f, k, h1, rfl, h3⟩ := flatF_get fs j u hj
  obtain ⟨b, off, ha, hb, c0, c1, c2, c3⟩ := h.cell i f h1
  refine ⟨b, off, ha, hb, ?_⟩
  match k with
  | 0 => obtain rfl := Option.some.inj h3; simpa using c0
  | 1 => obtain rfl := Option.some.inj h3; simpa [Nat.add_assoc] using c1
  | 2 => obtain rfl := Option.some.inj h3; simpa [Nat.add_assoc] using c2
  | 3 => obtain rfl := Option.some.inj h3; simpa [Nat.add_assoc] using c3
  | k + 4 => simp [F4.cells] at h3
theorem CRow.frow {w : World} {a : Option Addr} {cap : Nat} {fs : List F4} (h : CRow w a (flatF fs)) (hc : fs.length ≤ cap) : FRow w a cap fs := by
  refine ⟨hc, fun i f hi => ?_⟩
  obtain ⟨h0, h1, h2, h3⟩ := flatF_at fs i f hi
  obtain ⟨b, off, rfl, hb, c0⟩ := h.cell _ _ h0
  obtain ⟨b1, o1, e1, _, c1⟩ := h.cell _ _ h1
  obtain ⟨b2, o2, e2, _, c2⟩ := h.cell _ _ h2
  obtain ⟨b3, o3, e3, _, c3⟩ := h.cell _ _ h3
  cases e1
  cases e2
  cases e3
  exact ⟨b, off, rfl, hb, c0, by simpa [Nat.add_assoc] using c1, by simpa [Nat.add_assoc] using c2, by simpa [Nat.add_assoc] using c3⟩
theorem owns_crow {w : World} {base e size g n c : Nat} {xs : List Value} (h : w.ownsRow base e size (.slice (some ⟨g, 0, none⟩) n c) n xs) : CRow w (some ⟨g, 0, none⟩) xs := by
  refine ⟨fun j u hj => ⟨g, 0, rfl, (h.lt g rfl).2, ?_⟩⟩
  have hl := h.1
  have hj' := (List.getElem?_eq_some_iff.1 hj).1
  rw [Nat.zero_add, h.cellAt j (by omega)]
  exact hj
theorem CRow.left {w : World} {a : Option Addr} {xs ys : List Value} (h : CRow w a (xs ++ ys)) : CRow w a xs := by
  refine ⟨fun j u hj => h.cell j u ?_⟩
  rw [List.getElem?_append_left (List.getElem?_eq_some_iff.1 hj).1]
  exact hj
end Go.Proofs.YtmgebbnmcgfnjaaGreatDoor
