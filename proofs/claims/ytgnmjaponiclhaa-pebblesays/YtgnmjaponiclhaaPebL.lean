/- counts of edges among points, plainly: which edges hang together; what the kept ones of any order have in common; what pebbles tell of it. -/
namespace Go.Proofs.Ytgnmjaponiclhaa
set_option linter.unusedVariables false
set_option linter.unusedSimpArgs false

abbrev Edge := Nat × Nat
abbrev PSet := Nat → Bool
def sumTo : Nat → (Nat → Nat) → Nat
  | 0, _ => 0
  | n + 1, f => sumTo n f + f n
theorem sumTo_congr : ∀ (n : Nat) (f g : Nat → Nat), (∀ i, i < n → f i = g i) → sumTo n f = sumTo n g
  | 0, _, _, _ => rfl
  | n + 1, f, g, h => by
    simp only [sumTo]
    rw [sumTo_congr n f g (fun i hi => h i (by omega)), h n (by omega)]
theorem sumTo_le : ∀ (n : Nat) (f g : Nat → Nat), (∀ i, i < n → f i ≤ g i) → sumTo n f ≤ sumTo n g
  | 0, _, _, _ => Nat.le_refl _
  | n + 1, f, g, h => by
    have := sumTo_le n f g (fun i hi => h i (by omega))
    have := h n (by omega)
    simp only [sumTo]
    omega
theorem sumTo_add : ∀ (n : Nat) (f g : Nat → Nat), sumTo n (fun i => f i + g i) = sumTo n f + sumTo n g
  | 0, _, _ => rfl
  | n + 1, f, g => by
    have := sumTo_add n f g
    simp only [sumTo]
    omega
theorem sumTo_mul (c : Nat) : ∀ (n : Nat) (f : Nat → Nat), sumTo n (fun i => c * f i) = c * sumTo n f
  | 0, _ => rfl
  | n + 1, f => by
    have := sumTo_mul c n f
    simp only [sumTo, Nat.mul_add]
    omega
/- one place changed. -/
theorem sumTo_put : ∀ (n : Nat) (f g : Nat → Nat) (p : Nat), p < n → (∀ i, i < n → i ≠ p → g i = f i) → sumTo n g + f p = sumTo n f + g p
  | 0, _, _, _, hp, _ => by omega
  | n + 1, f, g, p, hp, h => by
    simp only [sumTo]
    by_cases hn : p = n
    · subst hn
      have := sumTo_congr p g f (fun i hi => h i (by omega) (by omega))
      omega
    · have := sumTo_put n f g p (by omega) (fun i hi hne => h i (by omega) hne)
      have := h n (by omega) (fun e => hn e.symm)
      omega
theorem sumTo_one (n : Nat) (f : Nat → Nat) (p : Nat) (hp : p < n) : f p ≤ sumTo n f := by
  have := sumTo_put n f (fun i => if i = p then 0 else f i) p hp (fun i _ hne => by simp [hne])
  simp at this
  omega
theorem sumTo_two (n : Nat) (f : Nat → Nat) (p q : Nat) (hp : p < n) (hq : q < n) (hpq : p ≠ q) : f p + f q ≤ sumTo n f := by
  have h1 := sumTo_put n f (fun i => if i = p then 0 else f i) p hp (fun i _ hne => by simp [hne])
  have h2 := sumTo_one n (fun i => if i = p then 0 else f i) q hq
  simp [Ne.symm hpq] at h1 h2
  omega
theorem sumTo_zero (n : Nat) (f : Nat → Nat) (h : ∀ i, i < n → f i = 0) : sumTo n f = 0 := by
  induction n with
  | zero => rfl
  | succ n ih => simp only [sumTo]; rw [ih (fun i hi => h i (by omega)), h n (by omega)]
/- two places alone. -/
theorem sumTo_only (n : Nat) (f : Nat → Nat) (p q : Nat) (hpq : p ≠ q) (h : ∀ i, i < n → i ≠ p → i ≠ q → f i = 0) : sumTo n f ≤ f p + f q := by
  induction n with
  | zero => simp [sumTo]
  | succ n ih =>
    simp only [sumTo]
    by_cases h1 : n = p
    · subst h1
      by_cases hq : q < n
      · have := sumTo_put n f (fun i => if i = q then 0 else f i) q hq (fun i _ hne => by simp [hne])
        rw [sumTo_zero n (fun i => if i = q then 0 else f i) (fun i hi => by
          by_cases e : i = q
          · simp [e]
          · simp [e]; exact h i (by omega) (by omega) e)] at this
        simp at this
        omega
      · rw [sumTo_zero n f (fun i hi => h i (by omega) (by omega) (by omega))]
        omega
    · by_cases h2 : n = q
      · subst h2
        by_cases hp : p < n
        · have := sumTo_put n f (fun i => if i = p then 0 else f i) p hp (fun i _ hne => by simp [hne])
          rw [sumTo_zero n (fun i => if i = p then 0 else f i) (fun i hi => by
            by_cases e : i = p
            · simp [e]
            · simp [e]; exact h i (by omega) e (by omega))] at this
          simp at this
          omega
        · rw [sumTo_zero n f (fun i hi => h i (by omega) (by omega) (by omega))]
          omega
      · rw [h n (by omega) h1 h2]
        exact ih (fun i hi => h i (by omega))

def inE (S : PSet) (e : Edge) : Bool := S e.1 && S e.2
def cntE (S : PSet) (E : List Edge) : Nat := E.countP (inE S)
def sz (n : Nat) (S : PSet) : Nat := sumTo n (fun p => (S p).toNat)
/- no points have too many. -/
def Sparse (n : Nat) (E : List Edge) : Prop := ∀ S : PSet, 2 ≤ sz n S → cntE S E + 3 ≤ 2 * sz n S
def GraphE (n : Nat) (E : List Edge) : Prop := ∀ e ∈ E, e.1 < n ∧ e.2 < n ∧ e.1 ≠ e.2
def Tight (n : Nat) (A : List Edge) (S : PSet) : Prop := 2 ≤ sz n S ∧ 2 * sz n S ≤ cntE S A + 3
def Cover (n : Nat) (A E : List Edge) : Prop := ∀ e ∈ E, ∃ S : PSet, inE S e = true ∧ Tight n A S
def uni (S T : PSet) : PSet := fun p => S p || T p
def cut (S T : PSet) : PSet := fun p => S p && T p

theorem cntE_cons (S : PSet) (e : Edge) (E : List Edge) : cntE S (e :: E) = cntE S E + (inE S e).toNat := by
  unfold cntE
  rw [List.countP_cons]
  cases inE S e <;> simp
theorem cntE_nil (S : PSet) : cntE S [] = 0 := rfl
theorem cntE_append (S : PSet) (E F : List Edge) : cntE S (E ++ F) = cntE S E + cntE S F := by
  unfold cntE; exact List.countP_append
theorem cntE_perm {S : PSet} {E F : List Edge} (h : E.Perm F) : cntE S E = cntE S F := by
  unfold cntE; exact h.countP_eq _
theorem Sparse.perm {n : Nat} {E F : List Edge} (h : Sparse n E) (hp : E.Perm F) : Sparse n F := fun S h2 => by
  rw [← cntE_perm hp]; exact h S h2
theorem cnt_uni (S T : PSet) : ∀ (E : List Edge), cntE S E + cntE T E ≤ cntE (uni S T) E + cntE (cut S T) E
  | [] => by simp [cntE]
  | e :: E => by
    have := cnt_uni S T E
    simp only [cntE_cons]
    have h : (inE S e).toNat + (inE T e).toNat ≤ (inE (uni S T) e).toNat + (inE (cut S T) e).toNat := by
      unfold inE uni cut
      cases S e.1 <;> cases S e.2 <;> cases T e.1 <;> cases T e.2 <;> decide
    omega
theorem sz_uni (n : Nat) (S T : PSet) : sz n (uni S T) + sz n (cut S T) = sz n S + sz n T := by
  unfold sz
  rw [← sumTo_add, ← sumTo_add]
  exact sumTo_congr n _ _ (fun i _ => by unfold uni cut; cases S i <;> cases T i <;> rfl)
theorem tight_uni {n : Nat} {A : List Edge} (hA : Sparse n A) {S T : PSet} (hS : Tight n A S) (hT : Tight n A T) (h : 2 ≤ sz n (cut S T)) : Tight n A (uni S T) := by
  have h1 := cnt_uni S T A
  have h2 := sz_uni n S T
  have h3 := hA _ h
  have h4 : sz n (cut S T) ≤ sz n S := sumTo_le n _ _ (fun i _ => by unfold cut; cases S i <;> cases T i <;> decide)
  obtain ⟨a1, a2⟩ := hS
  obtain ⟨b1, b2⟩ := hT
  refine ⟨by omega, by omega⟩
theorem two_le_sz {n : Nat} {S : PSet} {a b : Nat} (ha : a < n) (hb : b < n) (hab : a ≠ b) (hSa : S a = true) (hSb : S b = true) : 2 ≤ sz n S := by
  have := sumTo_two n (fun p => (S p).toNat) a b ha hb hab
  simp only [hSa, hSb] at this
  exact this

theorem split_pair {α : Type} (R : α → α → Prop) : ∀ (l : List α), l.Pairwise R ∨ ∃ (a b : α) (l' : List α), ¬ R a b ∧ l'.length + 2 = l.length ∧ ∀ c, c ∈ l ↔ c = a ∨ c = b ∨ c ∈ l'
  | [] => Or.inl List.Pairwise.nil
  | x :: l => by
    by_cases h : ∀ y, y ∈ l → R x y
    · rcases split_pair R l with hl | ⟨a, b, l', hab, hlen, hm⟩
      · exact Or.inl (List.Pairwise.cons h hl)
      · refine Or.inr ⟨a, b, x :: l', hab, by simp; omega, fun c => ?_⟩
        rw [List.mem_cons, hm c, List.mem_cons]
        constructor
        · rintro (h | h | h | h)
          · exact Or.inr (Or.inr (Or.inl h))
          · exact Or.inl h
          · exact Or.inr (Or.inl h)
          · exact Or.inr (Or.inr (Or.inr h))
        · rintro (h | h | h | h)
          · exact Or.inr (Or.inl h)
          · exact Or.inr (Or.inr (Or.inl h))
          · exact Or.inl h
          · exact Or.inr (Or.inr (Or.inr h))
    · obtain ⟨y, hy⟩ := Classical.not_forall.1 h
      obtain ⟨hyl, hxy⟩ := Classical.not_imp.1 hy
      obtain ⟨s, t, rfl⟩ := List.append_of_mem hyl
      refine Or.inr ⟨x, y, s ++ t, hxy, by simp; omega, fun c => ?_⟩
      simp only [List.mem_cons, List.mem_append]
      constructor
      · rintro (h | h | h | h)
        · exact Or.inl h
        · exact Or.inr (Or.inr (Or.inl h))
        · exact Or.inr (Or.inl h)
        · exact Or.inr (Or.inr (Or.inr h))
      · rintro (h | h | h | h)
        · exact Or.inl h
        · exact Or.inr (Or.inr (Or.inl h))
        · exact Or.inr (Or.inl h)
        · exact Or.inr (Or.inr (Or.inr h))
theorem family {n : Nat} {A : List Edge} (hA : Sparse n A) : ∀ (k : Nat) (F : List PSet), F.length = k → (∀ S ∈ F, Tight n A S) →
    ∃ F' : List PSet, (∀ S ∈ F', Tight n A S) ∧ F'.Pairwise (fun S T => sz n (cut S T) ≤ 1) ∧ ∀ e, (∃ S, S ∈ F ∧ inE S e = true) → ∃ S, S ∈ F' ∧ inE S e = true := by
  intro k
  induction k with
  | zero =>
    intro F hk hF
    exact ⟨F, hF, by rw [List.eq_nil_of_length_eq_zero hk]; exact List.Pairwise.nil, fun _ h => h⟩
  | succ k ih =>
    intro F hk hF
    rcases split_pair (fun S T => sz n (cut S T) ≤ 1) F with hp | ⟨S, T, F', hST, hlen, hm⟩
    · exact ⟨F, hF, hp, fun _ h => h⟩
    · have hU := tight_uni hA (hF S ((hm S).2 (Or.inl rfl))) (hF T ((hm T).2 (Or.inr (Or.inl rfl)))) (by omega)
      obtain ⟨G, g1, g2, g3⟩ := ih (uni S T :: F') (by simp; omega) (fun V hV => by
        rcases List.mem_cons.1 hV with rfl | hV
        · exact hU
        · exact hF V ((hm V).2 (Or.inr (Or.inr hV))))
      refine ⟨G, g1, g2, fun e he => g3 e ?_⟩
      obtain ⟨V, hV, hVe⟩ := he
      rcases (hm V).1 hV with rfl | rfl | hV
      · refine ⟨uni V T, List.mem_cons_self, ?_⟩
        unfold inE uni at *
        simp only [Bool.and_eq_true] at hVe
        simp [hVe.1, hVe.2]
      · refine ⟨uni S V, List.mem_cons_self, ?_⟩
        unfold inE uni at *
        simp only [Bool.and_eq_true] at hVe
        simp [hVe.1, hVe.2]
      · exact ⟨V, List.mem_cons_of_mem _ hV, hVe⟩

def total (F : List PSet) (E : List Edge) : Nat := (F.map (fun S => cntE S E)).sum
theorem total_cons : ∀ (F : List PSet) (e : Edge) (E : List Edge), total F (e :: E) = total F E + F.countP (fun S => inE S e)
  | [], _, _ => rfl
  | S :: F, e, E => by
    have h := total_cons F e E
    have h1 : total (S :: F) (e :: E) = cntE S (e :: E) + total F (e :: E) := by simp [total]
    have h2 : total (S :: F) E = cntE S E + total F E := by simp [total]
    rw [h1, h2, h, cntE_cons, List.countP_cons]
    cases inE S e <;> simp <;> omega
theorem total_covered (F : List PSet) : ∀ (E : List Edge), (∀ e ∈ E, ∃ S, S ∈ F ∧ inE S e = true) → E.length ≤ total F E
  | [], _ => Nat.zero_le _
  | e :: E, h => by
    have h1 := total_covered F E (fun d hd => h d (List.mem_cons_of_mem _ hd))
    obtain ⟨S, hS, he⟩ := h e List.mem_cons_self
    have h2 : 0 < F.countP (fun S => inE S e) := List.countP_pos_iff.2 ⟨S, hS, he⟩
    rw [total_cons]
    simp
    omega
theorem count_one {n : Nat} {e : Edge} (h1 : e.1 < n) (h2 : e.2 < n) (h3 : e.1 ≠ e.2) : ∀ (F : List PSet), F.Pairwise (fun S T => sz n (cut S T) ≤ 1) → F.countP (fun S => inE S e) ≤ 1
  | [], _ => by simp
  | S :: F, h => by
    obtain ⟨hS, hF⟩ := List.pairwise_cons.1 h
    rw [List.countP_cons]
    by_cases he : inE S e = true
    · have : F.countP (fun S => inE S e) = 0 := by
        rw [List.countP_eq_zero]
        intro T hT hTe
        have := hS T hT
        have h4 : 2 ≤ sz n (cut S T) := by
          unfold inE at he hTe
          simp only [Bool.and_eq_true] at he hTe
          exact two_le_sz h1 h2 h3 (by simp [cut, he.1, hTe.1]) (by simp [cut, he.2, hTe.2])
        omega
      simp [he, this]
    · have := count_one h1 h2 h3 F hF
      simp only [he]
      simp
      exact this
theorem total_apart {n : Nat} {F : List PSet} (hF : F.Pairwise (fun S T => sz n (cut S T) ≤ 1)) : ∀ (A : List Edge), GraphE n A → total F A ≤ A.length
  | [], _ => by
    unfold total
    clear hF
    induction F with
    | nil => simp
    | cons S F ih => simp [cntE] at ih ⊢; exact ih
  | e :: A, h => by
    have h1 := total_apart hF A (fun d hd => h d (List.mem_cons_of_mem _ hd))
    obtain ⟨a, b, c⟩ := h e List.mem_cons_self
    have h2 := count_one a b c F hF
    rw [total_cons]
    simp
    omega
theorem total_le : ∀ (F : List PSet) (A B : List Edge), (∀ S ∈ F, cntE S B ≤ cntE S A) → total F B ≤ total F A
  | [], _, _, _ => Nat.le_refl _
  | S :: F, A, B, h => by
    have h1 := total_le F A B (fun T hT => h T (List.mem_cons_of_mem _ hT))
    have h2 := h S List.mem_cons_self
    unfold total at *
    simp only [List.map_cons, List.sum_cons]
    omega
/- no edges that don't hang together are more than those by which all of them are told. -/
theorem cover_list {n : Nat} {A : List Edge} : ∀ (B : List Edge), Cover n A B → ∃ F : List PSet, (∀ S ∈ F, Tight n A S) ∧ ∀ e ∈ B, ∃ S, S ∈ F ∧ inE S e = true
  | [], _ => ⟨[], by simp, by simp⟩
  | e :: B, h => by
    obtain ⟨F, f1, f2⟩ := cover_list B (fun d hd => h d (List.mem_cons_of_mem _ hd))
    obtain ⟨S, s1, s2⟩ := h e List.mem_cons_self
    refine ⟨S :: F, fun T hT => ?_, fun d hd => ?_⟩
    · rcases List.mem_cons.1 hT with rfl | hT
      · exact s2
      · exact f1 T hT
    · rcases List.mem_cons.1 hd with rfl | hd
      · exact ⟨S, List.mem_cons_self, s1⟩
      · obtain ⟨T, t1, t2⟩ := f2 d hd
        exact ⟨T, List.mem_cons_of_mem _ t1, t2⟩
theorem cover_le {n : Nat} {A B : List Edge} (hA : Sparse n A) (hB : Sparse n B) (gA : GraphE n A) (h : Cover n A B) : B.length ≤ A.length := by
  obtain ⟨F, f1, f2⟩ := cover_list B h
  obtain ⟨G, g1, g2, g3⟩ := family hA F.length F rfl f1
  have h1 := total_covered G B (fun e he => g3 e (f2 e he))
  have h2 := total_apart g2 A gA
  have h3 := total_le G A B (fun S hS => by
    have a := (g1 S hS).2
    have b := hB S (g1 S hS).1
    omega)
  omega

/- edge by edge, the latest first: is it kept? -/
def keptR : List Edge → List Bool → List Edge
  | e :: E, b :: l => if b then e :: keptR E l else keptR E l
  | _, _ => []
def RunR (n : Nat) : List Edge → List Bool → Prop
  | [], [] => True
  | e :: E, b :: l => RunR n E l ∧ (b = true ↔ Sparse n (e :: keptR E l))
  | _, _ => False
theorem Tight.more {n : Nat} {A : List Edge} {S : PSet} (h : Tight n A S) (e : Edge) : Tight n (e :: A) S :=
  ⟨h.1, by rw [cntE_cons]; have := h.2; omega⟩
def pair (a b : Nat) : PSet := fun p => decide (p = a) || decide (p = b)
theorem sz_pair (n a b : Nat) (hab : a ≠ b) : sz n (pair a b) ≤ 2 := by
  have := sumTo_only n (fun p => (pair a b p).toNat) a b hab (fun i _ h1 h2 => by simp [pair, h1, h2])
  simp [pair] at this
  exact this
theorem sparse_nil (n : Nat) : Sparse n [] := fun S h => by rw [cntE_nil]; omega
theorem kept_facts {n : Nat} : ∀ {E : List Edge} {l : List Bool}, GraphE n E → RunR n E l →
    Sparse n (keptR E l) ∧ Cover n (keptR E l) E ∧ GraphE n (keptR E l) ∧ (∀ e ∈ keptR E l, e ∈ E) ∧ l.length = E.length ∧ (keptR E l).length = l.countP id
  | [], [], _, _ => ⟨sparse_nil n, (by intro e he; cases he), (by intro e he; cases he), (by simp [keptR]), rfl, rfl⟩
  | [], _ :: _, _, h => h.elim
  | _ :: _, [], _, h => h.elim
  | e :: E, b :: l, g, h => by
    obtain ⟨hr, hb⟩ := h
    obtain ⟨k1, k2, k3, k4, k5, k6⟩ := kept_facts (fun d hd => g d (List.mem_cons_of_mem _ hd)) hr
    obtain ⟨g1, g2, g3⟩ := g e List.mem_cons_self
    cases b with
    | true =>
      have hs := hb.1 rfl
      simp only [keptR, if_true]
      refine ⟨hs, fun d hd => ?_, fun d hd => ?_, fun d hd => ?_, by simp [k5], by simp [k6]⟩
      · rcases List.mem_cons.1 hd with rfl | hd
        · refine ⟨pair d.1 d.2, by simp [inE, pair], two_le_sz g1 g2 g3 (by simp [pair]) (by simp [pair]), ?_⟩
          rw [cntE_cons]
          have := sz_pair n d.1 d.2 g3
          have h5 : inE (pair d.1 d.2) d = true := by simp [inE, pair]
          rw [h5]
          simp
          omega
        · obtain ⟨S, s1, s2⟩ := k2 d hd
          exact ⟨S, s1, s2.more e⟩
      · rcases List.mem_cons.1 hd with rfl | hd
        · exact ⟨g1, g2, g3⟩
        · exact k3 d hd
      · rcases List.mem_cons.1 hd with rfl | hd
        · exact List.mem_cons_self
        · exact List.mem_cons_of_mem _ (k4 d hd)
    | false =>
      have hs : ¬ Sparse n (e :: keptR E l) := fun h => by have := hb.2 h; cases this
      simp only [keptR, Bool.false_eq_true, if_false]
      refine ⟨k1, fun d hd => ?_, k3, fun d hd => List.mem_cons_of_mem _ (k4 d hd), by simp [k5], by simp [k6]⟩
      rcases List.mem_cons.1 hd with rfl | hd
      · obtain ⟨S, hS⟩ := Classical.not_forall.1 hs
        obtain ⟨s2, s3⟩ := Classical.not_imp.1 hS
        have s4 := k1 S s2
        rw [cntE_cons] at s3
        refine ⟨S, ?_, s2, ?_⟩
        · cases h6 : inE S d with
          | true => rfl
          | false => rw [h6] at s3; simp at s3; omega
        · have : (inE S d).toNat ≤ 1 := Bool.toNat_le _
          omega
      · exact k2 d hd
/- as many of one order as of another. -/
theorem kept_same {n : Nat} {E E' : List Edge} {l l' : List Bool} (g : GraphE n E) (g' : GraphE n E') (h : RunR n E l) (h' : RunR n E' l') (hm : ∀ e, e ∈ E ↔ e ∈ E') : l.countP id = l'.countP id := by
  obtain ⟨k1, k2, k3, k4, k5, k6⟩ := kept_facts g h
  obtain ⟨j1, j2, j3, j4, j5, j6⟩ := kept_facts g' h'
  have a := cover_le k1 j1 k3 (fun e he => k2 e ((hm e).2 (j4 e he)))
  have b := cover_le j1 k1 j3 (fun e he => j2 e ((hm e).1 (k4 e he)))
  omega
theorem run_one {n : Nat} : ∀ {E : List Edge} {l l' : List Bool}, RunR n E l → RunR n E l' → l = l'
  | [], [], [], _, _ => rfl
  | [], [], _ :: _, _, h => h.elim
  | [], _ :: _, _, h, _ => h.elim
  | _ :: _, [], _, h, _ => h.elim
  | _ :: _, _ :: _, [], _, h => h.elim
  | e :: E, b :: l, b' :: l', ⟨h1, h2⟩, ⟨h3, h4⟩ => by
    obtain rfl := run_one h1 h3
    have : b = b' := by
      cases b <;> cases b' <;> simp_all
    rw [this]
theorem Sparse.less {n : Nat} {e : Edge} {E : List Edge} (h : Sparse n (e :: E)) : Sparse n E := fun S h2 => by
  have := h S h2
  rw [cntE_cons] at this
  omega
/- edges that don't hang together are all kept. -/
theorem run_all {n : Nat} : ∀ {E : List Edge} {l : List Bool}, RunR n E l → Sparse n E → keptR E l = E ∧ l.countP id = E.length ∧ l.length = E.length
  | [], [], _, _ => ⟨rfl, rfl, rfl⟩
  | [], _ :: _, h, _ => h.elim
  | _ :: _, [], h, _ => h.elim
  | e :: E, b :: l, ⟨h1, h2⟩, hs => by
    obtain ⟨a, c, d⟩ := run_all h1 hs.less
    rw [a] at h2
    have := h2.2 hs
    subst this
    simp [keptR, a, c, d]

/- pebbles: of each point how many are loose, and the other ends of the edges that it pays for. -/
def pay (n : Nat) (paid : Nat → List Nat) (S : PSet) : Nat := sumTo n (fun p => if S p then (paid p).countP S else 0)
def Board (n : Nat) (loose : Nat → Nat) (paid : Nat → List Nat) (T : List Edge) : Prop :=
  (∀ p, p < n → loose p + (paid p).length = 2) ∧ (∀ S, pay n paid S = cntE S T) ∧ ∀ p, p < n → ∀ q ∈ paid p, q < n
theorem pay_loose {n : Nat} {loose : Nat → Nat} {paid : Nat → List Nat} {T : List Edge} (h : Board n loose paid T) (S : PSet) :
    pay n paid S + sumTo n (fun p => if S p then loose p else 0) ≤ 2 * sz n S := by
  unfold pay sz
  rw [← sumTo_add, ← sumTo_mul]
  refine sumTo_le n _ _ (fun p hp => ?_)
  have h1 := h.1 p hp
  have h2 := List.countP_le_length (p := S) (l := paid p)
  cases S p <;> simp
  omega
theorem room {n : Nat} {loose : Nat → Nat} {paid : Nat → List Nat} {T : List Edge} (h : Board n loose paid T) (hT : Sparse n T) {e : Edge}
    (h1 : e.1 < n) (h2 : e.2 < n) (h3 : e.1 ≠ e.2) (h4 : 4 ≤ loose e.1 + loose e.2) : Sparse n (e :: T) := by
  intro S hS
  rw [cntE_cons]
  have hs := hT S hS
  cases he : inE S e with
  | false => simp; exact hs
  | true =>
    have h5 := pay_loose h S
    rw [h.2.1 S] at h5
    have h6 := sumTo_two n (fun p => if S p then loose p else 0) e.1 e.2 h1 h2 h3
    unfold inE at he
    simp only [Bool.and_eq_true] at he
    simp only [he.1, he.2, if_true] at h6
    simp
    omega
theorem stuck {n : Nat} {loose : Nat → Nat} {paid : Nat → List Nat} {T : List Edge} (h : Board n loose paid T) {e : Edge}
    (h1 : e.1 < n) (h2 : e.2 < n) (h3 : e.1 ≠ e.2) (h4 : loose e.1 + loose e.2 < 4) {S : PSet} (hS1 : S e.1 = true) (hS2 : S e.2 = true)
    (hc : ∀ p, p < n → S p = true → (p ≠ e.1 → p ≠ e.2 → loose p = 0) ∧ ∀ q ∈ paid p, S q = true) : ¬ Sparse n (e :: T) := by
  intro hs
  have h5 := hs S (two_le_sz h1 h2 h3 hS1 hS2)
  have he : inE S e = true := by simp [inE, hS1, hS2]
  rw [cntE_cons, he, ← h.2.1 S] at h5
  have h6 : pay n paid S + sumTo n (fun p => if S p then loose p else 0) = 2 * sz n S := by
    unfold pay sz
    rw [← sumTo_add, ← sumTo_mul]
    refine sumTo_congr n _ _ (fun p hp => ?_)
    have a := h.1 p hp
    cases hp' : S p with
    | false => simp
    | true =>
      have b : (paid p).countP S = (paid p).length := List.countP_eq_length.2 (fun q hq => (hc p hp hp').2 q hq)
      simp
      omega
  have h7 := sumTo_only n (fun p => if S p then loose p else 0) e.1 e.2 h3 (fun i hi a b => by
    cases hp' : S i with
    | false => simp
    | true => simp; exact (hc i hi hp').1 a b)
  simp only [hS1, hS2, if_true] at h7
  simp at h5
  omega

/- a search that gave nothing. -/
def Shut (loose : Nat → Nat) (paid : Nat → List Nat) (seen seen' : PSet) : Prop :=
  (∀ r, seen r = true → seen' r = true) ∧ ∀ r, seen' r = true → seen r = true ∨ (loose r = 0 ∧ ∀ q ∈ paid r, seen' q = true)
theorem Shut.refl (loose : Nat → Nat) (paid : Nat → List Nat) (seen : PSet) : Shut loose paid seen seen := ⟨fun _ h => h, fun _ h => Or.inl h⟩
theorem Shut.trans {loose : Nat → Nat} {paid : Nat → List Nat} {s1 s2 s3 : PSet} (h : Shut loose paid s1 s2) (k : Shut loose paid s2 s3) : Shut loose paid s1 s3 :=
  ⟨fun r hr => k.1 r (h.1 r hr), fun r hr => by
    rcases k.2 r hr with a | a
    · rcases h.2 r a with b | b
      · exact Or.inl b
      · exact Or.inr ⟨b.1, fun q hq => k.1 q (b.2 q hq)⟩
    · exact Or.inr a⟩
def putP {α : Type} (f : Nat → α) (p : Nat) (v : α) : Nat → α := fun i => if i = p then v else f i
theorem putP_self {α : Type} (f : Nat → α) (p : Nat) (v : α) : putP f p v p = v := by simp [putP]
theorem putP_other {α : Type} (f : Nat → α) {p i : Nat} (v : α) (h : i ≠ p) : putP f p v i = f i := by simp [putP, h]
/- spare: q, met anew, gave nothing. -/
theorem Shut.spare {loose : Nat → Nat} {paid : Nat → List Nat} {s s' : PSet} {q : Nat} (hl : loose q = 0)
    (h : Shut loose paid (putP s q true) s') (hq : ∀ r ∈ paid q, s' r = true) : Shut loose paid s s' ∧ s' q = true :=
  ⟨⟨fun r hr => h.1 r (by by_cases e : r = q <;> simp [putP, e, hr]), fun r hr => by
    rcases h.2 r hr with a | a
    · by_cases e : r = q
      · subst e; exact Or.inr ⟨hl, hq⟩
      · rw [putP_other _ _ e] at a; exact Or.inl a
    · exact Or.inr a⟩, h.1 q (putP_self _ _ _)⟩
/- a search that gave: q gave one pebble; what U has stays. -/
def Gave (n : Nat) (q : Nat) (U : PSet) (loose : Nat → Nat) (paid : Nat → List Nat) (loose' : Nat → Nat) (paid' : Nat → List Nat) : Prop :=
  (∀ r, U r = true → loose' r = loose r ∧ paid' r = paid r) ∧
  (∀ r, r < n → r ≠ q → loose' r + (paid' r).length = loose r + (paid r).length) ∧
  loose' q + (paid' q).length + 1 = loose q + (paid q).length ∧
  (∀ S, pay n paid' S = pay n paid S) ∧ (∀ p, p < n → ∀ r ∈ paid' p, r < n)
theorem Gave.less {n q : Nat} {U V : PSet} {loose loose' : Nat → Nat} {paid paid' : Nat → List Nat} (h : Gave n q U loose paid loose' paid') (hV : ∀ r, V r = true → U r = true) : Gave n q V loose paid loose' paid' :=
  ⟨fun r hr => h.1 r (hV r hr), h.2⟩
theorem gave_loose {n q : Nat} {U : PSet} {loose : Nat → Nat} {paid : Nat → List Nat} (hU : U q = false) (hl : 0 < loose q) (hp : ∀ p, p < n → ∀ r ∈ paid p, r < n) :
    Gave n q U loose paid (putP loose q (loose q - 1)) paid :=
  ⟨fun r hr => ⟨putP_other _ _ (fun e => by rw [e, hU] at hr; cases hr), rfl⟩, fun r _ hr => by rw [putP_other _ _ hr], by rw [putP_self]; omega, fun _ => rfl, hp⟩
theorem countP_eraseIdx (S : PSet) : ∀ (l : List Nat) (i : Nat) (q : Nat), l[i]? = some q → (l.eraseIdx i).countP S + (S q).toNat = l.countP S
  | [], _, _, h => by cases h
  | x :: l, 0, q, h => by
    simp at h
    subst h
    simp only [List.eraseIdx_cons_zero, List.countP_cons]
    cases S x <;> simp
  | x :: l, i + 1, q, h => by
    have := countP_eraseIdx S l i q (by simpa using h)
    simp only [List.eraseIdx_cons_succ, List.countP_cons]
    omega
theorem length_eraseIdx' : ∀ (l : List Nat) (i : Nat) (q : Nat), l[i]? = some q → (l.eraseIdx i).length + 1 = l.length
  | [], _, _, h => by cases h
  | x :: l, 0, q, h => by simp
  | x :: l, i + 1, q, h => by
    have := length_eraseIdx' l i q (by simpa using h)
    simp only [List.eraseIdx_cons_succ, List.length_cons]
    omega
/- relieve: q gave, and pays now for one of p's edges. -/
theorem Gave.flip {n p q i : Nat} {U : PSet} {loose loose' : Nat → Nat} {paid paid' : Nat → List Nat} (h : Gave n q U loose paid loose' paid')
    (hpn : p < n) (hqn : q < n) (hpq : p ≠ q) (hUp : U p = true) (hUq : U q = false) (hi : (paid p)[i]? = some q) :
    Gave n p (putP U p false) loose paid loose' (putP (putP paid' p ((paid' p).eraseIdx i)) q (paid' q ++ [p])) ∧ loose' p = loose p := by
  obtain ⟨h1, h2, h3, h4, h5⟩ := h
  obtain ⟨u1, u2⟩ := h1 p hUp
  have hi' : (paid' p)[i]? = some q := by rw [u2]; exact hi
  have hlen := length_eraseIdx' _ _ _ hi'
  refine ⟨⟨fun r hr => ?_, fun r hr hne => ?_, ?_, fun S => ?_, fun r hr s hs => ?_⟩, u1⟩
  · have hrp : r ≠ p := fun e => by rw [e, putP_self] at hr; cases hr
    rw [putP_other _ _ hrp] at hr
    have hrq : r ≠ q := fun e => by rw [e, hUq] at hr; cases hr
    rw [putP_other _ _ hrq, putP_other _ _ hrp]
    exact h1 r hr
  · by_cases hrq : r = q
    · subst hrq
      rw [putP_self]
      simp
      omega
    · rw [putP_other _ _ hrq, putP_other _ _ hne]
      exact h2 r hr hrq
  · rw [putP_other _ _ hpq, putP_self, u1, ← u2]
    omega
  · rw [← h4 S]
    unfold pay
    have a := sumTo_put n (fun r => if S r then (paid' r).countP S else 0) (fun r => if S r then (putP paid' p ((paid' p).eraseIdx i) r).countP S else 0) p hpn (fun r _ hne => by simp only [putP_other _ _ hne])
    have b := sumTo_put n (fun r => if S r then (putP paid' p ((paid' p).eraseIdx i) r).countP S else 0) (fun r => if S r then (putP (putP paid' p ((paid' p).eraseIdx i)) q (paid' q ++ [p]) r).countP S else 0) q hqn (fun r _ hne => by simp only [putP_other _ _ hne])
    have c := countP_eraseIdx S _ _ _ hi'
    simp only [putP_self, putP_other _ _ (Ne.symm hpq)] at a b
    rw [List.countP_append, List.countP_singleton] at b
    cases hp' : S p <;> cases hq' : S q <;> simp [hp', hq'] at a b c <;> omega
  · by_cases hrq : r = q
    · subst hrq
      rw [putP_self] at hs
      rcases List.mem_append.1 hs with hs | hs
      · exact h5 r hr s hs
      · rw [List.mem_singleton.1 hs]; exact hpn
    · rw [putP_other _ _ hrq] at hs
      by_cases hrp : r = p
      · subst hrp
        rw [putP_self] at hs
        exact h5 r hr s ((List.eraseIdx_sublist _ _).subset hs)
      · rw [putP_other _ _ hrp] at hs
        exact h5 r hr s hs
/- fetch: one more of p's pebbles is loose. -/
theorem Board.fetch {n p : Nat} {U : PSet} {loose loose' : Nat → Nat} {paid paid' : Nat → List Nat} {T : List Edge} (h : Board n loose paid T)
    (g : Gave n p U loose paid loose' paid') : Board n (putP loose' p (loose' p + 1)) paid' T := by
  obtain ⟨h1, h2, h3⟩ := h
  obtain ⟨g1, g2, g3, g4, g5⟩ := g
  refine ⟨fun r hr => ?_, fun S => by rw [g4 S, h2 S], g5⟩
  by_cases e : r = p
  · subst e
    rw [putP_self, ← h1 r hr]
    omega
  · rw [putP_other _ _ e, ← h1 r hr]
    exact g2 r hr e
/- take: a pebble of a lies on the edge. -/
theorem Board.take {n a b : Nat} {loose : Nat → Nat} {paid : Nat → List Nat} {T : List Edge} (h : Board n loose paid T) (ha : a < n) (hb : b < n) (hl : 0 < loose a) :
    Board n (putP loose a (loose a - 1)) (putP paid a (paid a ++ [b])) ((a, b) :: T) := by
  obtain ⟨h1, h2, h3⟩ := h
  refine ⟨fun r hr => ?_, fun S => ?_, fun r hr s hs => ?_⟩
  · by_cases e : r = a
    · subst e
      rw [putP_self, putP_self]
      have := h1 r hr
      simp
      omega
    · rw [putP_other _ _ e, putP_other _ _ e]
      exact h1 r hr
  · rw [cntE_cons, ← h2 S]
    unfold pay
    have c := sumTo_put n (fun r => if S r then (paid r).countP S else 0) (fun r => if S r then (putP paid a (paid a ++ [b]) r).countP S else 0) a ha (fun r _ hne => by simp only [putP_other _ _ hne])
    simp only [putP_self] at c
    rw [List.countP_append, List.countP_singleton] at c
    unfold inE
    cases hp' : S a <;> cases hq' : S b <;> simp [hp', hq'] at c ⊢ <;> omega
  · by_cases e : r = a
    · subst e
      rw [putP_self] at hs
      rcases List.mem_append.1 hs with hs | hs
      · exact h3 r hr s hs
      · rw [List.mem_singleton.1 hs]; exact hb
    · rw [putP_other _ _ e] at hs
      exact h3 r hr s hs
theorem Board.new (n : Nat) : Board n (fun _ => 2) (fun _ => []) [] :=
  ⟨fun _ _ => rfl, fun S => by rw [cntE_nil]; exact sumTo_zero n _ (fun i _ => by simp), fun _ _ q hq => by cases hq⟩
/- both searches gave nothing. -/
theorem both_shut {n : Nat} {loose : Nat → Nat} {paid : Nat → List Nat} {T : List Edge} (h : Board n loose paid T) {a b : Nat}
    (h1 : a < n) (h2 : b < n) (h3 : a ≠ b) (h4 : loose a + loose b < 4) {s1 s2 : PSet}
    (k1 : Shut loose paid (pair a b) s1) (p1 : ∀ q ∈ paid a, s1 q = true) (k2 : Shut loose paid (pair b a) s2) (p2 : ∀ q ∈ paid b, s2 q = true) : ¬ Sparse n ((a, b) :: T) := by
  refine stuck (e := (a, b)) (S := uni s1 s2) h h1 h2 h3 h4 (by simp [uni, k1.1 a (by simp [pair])]) (by simp [uni, k1.1 b (by simp [pair])]) (fun p hp hs => ?_)
  by_cases ea : p = a
  · subst ea
    exact ⟨fun h => (h rfl).elim, fun q hq => by simp [uni, p1 q hq]⟩
  · by_cases eb : p = b
    · subst eb
      exact ⟨fun _ h => (h rfl).elim, fun q hq => by simp [uni, p2 q hq]⟩
    · simp only [uni, Bool.or_eq_true] at hs
      rcases hs with hs | hs
      · rcases k1.2 p hs with c | c
        · simp [pair, ea, eb] at c
        · exact ⟨fun _ _ => c.1, fun q hq => by simp [uni, c.2 q hq]⟩
      · rcases k2.2 p hs with c | c
        · simp [pair, ea, eb] at c
        · exact ⟨fun _ _ => c.1, fun q hq => by simp [uni, c.2 q hq]⟩
/- a point more. -/
theorem sz_succ (n : Nat) (S : PSet) : sz (n + 1) S = sz n S + (S n).toNat := rfl
theorem cnt_small {n : Nat} {S : PSet} (h : sz n S ≤ 1) : ∀ (E : List Edge), GraphE n E → cntE S E = 0
  | [], _ => rfl
  | e :: E, g => by
    obtain ⟨g1, g2, g3⟩ := g e List.mem_cons_self
    rw [cntE_cons, cnt_small h E (fun d hd => g d (List.mem_cons_of_mem _ hd))]
    cases he : inE S e with
    | false => rfl
    | true =>
      unfold inE at he
      simp only [Bool.and_eq_true] at he
      have := two_le_sz g1 g2 g3 he.1 he.2
      omega
theorem cnt_less {S : PSet} {e : Edge} (E : List Edge) : cntE S E ≤ cntE S (e :: E) := by rw [cntE_cons]; omega
theorem henn_two {n a b : Nat} {E : List Edge} (h : Sparse n E) (g : GraphE n E) (ha : a < n) (hb : b < n) (hab : a ≠ b) :
    Sparse (n + 1) ((n, a) :: (b, n) :: E) := by
  intro S hS
  rw [sz_succ] at hS ⊢
  rw [cntE_cons, cntE_cons]
  unfold inE
  simp only
  cases hn : S n with
  | false =>
    rw [hn] at hS
    have := h S (by simpa using hS)
    simp
    omega
  | true =>
    rw [hn] at hS
    by_cases h2 : 2 ≤ sz n S
    · have := h S h2
      cases S a <;> cases S b <;> simp <;> omega
    · rw [cnt_small (n := n) (S := S) (by omega) E g]
      cases h3 : S a <;> cases h4 : S b <;> simp
      · simp at hS; omega
      · simp at hS; omega
      · simp at hS; omega
      · exact absurd (two_le_sz ha hb hab h3 h4) h2
theorem henn_three {n u v a : Nat} {E : List Edge} (h : Sparse n ((u, v) :: E)) (g : GraphE n ((u, v) :: E)) (ha : a < n) (hau : a ≠ u) (hav : a ≠ v) :
    Sparse (n + 1) ((u, n) :: (n, v) :: (a, n) :: E) := by
  intro S hS
  obtain ⟨g1, g2, g3⟩ := g (u, v) List.mem_cons_self
  simp only at g1 g2 g3
  have gE : GraphE n E := fun d hd => g d (List.mem_cons_of_mem _ hd)
  rw [sz_succ] at hS ⊢
  rw [cntE_cons, cntE_cons, cntE_cons]
  unfold inE
  simp only
  cases hn : S n with
  | false =>
    rw [hn] at hS
    have h1 := h S (by simpa using hS)
    rw [cntE_cons] at h1
    simp
    omega
  | true =>
    rw [hn] at hS
    by_cases h2 : 2 ≤ sz n S
    · have h1 := h S h2
      rw [cntE_cons] at h1
      unfold inE at h1
      simp only at h1
      cases hu : S u <;> cases hv : S v <;> cases S a <;> simp [hu, hv] at h1 ⊢ <;> omega
    · rw [cnt_small (n := n) (S := S) (by omega) E gE]
      have a1 : ¬ (S u = true ∧ S v = true) := fun k => h2 (two_le_sz g1 g2 g3 k.1 k.2)
      have a2 : ¬ (S u = true ∧ S a = true) := fun k => h2 (two_le_sz g1 ha (Ne.symm hau) k.1 k.2)
      have a3 : ¬ (S v = true ∧ S a = true) := fun k => h2 (two_le_sz g2 ha (Ne.symm hav) k.1 k.2)
      simp at hS
      cases hu : S u <;> cases hv : S v <;> cases hw : S a <;> simp [hu, hv, hw] at a1 a2 a3 ⊢ <;> omega
theorem sparse_first : Sparse 2 [((0, 1) : Edge)] := by
  intro S hS
  have : sz 2 S = (S 0).toNat + (S 1).toNat := by simp [sz, sumTo]
  have h1 := Bool.toNat_le (S 0)
  have h2 := Bool.toNat_le (S 1)
  have h3 := Bool.toNat_le (inE S (0, 1))
  rw [cntE_cons, cntE_nil]
  omega
theorem Sparse.sub {n : Nat} {E F : List Edge} (h : Sparse n E) (hs : F.Sublist E) : Sparse n F := fun S h2 => by
  have a := h S h2
  have b : cntE S F ≤ cntE S E := hs.countP_le
  omega
/- sets of points as numbers. -/
theorem mask_of (S : PSet) : ∀ n : Nat, ∃ m, m < 2 ^ n ∧ ∀ p, p < n → m.testBit p = S p
  | 0 => ⟨0, by decide, fun p hp => by omega⟩
  | n + 1 => by
    obtain ⟨m, hm, h⟩ := mask_of S n
    cases hs : S n with
    | false =>
      refine ⟨m, by rw [Nat.pow_succ]; omega, fun p hp => ?_⟩
      by_cases e : p = n
      · rw [e, hs, Nat.testBit_lt_two_pow hm]
      · exact h p (by omega)
    | true =>
      refine ⟨2 ^ n + m, by rw [Nat.pow_succ]; omega, fun p hp => ?_⟩
      by_cases e : p = n
      · rw [e, hs, Nat.testBit_two_pow_add_eq, Nat.testBit_lt_two_pow hm]; rfl
      · rw [Nat.testBit_two_pow_add_gt (by omega)]; exact h p (by omega)
theorem cntE_congr {n : Nat} {S S' : PSet} (h : ∀ p, p < n → S p = S' p) : ∀ (E : List Edge), GraphE n E → cntE S E = cntE S' E
  | [], _ => rfl
  | e :: E, g => by
    obtain ⟨g1, g2, g3⟩ := g e List.mem_cons_self
    rw [cntE_cons, cntE_cons, cntE_congr h E (fun d hd => g d (List.mem_cons_of_mem _ hd))]
    unfold inE
    rw [h _ g1, h _ g2]
theorem sz_congr {n : Nat} {S S' : PSet} (h : ∀ p, p < n → S p = S' p) : sz n S = sz n S' :=
  sumTo_congr n _ _ (fun i hi => by rw [h i hi])
theorem sparse_masks {n : Nat} {E : List Edge} (g : GraphE n E) (h : ∀ m, m < 2 ^ n → 2 ≤ sz n m.testBit → cntE m.testBit E + 3 ≤ 2 * sz n m.testBit) : Sparse n E := by
  intro S hS
  obtain ⟨m, hm, he⟩ := mask_of S n
  have a := h m hm (by rw [sz_congr he]; exact hS)
  rw [sz_congr he, cntE_congr he E g] at a
  exact a
end Go.Proofs.Ytgnmjaponiclhaa
