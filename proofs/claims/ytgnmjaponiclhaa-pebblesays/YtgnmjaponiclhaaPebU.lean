/- rafterref: whether edges hang together; how many are true. -/
import Derived.Test.YtgnmjaponiclhaaPebG
import Derived.Laws.BitsLemmas
namespace Go.Proofs.Ytgnmjaponiclhaa
open Go.RowKit Go.MapKept
set_option linter.unusedVariables false
set_option linter.unusedSimpArgs false

theorem i64_and1 (n : Int) : bits .and .i64 n 1 = n % 2 := by
  have h1 : (BitVec.ofInt 64 1).toNat = 2 ^ 1 - 1 := by decide
  have key : (BitVec.ofInt 64 n &&& BitVec.ofInt 64 1).toNat = (n % ((2 ^ 64 : Nat) : Int)).toNat % 2 ^ 1 := by
    rw [BitVec.toNat_and, BitVec.toNat_ofInt, h1, Nat.and_two_pow_sub_one_eq_mod]
  show IntKind.i64.wrap ((BitVec.ofInt 64 n &&& BitVec.ofInt 64 1).toNat : Nat) = n % 2
  rw [key, IntKind.wrap_i64]
  omega
theorem bit_at (m k : Nat) : bits BinOp.and IntKind.i64 ((m : Int) / 2 ^ k) 1 = (((m.testBit k).toNat : Nat) : Int) := by
  rw [i64_and1, Nat.testBit_eq_decide_div_mod_eq]
  have e : ((m : Int) / 2 ^ k) = ((m / 2 ^ k : Nat) : Int) := by simp
  rw [e]
  have h2 : m / 2 ^ k % 2 = 0 ∨ m / 2 ^ k % 2 = 1 := by omega
  rcases h2 with h | h
  · rw [h]; simp; omega
  · rw [h]; simp; omega
theorem pow_small (n : Nat) (h1 : 1 ≤ n) (h2 : n ≤ 10) : wrap64 ((2 : Int) ^ n) = ((2 ^ n : Nat) : Int) ∧ 2 ^ n ≤ 1024 := by
  have : n = 1 ∨ n = 2 ∨ n = 3 ∨ n = 4 ∨ n = 5 ∨ n = 6 ∨ n = 7 ∨ n = 8 ∨ n = 9 ∨ n = 10 := by omega
  rcases this with rfl | rfl | rfl | rfl | rfl | rfl | rfl | rfl | rfl | rfl <;> exact ⟨by unfold wrap64; decide, by decide⟩
set_option maxRecDepth 100000 in
set_option maxHeartbeats 4000000 in
theorem ref_Together (n : Nat) (hn1 : 1 ≤ n) (hn : n ≤ 10) (a : Option Addr) (cap : Nat) (es : List (Int × Int)) (w : World) (he : ERow w a cap es) (hg : Good n es) (hlen : es.length ≤ 45) :
    Calls Try.prog 20 #[.int .i64 (n : Int), .slice a es.length cap] w fun e w' => ∃ b, e = .returned (.bool b) ∧ (b = false ↔ Sparse n (es.map toE)) ∧ Below w.heap.size w w' := by
  have HE := Hid.intro he
  have HG := Hid.intro hg
  obtain ⟨P, hP⟩ : ∃ P : Nat, P = 2 ^ n := ⟨_, rfl⟩
  obtain ⟨e1, hP2⟩ := pow_small n hn1 hn
  rw [← hP] at e1 hP2
  have HP := Hid.intro hP
  clear he hg hP
  go_enter Try.func20, Try.ntmps20
  go_wp2_with fail
  go_loopw [5] (fun sv wr => ∃ m : Nat, m ≤ P ∧ sv = .int .i64 m ∧ (∀ q, q < m → 2 ≤ sz n q.testBit → cntE q.testBit (es.map toE) + 3 ≤ 2 * sz n q.testBit) ∧ Below w.heap.size w wr) (fun sv _ => P - (intOf sv).toNat)
  case atStart => exact ⟨0, Nat.zero_le _, rfl, fun q hq => by omega, Below.refl _ _⟩
  case round =>
    obtain ⟨m, hm, rfl, hall, hbw⟩ := hrel
    have HALL := Hid.intro hall
    have HBW := Hid.intro hbw
    clear hall hbw
    by_cases hlt : m < P
    · have q1 : ((m : Int) < (P : Int)) := by omega
      go_wp2_with fail
      go_loopw [8, 6] (fun kv pv wi => ∃ k : Nat, k ≤ n ∧ kv = .int .i64 k ∧ pv = .int .i64 (sz k m.testBit : Nat) ∧ sz k m.testBit ≤ k ∧ wi = wr) (fun kv _ _ => n - (intOf kv).toNat)
      case atStart => exact ⟨0, by omega, rfl, rfl, Nat.le_refl _, rfl⟩
      case round =>
        obtain ⟨k, hk, rfl, rfl, hsk, rfl⟩ := hrel
        obtain ⟨x, hx⟩ : ∃ x, sz k m.testBit = x := ⟨_, rfl⟩
        rw [hx] at hsk ⊢
        have HX := Hid.intro hx
        clear hx
        by_cases hkn : k < n
        · have q2 : ((k : Int) < (n : Int)) := by omega
          obtain ⟨t, ht⟩ : ∃ t, (m.testBit k).toNat = t := ⟨_, rfl⟩
          have hbit := bit_at m k
          have ht1 : t ≤ 1 := by rw [← ht]; exact Bool.toNat_le _
          rw [ht] at hbit
          have HT : Hid (sz (k + 1) m.testBit = x + t) := Hid.intro (by rw [sz_succ, HX.out, ht])
          clear ht
          go_wp2
          go_roundw
          case rel => exact ⟨k + 1, by omega, by go_num, by rw [HT.out]; go_num, by rw [HT.out]; omega, trivial⟩
          case measure => simp [intOf]; omega
        · obtain rfl : k = n := by omega
          go_wp2_with fail
          go_loopw [30, 7] (fun iv cv wi => ∃ i : Nat, i ≤ es.length ∧ iv = .int .i64 i ∧ cv = .int .i64 (cntE m.testBit (revE es i) : Nat) ∧ cntE m.testBit (revE es i) ≤ i ∧ Below w.heap.size w wi) (fun iv _ _ => es.length - (intOf iv).toNat)
          case atStart => exact ⟨0, by omega, rfl, rfl, Nat.le_refl _, HBW.out⟩
          case round =>
            obtain ⟨i, hi, rfl, rfl, hci, hbi⟩ := hrel
            obtain ⟨y, hy⟩ : ∃ y, cntE m.testBit (revE es i) = y := ⟨_, rfl⟩
            rw [hy] at hci ⊢
            have HY := Hid.intro hy
            have HBI := Hid.intro hbi
            clear hy hbi
            by_cases hie : i < es.length
            · obtain ⟨f, hf⟩ : ∃ f, es[i]? = some f := ⟨es[i], List.getElem?_eq_getElem hie⟩
              obtain ⟨ea, eb, hxy, hx, hy, hne, hte⟩ := HG.out.at hf
              obtain ⟨fb, off, rfl, hfb, d0, d1⟩ := (HE.out.below HBI.out).cell i f hf
              rw [hxy] at d0 d1
              obtain ⟨V1, hV1⟩ : ∃ V1, wr.alloc (.cells #[.int .i64 (ea : Int), .int .i64 (eb : Int)] 29) = V1 := ⟨_, rfl⟩
              have HBV : Hid (Below w.heap.size w V1) := Hid.intro (by rw [← hV1]; exact HBI.out.alloc HBI.out.size _)
              have hsv : SB V1 wr.heap.size 29 #[.int .i64 (ea : Int), .int .i64 (eb : Int)] := by rw [← hV1]; exact SB.new wr _ _
              have p0 : V1.cell? ⟨wr.heap.size, 0, none⟩ = some (.int .i64 (ea : Int)) := hsv.cell 0
              have p1 : V1.cell? ⟨wr.heap.size, 1, none⟩ = some (.int .i64 (eb : Int)) := hsv.cell 1
              rw [← hV1] at p0 p1
              have q3 : ((i : Int) < (es.length : Int)) := by omega
              have hcn : cntE m.testBit (revE es (i + 1)) = y + (m.testBit ea && m.testBit eb).toNat := by rw [revE_succ hf, cntE_cons, HY.out, hte]; rfl
              have HCN := Hid.intro hcn
              have HV1 := Hid.intro hV1
              have ba := bit_at m ea
              have bb := bit_at m eb
              clear hf hxy hte hV1 hsv hne hcn
              cases h1 : m.testBit ea with
              | true =>
                cases h2 : m.testBit eb with
                | true =>
                  rw [h1] at ba
                  rw [h2] at bb
                  rw [h1, h2] at HCN
                  simp only [Bool.toNat_true] at ba bb
                  clear h1 h2
                  go_wp2
                  go_roundw
                  case rel => exact ⟨i + 1, by omega, by go_num, by rw [HCN.out]; rfl, by rw [HCN.out]; simp; omega, by rw [HV1.out]; exact HBV.out⟩
                  case measure => simp [intOf]; omega
                | false =>
                  rw [h1] at ba
                  rw [h2] at bb
                  rw [h1, h2] at HCN
                  simp only [Bool.toNat_true, Bool.toNat_false] at ba bb
                  clear h1 h2
                  go_wp2
                  go_roundw
                  case rel => exact ⟨i + 1, by omega, by go_num, by rw [HCN.out]; rfl, by rw [HCN.out]; simp; omega, by rw [HV1.out]; exact HBV.out⟩
                  case measure => simp [intOf]; omega
              | false =>
                rw [h1] at ba
                rw [h1] at HCN
                simp only [Bool.toNat_false] at ba
                clear h1 bb
                go_wp2
                go_roundw
                case rel => exact ⟨i + 1, by omega, by go_num, by rw [HCN.out]; rfl, by rw [HCN.out]; simp; omega, by rw [HV1.out]; exact HBV.out⟩
                case measure => simp [intOf]; omega
            · obtain rfl : i = es.length := by omega
              have hcy : cntE m.testBit (es.map toE) = y := by rw [← HY.out, revE_all]; exact (cntE_perm (List.reverse_perm _)).symm
              have HCY := Hid.intro hcy
              clear hcy
              by_cases hp : 2 ≤ x
              · by_cases hq : 2 * x < y + 3
                · have b1 : ((x : Int) ≥ 2) := by omega
                  have b2 : ((y : Int) > 2 * (x : Int) - 3) := by omega
                  have HNS : Hid (¬ Sparse k (es.map toE)) := Hid.intro (fun hs => by
                    have := hs m.testBit (by rw [HX.out]; exact hp)
                    rw [HCY.out, HX.out] at this
                    omega)
                  go_wp2
                  go_ret
                  first
                    | exact ⟨true, rfl, ⟨(fun h => by cases h), fun h => absurd h HNS.out⟩, HBI.out⟩
                    | exact Or.inr ⟨rfl, ⟨(fun h => by cases h), fun h => absurd h HNS.out⟩, HBI.out⟩
                    | (refine ⟨?_, HBI.out⟩; simp; exact HNS.out)
                    | (simp; exact ⟨HNS.out, HBI.out⟩)
                · have b1 : ((x : Int) ≥ 2) := by omega
                  have b2 : ¬ ((y : Int) > 2 * (x : Int) - 3) := by omega
                  go_wp2
                  go_roundw
                  case rel =>
                    refine ⟨m + 1, by omega, by go_num, fun q hq2 h2 => ?_, HBI.out⟩
                    by_cases e : q = m
                    · subst e
                      rw [HCY.out, HX.out]
                      omega
                    · exact HALL.out q (by omega) h2
                  case measure => simp [intOf]; omega
              · have b1 : ¬ ((x : Int) ≥ 2) := by omega
                go_wp2
                go_roundw
                case rel =>
                  refine ⟨m + 1, by omega, by go_num, fun q hq2 h2 => ?_, HBI.out⟩
                  by_cases e : q = m
                  · subst e
                    rw [HX.out] at h2
                    omega
                  · exact HALL.out q (by omega) h2
                case measure => simp [intOf]; omega
    · obtain rfl : m = P := by omega
      have HSP : Hid (Sparse n (es.map toE)) := Hid.intro (sparse_masks (fun e he => by
        have := HG.out.graph es.length e
        rw [revE_all, List.mem_reverse] at this
        exact this he) (fun q hq h2 => HALL.out q (by rw [HP.out]; exact hq) h2))
      have q1 : ¬ ((m : Int) < (m : Int)) := by omega
      go_wp2
      go_ret
      first
        | exact ⟨false, rfl, ⟨fun _ => HSP.out, fun _ => rfl⟩, HBW.out⟩
        | exact Or.inl ⟨rfl, ⟨fun _ => HSP.out, fun _ => rfl⟩, HBW.out⟩
        | (simp; exact ⟨HSP.out, HBW.out⟩)
/-- a list of bools in memory -/
def BLst (w : World) (v : Value) (l : List Bool) : Prop := ∃ a cap, v = .slice a l.length cap ∧ ∀ i q, l[i]? = some q → ∃ b off, a = some ⟨b, off, none⟩ ∧ b < w.heap.size ∧ w.cell? ⟨b, off + i, none⟩ = some (.bool q)
set_option maxRecDepth 100000 in
theorem ref_Many (v : Value) (l : List Bool) (w : World) (h : BLst w v l) (hl : l.length ≤ 45) :
    Calls Try.prog 18 #[v] w fun e w' => e = .returned (.int .i64 (l.countP id : Nat)) ∧ w' = w := by
  obtain ⟨a, cap, rfl, hc⟩ := h
  have HC := Hid.intro hc
  clear hc
  go_enter Try.func18, Try.ntmps18
  go_wp2_with fail
  go_loopw [8, 3] (fun iv cv wi => ∃ i : Nat, i ≤ l.length ∧ iv = .int .i64 i ∧ cv = .int .i64 ((l.take i).countP id : Nat) ∧ (l.take i).countP id ≤ i ∧ wi = w) (fun iv _ _ => l.length - (intOf iv).toNat)
  case atStart => exact ⟨0, by omega, rfl, rfl, Nat.le_refl _, rfl⟩
  case round =>
    obtain ⟨i, hi, rfl, rfl, hci, rfl⟩ := hrel
    obtain ⟨y, hy⟩ : ∃ y, (l.take i).countP id = y := ⟨_, rfl⟩
    rw [hy] at hci ⊢
    have HY := Hid.intro hy
    clear hy
    by_cases hie : i < l.length
    · obtain ⟨f, hf⟩ : ∃ f, l[i]? = some f := ⟨l[i], List.getElem?_eq_getElem hie⟩
      obtain ⟨b, off, rfl, hb, d0⟩ := HC.out i f hf
      have q3 : ((i : Int) < (l.length : Int)) := by omega
      have HCN : Hid ((l.take (i + 1)).countP id = y + f.toNat) := Hid.intro (by rw [List.take_add_one, hf, List.countP_append, HY.out]; cases f <;> rfl)
      clear hf
      cases f with
      | true =>
        go_wp2
        go_roundw
        case rel => exact ⟨i + 1, by omega, by go_num, by rw [HCN.out]; rfl, by rw [HCN.out]; simp; omega, by first | rfl | trivial⟩
        case measure => simp [intOf]; omega
      | false =>
        go_wp2
        go_roundw
        case rel => exact ⟨i + 1, by omega, by go_num, by rw [HCN.out]; rfl, by rw [HCN.out]; simp; omega, by first | rfl | trivial⟩
        case measure => simp [intOf]; omega
    · obtain rfl : i = l.length := by omega
      have HY2 : Hid (l.countP id = y) := Hid.intro (by rw [← HY.out, List.take_length])
      go_wp2
      go_ret
      exact ⟨by rw [HY2.out]; rfl, rfl⟩
end Go.Proofs.Ytgnmjaponiclhaa
