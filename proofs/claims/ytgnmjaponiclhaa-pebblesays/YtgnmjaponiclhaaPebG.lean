/- package pebble: which edges are free, and how many. -/
import Derived.Test.YtgnmjaponiclhaaPebT
import Derived.Test.YtgnmjaponiclhaaPebC
import Derived.Test.YtgnmjaponiclhaaPebN
namespace Go.Proofs.Ytgnmjaponiclhaa
open Go.RowKit Go.MapKept
set_option linter.unusedVariables false
set_option linter.unusedSimpArgs false

def toE (e : Int × Int) : Edge := (e.1.toNat, e.2.toNat)
def Good (n : Nat) (es : List (Int × Int)) : Prop := ∀ e ∈ es, (0 ≤ e.1 ∧ e.1 < n) ∧ (0 ≤ e.2 ∧ e.2 < n) ∧ e.1 ≠ e.2
/-- the first k edges, the latest first -/
def revE (es : List (Int × Int)) (k : Nat) : List Edge := ((es.take k).map toE).reverse
theorem revE_succ {es : List (Int × Int)} {k : Nat} {f : Int × Int} (hf : es[k]? = some f) : revE es (k + 1) = toE f :: revE es k := by
  unfold revE
  rw [List.take_add_one, hf]
  simp
theorem revE_all (es : List (Int × Int)) : revE es es.length = (es.map toE).reverse := by
  unfold revE
  rw [List.take_length]
theorem Good.graph {n : Nat} {es : List (Int × Int)} (h : Good n es) (k : Nat) : GraphE n (revE es k) := by
  intro e he
  unfold revE at he
  rw [List.mem_reverse] at he
  obtain ⟨f, hf, rfl⟩ := List.mem_map.1 he
  obtain ⟨h1, h2, h3⟩ := h f (List.mem_of_mem_take hf)
  unfold toE
  refine ⟨by simp only; omega, by simp only; omega, ?_⟩
  simp only
  omega
theorem Good.at {n : Nat} {es : List (Int × Int)} (h : Good n es) {k : Nat} {f : Int × Int} (hf : es[k]? = some f) : ∃ a b : Nat, f = ((a : Int), (b : Int)) ∧ a < n ∧ b < n ∧ a ≠ b ∧ toE f = (a, b) := by
  obtain ⟨h1, h2, h3⟩ := h f (List.mem_of_getElem? hf)
  refine ⟨f.1.toNat, f.2.toNat, ?_, by omega, by omega, by omega, rfl⟩
  obtain ⟨x, y⟩ := f
  simp only at h1 h2
  simp only [Prod.mk.injEq]
  omega
/-- what a board holds behind k edges -/
def After (n : Nat) (es : List (Int × Int)) (k : Nat) (l : List Bool) (loose : Nat → Nat) (paid : Nat → List Nat) : Prop := RunR n (revE es k) l ∧ Board n loose paid (keptR (revE es k) l)
theorem After.start (n : Nat) (es : List (Int × Int)) : After n es 0 [] (fun _ => 2) (fun _ => []) := ⟨trivial, Board.new n⟩
theorem After.sparse {n : Nat} {es : List (Int × Int)} {k : Nat} {l : List Bool} {loose : Nat → Nat} {paid : Nat → List Nat} (h : After n es k l loose paid) (hg : Good n es) : Sparse n (keptR (revE es k) l) := (kept_facts (hg.graph k) h.1).1
theorem After.step {n : Nat} {es : List (Int × Int)} {k a b : Nat} {l : List Bool} {r : Bool} {loose loose' : Nat → Nat} {paid paid' : Nat → List Nat} {f : Int × Int} (h : After n es k l loose paid) (hf : es[k]? = some f) (he : toE f = (a, b)) (ht : TakeSays n a b (keptR (revE es k) l) r loose' paid') : After n es (k + 1) (r :: l) loose' paid' := by
  unfold After
  rw [revE_succ hf, he]
  refine ⟨⟨h.1, ht.1⟩, ?_⟩
  have := ht.2
  cases r with
  | true => exact this
  | false => exact this
set_option maxRecDepth 100000 in
set_option maxHeartbeats 4000000 in
theorem peb_count (n : Nat) (hn : n ≤ 10) (a : Option Addr) (cap : Nat) (es : List (Int × Int)) (w : World) (he : ERow w a cap es) (hg : Good n es) (hlen : es.length ≤ 45) :
    Calls Try.prog 25 #[.int .i64 (n : Int), .slice a es.length cap] w fun e w' => ∃ l, e = .returned (.int .i64 (l.countP id : Nat)) ∧ RunR n (es.map toE).reverse l ∧ Below w.heap.size w w' := by
  have HE := Hid.intro he
  have HG := Hid.intro hg
  have HN := Hid.intro (peb_new n hn w)
  clear he hg
  go_enter Try.func25, Try.ntmps25
  go_wp2_with fail
  go_fit HN.out
  rintro e w1 ⟨g, gl, gp, gm, B, rfl, hpb, hbw⟩
  have HP := Hid.intro hpb
  have HB := Hid.intro hbw
  clear hpb hbw
  go_wp2_with fail
  go_loopw [13, 6] (fun iv fv wr => ∃ (k : Nat) (l : List Bool) (hv : Nat → Value) (loose : Nat → Nat) (paid : Nat → List Nat) (seen : PSet), k ≤ es.length ∧ iv = .int .i64 k ∧ fv = .int .i64 (l.countP id : Nat) ∧ l.countP id ≤ k ∧ After n es k l loose paid ∧ PB wr w.heap.size B n g gl gp gm hv loose paid seen ∧ Below w.heap.size w wr) (fun iv _ _ => es.length - (intOf iv).toNat)
  case atStart => exact ⟨0, [], _, _, _, _, by omega, rfl, rfl, by simp, After.start n es, HP.out, HB.out⟩
  case round =>
    obtain ⟨k, l, hv, loose, paid, seen, hk, rfl, rfl, hcl, haf, hpb, hbw⟩ := hrel
    obtain ⟨c, hc⟩ : ∃ c, l.countP id = c := ⟨_, rfl⟩
    rw [hc] at hcl
    have HAF := Hid.intro haf
    have HPB := Hid.intro hpb
    have HBW := Hid.intro hbw
    have HC := Hid.intro hc
    rw [hc]
    clear haf hpb hbw hc
    by_cases hlt : k < es.length
    · obtain ⟨f, hf⟩ : ∃ f, es[k]? = some f := ⟨es[k], List.getElem?_eq_getElem hlt⟩
      obtain ⟨x, y, hxy, hx, hy, hne, hte⟩ := HG.out.at hf
      obtain ⟨fb, off, rfl, hfb, d0, d1⟩ := (HE.out.below HBW.out).cell k f hf
      rw [hxy] at d0 d1
      have HFK := Hid.intro hf
      have HTE := Hid.intro hte
      obtain ⟨V1, hV1⟩ : ∃ V1, wr.alloc (.cells #[.int .i64 (x : Int), .int .i64 (y : Int)] 29) = V1 := ⟨_, rfl⟩
      have hpv : PB V1 w.heap.size B n g gl gp gm hv loose paid seen := by rw [← hV1]; exact HPB.out.alloc _
      have HBV : Hid (Below w.heap.size w V1) := Hid.intro (by rw [← hV1]; exact HBW.out.alloc HBW.out.size _)
      have HT := Hid.intro (peb_take hn V1 hv loose paid seen _ x y hpv HAF.out.2 (HAF.out.sparse HG.out) hx hy hne)
      have hsv : SB V1 wr.heap.size 29 #[.int .i64 (x : Int), .int .i64 (y : Int)] := by rw [← hV1]; exact SB.new wr _ _
      have p0 : V1.cell? ⟨wr.heap.size, 0, none⟩ = some (.int .i64 (x : Int)) := hsv.cell 0
      have p1 : V1.cell? ⟨wr.heap.size, 1, none⟩ = some (.int .i64 (y : Int)) := hsv.cell 1
      have q1 : ((k : Int) < (es.length : Int)) := by omega
      have HV1 := Hid.intro hV1
      rw [← hV1] at p0 p1
      clear hf hxy hte hV1 hpv hsv hne
      go_wp2_with fail
      rw [HV1.out]
      go_fit HT.out
      rintro e w2 ⟨r, hv2, loose2, paid2, seen2, rfl, hpb2, hkp2, hts⟩
      have HP2 := Hid.intro hpb2
      have HB2 := Hid.intro (HBV.out.trans hkp2.below)
      have HA2 := Hid.intro (HAF.out.step HFK.out HTE.out hts)
      clear hpb2 hkp2 hts d0 d1 p0 p1
      cases r with
      | true =>
        go_wp2
        go_roundw
        case rel => exact ⟨k + 1, true :: l, hv2, loose2, paid2, seen2, by omega, by go_num, by rw [List.countP_cons, HC.out]; simp, by rw [List.countP_cons, HC.out]; simp; omega, HA2.out, HP2.out, HB2.out⟩
        case measure => simp [intOf]; omega
      | false =>
        go_wp2
        go_roundw
        case rel => exact ⟨k + 1, false :: l, hv2, loose2, paid2, seen2, by omega, by go_num, by rw [List.countP_cons, HC.out]; simp, by rw [List.countP_cons, HC.out]; simp; omega, HA2.out, HP2.out, HB2.out⟩
        case measure => simp [intOf]; omega
    · obtain rfl : k = es.length := by omega
      go_wp2
      go_ret
      exact ⟨l, by rw [HC.out]; rfl, by rw [← revE_all]; exact HAF.out.1, HBW.out⟩
end Go.Proofs.Ytgnmjaponiclhaa
