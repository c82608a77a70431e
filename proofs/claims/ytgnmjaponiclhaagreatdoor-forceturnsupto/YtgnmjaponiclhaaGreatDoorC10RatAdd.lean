/- rafterbig's Rat: Mul, Quo, Add, Sub: in whatever order new Ints are made. rafterbig's Rat: Add, Sub: in whatever order new Ints are made. -/
import Derived.Test.YtgnmjaponiclhaaGreatDoorC09RatBag
import Derived.Deep.RegionHeld3
namespace Go.Proofs.YtgnmjaponiclhaaGreatDoor
open Go.RowKit
set_option linter.unusedVariables false
set_option linter.unusedSimpArgs false

theorem size_drew (w : World) : w.drew.heap.size = w.heap.size := rfl


set_option maxRecDepth 100000 in
set_option maxHeartbeats 4000000 in
theorem rat_mul (bz bx bv j k : Nat) (p q : Rat) (w : World) (hz : (Thing.room bz).holds w) (hx : RatVal w bx p) (hy : RatVal w bv q) (hp : Fits p j) (hq : Fits q k) (hj : j + k < 274877906000) :
    Calls Tryz.prog 81 #[.pointer (some ⟨bz, 0, none⟩), .pointer (some ⟨bx, 0, none⟩), .pointer (some ⟨bv, 0, none⟩)] w (RatOk w bz (p * q)) := by
  have hd1 := den_pos' p
  have hd2 := den_pos' q
  have HPOS := Hid.intro (Int.mul_pos hd1 hd2)
  have HE := Hid.intro (mul_mk p q)
  have HB := Hid.intro (Bag.two hx hy hz hp hq)
  clear hx hy hz hp hq hd1 hd2
  go_enter Tryz.func81, Tryz.ntmps81
  go_wp2
  go_region_held3 (fun _ => True) (trivial) (first
    |
     (go_at_call 136
      apply Calls.mono
      apply Bag.mul (w0 := w)
      (focus (repeat (first | exact HB.out | apply Bag.alloc | apply Bag.drew)))
      (focus (simp only [mem_less, List.mem_cons, List.not_mem_nil, or_false, size_drew, World.size_alloc, true_or, or_true, true_and, and_true] <;> omega))
      (focus (repeat (first | exact List.Mem.head _ | apply List.Mem.tail)))
      (focus (repeat (first | exact List.Mem.head _ | apply List.Mem.tail)))
      omega
      rintro e w1 ⟨rfl, hbag, hsz, hlt⟩
      clear HB
      have HB := Hid.intro hbag
      clear hbag
      (try simp only [size_drew, World.size_alloc] at hsz))
    |
     (go_at_call 137
      apply Calls.mono
      apply Bag.den (w0 := w)
      (focus (repeat (first | exact HB.out | apply Bag.alloc | apply Bag.drew)))
      (focus (repeat (first | exact List.Mem.head _ | apply List.Mem.tail)))
      rintro e w1 ⟨b1, o1, rfl, hbag, hsz⟩
      clear HB
      have HB := Hid.intro hbag
      clear hbag
      (try simp only [size_drew, World.size_alloc] at hsz))
    |
     (go_at_call 136
      apply Calls.mono
      apply Bag.mul (w0 := w)
      (focus (repeat (first | exact HB.out | apply Bag.alloc | apply Bag.drew)))
      (focus (simp only [mem_less, List.mem_cons, List.not_mem_nil, or_false, size_drew, World.size_alloc, true_or, or_true, true_and, and_true] <;> omega))
      (focus (repeat (first | exact List.Mem.head _ | apply List.Mem.tail)))
      (focus (repeat (first | exact List.Mem.head _ | apply List.Mem.tail)))
      omega
      rintro e w1 ⟨rfl, hbag, hsz, hlt⟩
      clear HB
      have HB := Hid.intro hbag
      clear hbag
      (try simp only [size_drew, World.size_alloc] at hsz))
    |
     (go_at_call 88
      apply Calls.mono
      apply Bag.setFrac (w0 := w)
      (focus (repeat (first | exact HB.out | apply Bag.alloc | apply Bag.drew)))
      (focus (repeat (first | exact List.Mem.head _ | apply List.Mem.tail)))
      (focus (repeat (first | exact List.Mem.head _ | apply List.Mem.tail)))
      (focus (repeat (first | exact List.Mem.head _ | apply List.Mem.tail)))
      exact HPOS.out
      omega
      omega
      rintro e w5 hok
      have HF := Hid.intro hok
      obtain ⟨rfl, hon, hr⟩ := hok
      clear HB hon hr)
    )
  all_goals
    go_wp2
    go_ret
    rw [← HE.out]; exact HF.out

set_option maxRecDepth 100000 in
set_option maxHeartbeats 4000000 in
theorem rat_quo (bz bx bv j k : Nat) (p q : Rat) (w : World) (hz : (Thing.room bz).holds w) (hx : RatVal w bx p) (hy : RatVal w bv q) (hp : Fits p j) (hq : Fits q k) (hj : j + k < 274877906000) (hq0 : 0 < q.num) :
    Calls Tryz.prog 161 #[.pointer (some ⟨bz, 0, none⟩), .pointer (some ⟨bx, 0, none⟩), .pointer (some ⟨bv, 0, none⟩)] w (RatOk w bz (p / q)) := by
  have hd1 := den_pos' p
  have hd2 := den_pos' q
  have HPOS := Hid.intro (Int.mul_pos hd1 hq0)
  have HE := Hid.intro (quo_mk p q hq0)
  have HB := Hid.intro (Bag.two hx hy hz hp hq)
  clear hx hy hz hp hq hd1 hd2
  go_enter Tryz.func161, Tryz.ntmps161
  go_wp2
  go_region_held3 (fun _ => True) (trivial) (first
    |
     (go_at_call 136
      apply Calls.mono
      apply Bag.mul (w0 := w)
      (focus (repeat (first | exact HB.out | apply Bag.alloc | apply Bag.drew)))
      (focus (simp only [mem_less, List.mem_cons, List.not_mem_nil, or_false, size_drew, World.size_alloc, true_or, or_true, true_and, and_true] <;> omega))
      (focus (repeat (first | exact List.Mem.head _ | apply List.Mem.tail)))
      (focus (repeat (first | exact List.Mem.head _ | apply List.Mem.tail)))
      omega
      rintro e w1 ⟨rfl, hbag, hsz, hlt⟩
      clear HB
      have HB := Hid.intro hbag
      clear hbag
      (try simp only [size_drew, World.size_alloc] at hsz))
    |
     (go_at_call 137
      apply Calls.mono
      apply Bag.den (w0 := w)
      (focus (repeat (first | exact HB.out | apply Bag.alloc | apply Bag.drew)))
      (focus (repeat (first | exact List.Mem.head _ | apply List.Mem.tail)))
      rintro e w1 ⟨b1, o1, rfl, hbag, hsz⟩
      clear HB
      have HB := Hid.intro hbag
      clear hbag
      (try simp only [size_drew, World.size_alloc] at hsz))
    |
     (go_at_call 136
      apply Calls.mono
      apply Bag.mul (w0 := w)
      (focus (repeat (first | exact HB.out | apply Bag.alloc | apply Bag.drew)))
      (focus (simp only [mem_less, List.mem_cons, List.not_mem_nil, or_false, size_drew, World.size_alloc, true_or, or_true, true_and, and_true] <;> omega))
      (focus (repeat (first | exact List.Mem.head _ | apply List.Mem.tail)))
      (focus (repeat (first | exact List.Mem.head _ | apply List.Mem.tail)))
      omega
      rintro e w1 ⟨rfl, hbag, hsz, hlt⟩
      clear HB
      have HB := Hid.intro hbag
      clear hbag
      (try simp only [size_drew, World.size_alloc] at hsz))
    |
     (go_at_call 88
      apply Calls.mono
      apply Bag.setFrac (w0 := w)
      (focus (repeat (first | exact HB.out | apply Bag.alloc | apply Bag.drew)))
      (focus (repeat (first | exact List.Mem.head _ | apply List.Mem.tail)))
      (focus (repeat (first | exact List.Mem.head _ | apply List.Mem.tail)))
      (focus (repeat (first | exact List.Mem.head _ | apply List.Mem.tail)))
      exact HPOS.out
      omega
      omega
      rintro e w5 hok
      have HF := Hid.intro hok
      obtain ⟨rfl, hon, hr⟩ := hok
      clear HB hon hr)
    )
  all_goals
    go_wp2
    go_ret
    rw [← HE.out]; exact HF.out
end Go.Proofs.YtgnmjaponiclhaaGreatDoor
namespace Go.Proofs.YtgnmjaponiclhaaGreatDoor
open Go.RowKit
set_option linter.unusedVariables false
set_option linter.unusedSimpArgs false


set_option maxRecDepth 100000 in
set_option maxHeartbeats 4000000 in
theorem rat_add (bz bx bv j k : Nat) (p q : Rat) (w : World) (hz : (Thing.room bz).holds w) (hx : RatVal w bx p) (hy : RatVal w bv q) (hp : Fits p j) (hq : Fits q k) (hj : j + k < 274877906000) :
    Calls Tryz.prog 59 #[.pointer (some ⟨bz, 0, none⟩), .pointer (some ⟨bx, 0, none⟩), .pointer (some ⟨bv, 0, none⟩)] w (RatOk w bz (p + q)) := by
  have hd1 := den_pos' p
  have hd2 := den_pos' q
  have HPOS := Hid.intro (Int.mul_pos hd1 hd2)
  have HE := Hid.intro (add_mk p q)
  have HB := Hid.intro (Bag.two hx hy hz hp hq)
  clear hx hy hz hp hq hd1 hd2
  go_enter Tryz.func59, Tryz.ntmps59
  go_wp2
  go_region_held3 (fun _ => True) (trivial) (first
    |
     (go_at_call 136
      apply Calls.mono
      apply Bag.mul (w0 := w)
      (focus (repeat (first | exact HB.out | apply Bag.alloc | apply Bag.drew)))
      (focus (simp only [mem_less, List.mem_cons, List.not_mem_nil, or_false, size_drew, World.size_alloc, true_or, or_true, true_and, and_true] <;> omega))
      (focus (repeat (first | exact List.Mem.head _ | apply List.Mem.tail)))
      (focus (repeat (first | exact List.Mem.head _ | apply List.Mem.tail)))
      omega
      rintro e w1 ⟨rfl, hbag, hsz, hlt⟩
      clear HB
      have HB := Hid.intro hbag
      clear hbag
      (try simp only [size_drew, World.size_alloc] at hsz))
    |
     (go_at_call 137
      apply Calls.mono
      apply Bag.den (w0 := w)
      (focus (repeat (first | exact HB.out | apply Bag.alloc | apply Bag.drew)))
      (focus (repeat (first | exact List.Mem.head _ | apply List.Mem.tail)))
      rintro e w1 ⟨b1, o1, rfl, hbag, hsz⟩
      clear HB
      have HB := Hid.intro hbag
      clear hbag
      (try simp only [size_drew, World.size_alloc] at hsz))
    |
     (go_at_call 135
      apply Calls.mono
      apply Bag.add (w0 := w)
      (focus (repeat (first | exact HB.out | apply Bag.alloc | apply Bag.drew)))
      (focus (simp only [mem_less, List.mem_cons, List.not_mem_nil, or_false, size_drew, World.size_alloc, true_or, or_true, true_and, and_true] <;> omega))
      (focus (repeat (first | exact List.Mem.head _ | apply List.Mem.tail)))
      (focus (repeat (first | exact List.Mem.head _ | apply List.Mem.tail)))
      omega
      rintro e w1 ⟨rfl, hbag, hsz, hlt⟩
      clear HB
      have HB := Hid.intro hbag
      clear hbag
      (try simp only [size_drew, World.size_alloc] at hsz))
    |
     (go_at_call 88
      apply Calls.mono
      apply Bag.setFrac (w0 := w)
      (focus (repeat (first | exact HB.out | apply Bag.alloc | apply Bag.drew)))
      (focus (repeat (first | exact List.Mem.head _ | apply List.Mem.tail)))
      (focus (repeat (first | exact List.Mem.head _ | apply List.Mem.tail)))
      (focus (repeat (first | exact List.Mem.head _ | apply List.Mem.tail)))
      exact HPOS.out
      omega
      omega
      rintro e w5 hok
      have HF := Hid.intro hok
      obtain ⟨rfl, hon, hr⟩ := hok
      clear HB hon hr)
    )
  all_goals
    go_wp2_with (first
      |
       (go_at_call 137
        apply Calls.mono
        apply Bag.den (w0 := w)
        (focus (repeat (first | exact HB.out | apply Bag.alloc | apply Bag.drew)))
        (focus (repeat (first | exact List.Mem.head _ | apply List.Mem.tail)))
        rintro e w1 ⟨b1, o1, rfl, hbag, hsz⟩
        clear HB
        have HB := Hid.intro hbag
        clear hbag
        (try simp only [size_drew, World.size_alloc] at hsz))
      |
       (go_at_call 136
        apply Calls.mono
        apply Bag.mul (w0 := w)
        (focus (repeat (first | exact HB.out | apply Bag.alloc | apply Bag.drew)))
        (focus (simp only [mem_less, List.mem_cons, List.not_mem_nil, or_false, size_drew, World.size_alloc, true_or, or_true, true_and, and_true] <;> omega))
        (focus (repeat (first | exact List.Mem.head _ | apply List.Mem.tail)))
        (focus (repeat (first | exact List.Mem.head _ | apply List.Mem.tail)))
        omega
        rintro e w1 ⟨rfl, hbag, hsz, hlt⟩
        clear HB
        have HB := Hid.intro hbag
        clear hbag
        (try simp only [size_drew, World.size_alloc] at hsz))
      |
       (go_at_call 88
        apply Calls.mono
        apply Bag.setFrac (w0 := w)
        (focus (repeat (first | exact HB.out | apply Bag.alloc | apply Bag.drew)))
        (focus (repeat (first | exact List.Mem.head _ | apply List.Mem.tail)))
        (focus (repeat (first | exact List.Mem.head _ | apply List.Mem.tail)))
        (focus (repeat (first | exact List.Mem.head _ | apply List.Mem.tail)))
        exact HPOS.out
        omega
        omega
        rintro e w5 hok
        have HF := Hid.intro hok
        obtain ⟨rfl, hon, hr⟩ := hok
        clear HB hon hr)
      )
    go_ret
    rw [← HE.out]; exact HF.out

set_option maxRecDepth 100000 in
set_option maxHeartbeats 4000000 in
theorem rat_sub (bz bx bv j k : Nat) (p q : Rat) (w : World) (hz : (Thing.room bz).holds w) (hx : RatVal w bx p) (hy : RatVal w bv q) (hp : Fits p j) (hq : Fits q k) (hj : j + k < 274877906000) :
    Calls Tryz.prog 60 #[.pointer (some ⟨bz, 0, none⟩), .pointer (some ⟨bx, 0, none⟩), .pointer (some ⟨bv, 0, none⟩)] w (RatOk w bz (p - q)) := by
  have hd1 := den_pos' p
  have hd2 := den_pos' q
  have HPOS := Hid.intro (Int.mul_pos hd1 hd2)
  have HE := Hid.intro (sub_mk p q)
  have HB := Hid.intro (Bag.two hx hy hz hp hq)
  clear hx hy hz hp hq hd1 hd2
  go_enter Tryz.func60, Tryz.ntmps60
  go_wp2
  go_region_held3 (fun _ => True) (trivial) (first
    |
     (go_at_call 136
      apply Calls.mono
      apply Bag.mul (w0 := w)
      (focus (repeat (first | exact HB.out | apply Bag.alloc | apply Bag.drew)))
      (focus (simp only [mem_less, List.mem_cons, List.not_mem_nil, or_false, size_drew, World.size_alloc, true_or, or_true, true_and, and_true] <;> omega))
      (focus (repeat (first | exact List.Mem.head _ | apply List.Mem.tail)))
      (focus (repeat (first | exact List.Mem.head _ | apply List.Mem.tail)))
      omega
      rintro e w1 ⟨rfl, hbag, hsz, hlt⟩
      clear HB
      have HB := Hid.intro hbag
      clear hbag
      (try simp only [size_drew, World.size_alloc] at hsz))
    |
     (go_at_call 137
      apply Calls.mono
      apply Bag.den (w0 := w)
      (focus (repeat (first | exact HB.out | apply Bag.alloc | apply Bag.drew)))
      (focus (repeat (first | exact List.Mem.head _ | apply List.Mem.tail)))
      rintro e w1 ⟨b1, o1, rfl, hbag, hsz⟩
      clear HB
      have HB := Hid.intro hbag
      clear hbag
      (try simp only [size_drew, World.size_alloc] at hsz))
    |
     (go_at_call 138
      apply Calls.mono
      apply Bag.sub (w0 := w)
      (focus (repeat (first | exact HB.out | apply Bag.alloc | apply Bag.drew)))
      (focus (simp only [mem_less, List.mem_cons, List.not_mem_nil, or_false, size_drew, World.size_alloc, true_or, or_true, true_and, and_true] <;> omega))
      (focus (repeat (first | exact List.Mem.head _ | apply List.Mem.tail)))
      (focus (repeat (first | exact List.Mem.head _ | apply List.Mem.tail)))
      omega
      rintro e w1 ⟨rfl, hbag, hsz, hlt⟩
      clear HB
      have HB := Hid.intro hbag
      clear hbag
      (try simp only [size_drew, World.size_alloc] at hsz))
    |
     (go_at_call 88
      apply Calls.mono
      apply Bag.setFrac (w0 := w)
      (focus (repeat (first | exact HB.out | apply Bag.alloc | apply Bag.drew)))
      (focus (repeat (first | exact List.Mem.head _ | apply List.Mem.tail)))
      (focus (repeat (first | exact List.Mem.head _ | apply List.Mem.tail)))
      (focus (repeat (first | exact List.Mem.head _ | apply List.Mem.tail)))
      exact HPOS.out
      omega
      omega
      rintro e w5 hok
      have HF := Hid.intro hok
      obtain ⟨rfl, hon, hr⟩ := hok
      clear HB hon hr)
    )
  all_goals
    go_wp2_with (first
      |
       (go_at_call 137
        apply Calls.mono
        apply Bag.den (w0 := w)
        (focus (repeat (first | exact HB.out | apply Bag.alloc | apply Bag.drew)))
        (focus (repeat (first | exact List.Mem.head _ | apply List.Mem.tail)))
        rintro e w1 ⟨b1, o1, rfl, hbag, hsz⟩
        clear HB
        have HB := Hid.intro hbag
        clear hbag
        (try simp only [size_drew, World.size_alloc] at hsz))
      |
       (go_at_call 136
        apply Calls.mono
        apply Bag.mul (w0 := w)
        (focus (repeat (first | exact HB.out | apply Bag.alloc | apply Bag.drew)))
        (focus (simp only [mem_less, List.mem_cons, List.not_mem_nil, or_false, size_drew, World.size_alloc, true_or, or_true, true_and, and_true] <;> omega))
        (focus (repeat (first | exact List.Mem.head _ | apply List.Mem.tail)))
        (focus (repeat (first | exact List.Mem.head _ | apply List.Mem.tail)))
        omega
        rintro e w1 ⟨rfl, hbag, hsz, hlt⟩
        clear HB
        have HB := Hid.intro hbag
        clear hbag
        (try simp only [size_drew, World.size_alloc] at hsz))
      |
       (go_at_call 88
        apply Calls.mono
        apply Bag.setFrac (w0 := w)
        (focus (repeat (first | exact HB.out | apply Bag.alloc | apply Bag.drew)))
        (focus (repeat (first | exact List.Mem.head _ | apply List.Mem.tail)))
        (focus (repeat (first | exact List.Mem.head _ | apply List.Mem.tail)))
        (focus (repeat (first | exact List.Mem.head _ | apply List.Mem.tail)))
        exact HPOS.out
        omega
        omega
        rintro e w5 hok
        have HF := Hid.intro hok
        obtain ⟨rfl, hon, hr⟩ := hok
        clear HB hon hr)
      )
    go_ret
    rw [← HE.out]; exact HF.out
end Go.Proofs.YtgnmjaponiclhaaGreatDoor
