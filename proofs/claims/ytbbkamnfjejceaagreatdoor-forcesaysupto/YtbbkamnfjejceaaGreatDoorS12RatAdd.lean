/- rafterbig's Rat: Add, Sub: in whatever order new Ints are made. -/
import Derived.Test.YtbbkamnfjejceaaGreatDoorS11RatBag
namespace Go.Proofs.YtbbkamnfjejceaaGreatDoor
open Go.RowKit
set_option linter.unusedVariables false
set_option linter.unusedSimpArgs false
theorem Qac(w:World):w.drew.heap.size=w.heap.size:=rfl
set_option maxRecDepth 100000 in
set_option maxHeartbeats 4000000 in
theorem Qnb(bz bx bv j k:Nat)(p q:Rat)(w:World)(hz:(Thing.room bz).holds w)(hx:RatVal w bx p)(hy:RatVal w bv q)(hp:Fits p j)(hq:Fits q k)(hj:j+k<274877906000):
 Calls Tryz.prog 49 #[.pointer (some ⟨bz,0,none⟩),.pointer (some ⟨bx,0,none⟩),.pointer (some ⟨bv,0,none⟩)] w (RatOk w bz (p*q)):=by
 have hd1:=Qau p;have hd2:=Qau q;have HPOS:=Hi (Int.mul_pos hd1 hd2);have HE:=Hi (Qec p q);have HB:=Hi (Bag.two hx hy hz hp hq);clear hx hy hz hp hq hd1 hd2;go_enter Tryz.func49,Tryz.ntmps49;go_wp2;go_region_held3 (fun _=>True) (trivial) (first
  |
   (go_at_call 102
    apply Calls.mono;apply Bag.mul (w0:=w);(focus(repeat(first|exact HB.out|apply Bag.alloc|apply Bag.drew)));(focus(simp only[mem_less,List.mem_cons,List.not_mem_nil,or_false,Qac,World.size_alloc,true_or,or_true,true_and,and_true]<;>omega));(focus(repeat(first|exact List.Mem.head _|apply List.Mem.tail)));(focus(repeat(first|exact List.Mem.head _|apply List.Mem.tail)));omega;rintro e w1 ⟨rfl,hbag,hsz,hlt⟩;clear HB;have HB:=Hi hbag;clear hbag
    (try simp only[Qac,World.size_alloc] at hsz))
  |
   (go_at_call 96
    apply Calls.mono;apply Bag.den (w0:=w);(focus(repeat(first|exact HB.out|apply Bag.alloc|apply Bag.drew)));(focus(repeat(first|exact List.Mem.head _|apply List.Mem.tail)));rintro e w1 ⟨b1,o1,rfl,hbag,hsz⟩;clear HB;have HB:=Hi hbag;clear hbag
    (try simp only[Qac,World.size_alloc] at hsz))
  |
   (go_at_call 102
    apply Calls.mono;apply Bag.mul (w0:=w);(focus(repeat(first|exact HB.out|apply Bag.alloc|apply Bag.drew)));(focus(simp only[mem_less,List.mem_cons,List.not_mem_nil,or_false,Qac,World.size_alloc,true_or,or_true,true_and,and_true]<;>omega));(focus(repeat(first|exact List.Mem.head _|apply List.Mem.tail)));(focus(repeat(first|exact List.Mem.head _|apply List.Mem.tail)));omega;rintro e w1 ⟨rfl,hbag,hsz,hlt⟩;clear HB;have HB:=Hi hbag;clear hbag
    (try simp only[Qac,World.size_alloc] at hsz))
  |
   (go_at_call 56
    apply Calls.mono;apply Bag.setFrac (w0:=w);(focus(repeat(first|exact HB.out|apply Bag.alloc|apply Bag.drew)));(focus(repeat(first|exact List.Mem.head _|apply List.Mem.tail)));(focus(repeat(first|exact List.Mem.head _|apply List.Mem.tail)));(focus(repeat(first|exact List.Mem.head _|apply List.Mem.tail)));exact HPOS.out;omega;omega;rintro e w5 hok;have HF:=Hi hok;obtain⟨rfl,hon,hr⟩:=hok
    clear HB hon hr)
  )
 all_goals
  go_wp2;go_ret;rw[←HE.out];exact HF.out
set_option maxRecDepth 100000 in
set_option maxHeartbeats 4000000 in
theorem Qnc(bz bx bv j k:Nat)(p q:Rat)(w:World)(hz:(Thing.room bz).holds w)(hx:RatVal w bx p)(hy:RatVal w bv q)(hp:Fits p j)(hq:Fits q k)(hj:j+k<274877906000)(hq0:0<q.num):
 Calls Tryz.prog 100 #[.pointer (some ⟨bz,0,none⟩),.pointer (some ⟨bx,0,none⟩),.pointer (some ⟨bv,0,none⟩)] w (RatOk w bz (p / q)):=by
 have hd1:=Qau p;have hd2:=Qau q;have HPOS:=Hi (Int.mul_pos hd1 hq0);have HE:=Hi (Qha p q hq0);have HB:=Hi (Bag.two hx hy hz hp hq);clear hx hy hz hp hq hd1 hd2;go_enter Tryz.func100,Tryz.ntmps100;go_wp2;go_region_held3 (fun _=>True) (trivial) (first
  |
   (go_at_call 102
    apply Calls.mono;apply Bag.mul (w0:=w);(focus(repeat(first|exact HB.out|apply Bag.alloc|apply Bag.drew)));(focus(simp only[mem_less,List.mem_cons,List.not_mem_nil,or_false,Qac,World.size_alloc,true_or,or_true,true_and,and_true]<;>omega));(focus(repeat(first|exact List.Mem.head _|apply List.Mem.tail)));(focus(repeat(first|exact List.Mem.head _|apply List.Mem.tail)));omega;rintro e w1 ⟨rfl,hbag,hsz,hlt⟩;clear HB;have HB:=Hi hbag;clear hbag
    (try simp only[Qac,World.size_alloc] at hsz))
  |
   (go_at_call 96
    apply Calls.mono;apply Bag.den (w0:=w);(focus(repeat(first|exact HB.out|apply Bag.alloc|apply Bag.drew)));(focus(repeat(first|exact List.Mem.head _|apply List.Mem.tail)));rintro e w1 ⟨b1,o1,rfl,hbag,hsz⟩;clear HB;have HB:=Hi hbag;clear hbag
    (try simp only[Qac,World.size_alloc] at hsz))
  |
   (go_at_call 102
    apply Calls.mono;apply Bag.mul (w0:=w);(focus(repeat(first|exact HB.out|apply Bag.alloc|apply Bag.drew)));(focus(simp only[mem_less,List.mem_cons,List.not_mem_nil,or_false,Qac,World.size_alloc,true_or,or_true,true_and,and_true]<;>omega));(focus(repeat(first|exact List.Mem.head _|apply List.Mem.tail)));(focus(repeat(first|exact List.Mem.head _|apply List.Mem.tail)));omega;rintro e w1 ⟨rfl,hbag,hsz,hlt⟩;clear HB;have HB:=Hi hbag;clear hbag
    (try simp only[Qac,World.size_alloc] at hsz))
  |
   (go_at_call 56
    apply Calls.mono;apply Bag.setFrac (w0:=w);(focus(repeat(first|exact HB.out|apply Bag.alloc|apply Bag.drew)));(focus(repeat(first|exact List.Mem.head _|apply List.Mem.tail)));(focus(repeat(first|exact List.Mem.head _|apply List.Mem.tail)));(focus(repeat(first|exact List.Mem.head _|apply List.Mem.tail)));exact HPOS.out;omega;omega;rintro e w5 hok;have HF:=Hi hok;obtain⟨rfl,hon,hr⟩:=hok
    clear HB hon hr)
  )
 all_goals
  go_wp2;go_ret;rw[←HE.out];exact HF.out
set_option maxRecDepth 100000 in
set_option maxHeartbeats 4000000 in
theorem Qm8(bz bx bv j k:Nat)(p q:Rat)(w:World)(hz:(Thing.room bz).holds w)(hx:RatVal w bx p)(hy:RatVal w bv q)(hp:Fits p j)(hq:Fits q k)(hj:j+k<274877906000):
 Calls Tryz.prog 48 #[.pointer (some ⟨bz,0,none⟩),.pointer (some ⟨bx,0,none⟩),.pointer (some ⟨bv,0,none⟩)] w (RatOk w bz (p+q)):=by
 have hd1:=Qau p;have hd2:=Qau q;have HPOS:=Hi (Int.mul_pos hd1 hd2);have HE:=Hi (Qc1 p q);have HB:=Hi (Bag.two hx hy hz hp hq);clear hx hy hz hp hq hd1 hd2;go_enter Tryz.func48,Tryz.ntmps48;go_wp2;go_region_held3 (fun _=>True) (trivial) (first
  |
   (go_at_call 102
    apply Calls.mono;apply Bag.mul (w0:=w);(focus(repeat(first|exact HB.out|apply Bag.alloc|apply Bag.drew)));(focus(simp only[mem_less,List.mem_cons,List.not_mem_nil,or_false,Qac,World.size_alloc,true_or,or_true,true_and,and_true]<;>omega));(focus(repeat(first|exact List.Mem.head _|apply List.Mem.tail)));(focus(repeat(first|exact List.Mem.head _|apply List.Mem.tail)));omega;rintro e w1 ⟨rfl,hbag,hsz,hlt⟩;clear HB;have HB:=Hi hbag;clear hbag
    (try simp only[Qac,World.size_alloc] at hsz))
  |
   (go_at_call 96
    apply Calls.mono;apply Bag.den (w0:=w);(focus(repeat(first|exact HB.out|apply Bag.alloc|apply Bag.drew)));(focus(repeat(first|exact List.Mem.head _|apply List.Mem.tail)));rintro e w1 ⟨b1,o1,rfl,hbag,hsz⟩;clear HB;have HB:=Hi hbag;clear hbag
    (try simp only[Qac,World.size_alloc] at hsz))
  |
   (go_at_call 101
    apply Calls.mono;apply Bag.add (w0:=w);(focus(repeat(first|exact HB.out|apply Bag.alloc|apply Bag.drew)));(focus(simp only[mem_less,List.mem_cons,List.not_mem_nil,or_false,Qac,World.size_alloc,true_or,or_true,true_and,and_true]<;>omega));(focus(repeat(first|exact List.Mem.head _|apply List.Mem.tail)));(focus(repeat(first|exact List.Mem.head _|apply List.Mem.tail)));omega;rintro e w1 ⟨rfl,hbag,hsz,hlt⟩;clear HB;have HB:=Hi hbag;clear hbag
    (try simp only[Qac,World.size_alloc] at hsz))
  |
   (go_at_call 56
    apply Calls.mono;apply Bag.setFrac (w0:=w);(focus(repeat(first|exact HB.out|apply Bag.alloc|apply Bag.drew)));(focus(repeat(first|exact List.Mem.head _|apply List.Mem.tail)));(focus(repeat(first|exact List.Mem.head _|apply List.Mem.tail)));(focus(repeat(first|exact List.Mem.head _|apply List.Mem.tail)));exact HPOS.out;omega;omega;rintro e w5 hok;have HF:=Hi hok;obtain⟨rfl,hon,hr⟩:=hok
    clear HB hon hr)
  )
 all_goals
  go_wp2_with (first
   |
    (go_at_call 96
     apply Calls.mono;apply Bag.den (w0:=w);(focus(repeat(first|exact HB.out|apply Bag.alloc|apply Bag.drew)));(focus(repeat(first|exact List.Mem.head _|apply List.Mem.tail)));rintro e w1 ⟨b1,o1,rfl,hbag,hsz⟩;clear HB;have HB:=Hi hbag;clear hbag
     (try simp only[Qac,World.size_alloc] at hsz))
   |
    (go_at_call 102
     apply Calls.mono;apply Bag.mul (w0:=w);(focus(repeat(first|exact HB.out|apply Bag.alloc|apply Bag.drew)));(focus(simp only[mem_less,List.mem_cons,List.not_mem_nil,or_false,Qac,World.size_alloc,true_or,or_true,true_and,and_true]<;>omega));(focus(repeat(first|exact List.Mem.head _|apply List.Mem.tail)));(focus(repeat(first|exact List.Mem.head _|apply List.Mem.tail)));omega;rintro e w1 ⟨rfl,hbag,hsz,hlt⟩;clear HB;have HB:=Hi hbag;clear hbag
     (try simp only[Qac,World.size_alloc] at hsz))
   |
    (go_at_call 56
     apply Calls.mono;apply Bag.setFrac (w0:=w);(focus(repeat(first|exact HB.out|apply Bag.alloc|apply Bag.drew)));(focus(repeat(first|exact List.Mem.head _|apply List.Mem.tail)));(focus(repeat(first|exact List.Mem.head _|apply List.Mem.tail)));(focus(repeat(first|exact List.Mem.head _|apply List.Mem.tail)));exact HPOS.out;omega;omega;rintro e w5 hok;have HF:=Hi hok;obtain⟨rfl,hon,hr⟩:=hok
     clear HB hon hr)
   )
  go_ret;rw[←HE.out];exact HF.out
set_option maxRecDepth 100000 in
set_option maxHeartbeats 4000000 in
theorem Qm9(bz bx bv j k:Nat)(p q:Rat)(w:World)(hz:(Thing.room bz).holds w)(hx:RatVal w bx p)(hy:RatVal w bv q)(hp:Fits p j)(hq:Fits q k)(hj:j+k<274877906000):
 Calls Tryz.prog 95 #[.pointer (some ⟨bz,0,none⟩),.pointer (some ⟨bx,0,none⟩),.pointer (some ⟨bv,0,none⟩)] w (RatOk w bz (p - q)):=by
 have hd1:=Qau p;have hd2:=Qau q;have HPOS:=Hi (Int.mul_pos hd1 hd2);have HE:=Hi (Qna p q);have HB:=Hi (Bag.two hx hy hz hp hq);clear hx hy hz hp hq hd1 hd2;go_enter Tryz.func95,Tryz.ntmps95;go_wp2;go_region_held3 (fun _=>True) (trivial) (first
  |
   (go_at_call 102
    apply Calls.mono;apply Bag.mul (w0:=w);(focus(repeat(first|exact HB.out|apply Bag.alloc|apply Bag.drew)));(focus(simp only[mem_less,List.mem_cons,List.not_mem_nil,or_false,Qac,World.size_alloc,true_or,or_true,true_and,and_true]<;>omega));(focus(repeat(first|exact List.Mem.head _|apply List.Mem.tail)));(focus(repeat(first|exact List.Mem.head _|apply List.Mem.tail)));omega;rintro e w1 ⟨rfl,hbag,hsz,hlt⟩;clear HB;have HB:=Hi hbag;clear hbag
    (try simp only[Qac,World.size_alloc] at hsz))
  |
   (go_at_call 96
    apply Calls.mono;apply Bag.den (w0:=w);(focus(repeat(first|exact HB.out|apply Bag.alloc|apply Bag.drew)));(focus(repeat(first|exact List.Mem.head _|apply List.Mem.tail)));rintro e w1 ⟨b1,o1,rfl,hbag,hsz⟩;clear HB;have HB:=Hi hbag;clear hbag
    (try simp only[Qac,World.size_alloc] at hsz))
  |
   (go_at_call 158
    apply Calls.mono;apply Bag.sub (w0:=w);(focus(repeat(first|exact HB.out|apply Bag.alloc|apply Bag.drew)));(focus(simp only[mem_less,List.mem_cons,List.not_mem_nil,or_false,Qac,World.size_alloc,true_or,or_true,true_and,and_true]<;>omega));(focus(repeat(first|exact List.Mem.head _|apply List.Mem.tail)));(focus(repeat(first|exact List.Mem.head _|apply List.Mem.tail)));omega;rintro e w1 ⟨rfl,hbag,hsz,hlt⟩;clear HB;have HB:=Hi hbag;clear hbag
    (try simp only[Qac,World.size_alloc] at hsz))
  |
   (go_at_call 56
    apply Calls.mono;apply Bag.setFrac (w0:=w);(focus(repeat(first|exact HB.out|apply Bag.alloc|apply Bag.drew)));(focus(repeat(first|exact List.Mem.head _|apply List.Mem.tail)));(focus(repeat(first|exact List.Mem.head _|apply List.Mem.tail)));(focus(repeat(first|exact List.Mem.head _|apply List.Mem.tail)));exact HPOS.out;omega;omega;rintro e w5 hok;have HF:=Hi hok;obtain⟨rfl,hon,hr⟩:=hok
    clear HB hon hr)
  )
 all_goals
  go_wp2_with (first
   |
    (go_at_call 96
     apply Calls.mono;apply Bag.den (w0:=w);(focus(repeat(first|exact HB.out|apply Bag.alloc|apply Bag.drew)));(focus(repeat(first|exact List.Mem.head _|apply List.Mem.tail)));rintro e w1 ⟨b1,o1,rfl,hbag,hsz⟩;clear HB;have HB:=Hi hbag;clear hbag
     (try simp only[Qac,World.size_alloc] at hsz))
   |
    (go_at_call 102
     apply Calls.mono;apply Bag.mul (w0:=w);(focus(repeat(first|exact HB.out|apply Bag.alloc|apply Bag.drew)));(focus(simp only[mem_less,List.mem_cons,List.not_mem_nil,or_false,Qac,World.size_alloc,true_or,or_true,true_and,and_true]<;>omega));(focus(repeat(first|exact List.Mem.head _|apply List.Mem.tail)));(focus(repeat(first|exact List.Mem.head _|apply List.Mem.tail)));omega;rintro e w1 ⟨rfl,hbag,hsz,hlt⟩;clear HB;have HB:=Hi hbag;clear hbag
     (try simp only[Qac,World.size_alloc] at hsz))
   |
    (go_at_call 56
     apply Calls.mono;apply Bag.setFrac (w0:=w);(focus(repeat(first|exact HB.out|apply Bag.alloc|apply Bag.drew)));(focus(repeat(first|exact List.Mem.head _|apply List.Mem.tail)));(focus(repeat(first|exact List.Mem.head _|apply List.Mem.tail)));(focus(repeat(first|exact List.Mem.head _|apply List.Mem.tail)));exact HPOS.out;omega;omega;rintro e w5 hok;have HF:=Hi hok;obtain⟨rfl,hon,hr⟩:=hok
     clear HB hon hr)
   )
  go_ret;rw[←HE.out];exact HF.out
end Go.Proofs.YtbbkamnfjejceaaGreatDoor
