import Derived.Test.YtgnmjaponiclhaaGreatDoorC13RefSum
namespace Go.Proofs.YtgnmjaponiclhaaGreatDoor
open Go.RowKit
set_option linter.unusedVariables false
set_option linter.unusedSimpArgs false
theorem Bag.pair{w:World}{bx bv j k:Nat}{p q:Rat}(hx:RatVal w bx p)(hy:RatVal w bv q)(hp:Fits p j)(hq:Fits q k):
 Bag w w [] [.int bx 0 p.num j,.rat bx p.den j,.int bv 0 q.num k,.rat bv q.den k]:=by
 refine⟨Below.refl _ _,fun n hn=>(by cases hn),fun t ht=>⟨?_,List.not_mem_nil⟩⟩
 simp only[List.mem_cons,List.not_mem_nil,or_false] at ht
 rcases ht with rfl|rfl|rfl|rfl
 · exact hx.int hp
 · exact hx.rat hp
 · exact hy.int hq
 · exact hy.rat hq
theorem Bag.cmp{w0 w:World}{Z:List Nat}{L:List Thing}{bx ox bv ov K1 K2:Nat}{X Y:Int}(h:Bag w0 w Z L)(hx:.int bx ox X K1∈ L)(hy:.int bv ov Y K2∈ L):
 Calls Tryz.prog 139 #[.pointer (some ⟨bx,ox,none⟩),.pointer (some ⟨bv,ov,none⟩)] w fun e w'=>e=.returned (.int .i64 (cmpZ X Y))∧Bag w0 w' Z L∧w.heap.size≤w'.heap.size:=by
 obtain⟨⟨a,cap,l,ha,h1⟩,hna⟩:=h.ts _ hx
 obtain⟨⟨b,cap',m,hb,h2⟩,hnb⟩:=h.ts _ hy
 refine(Qot bx ox X a cap l bv ov Y b cap' m w ha hb).mono ?_
 rintro e w' ⟨rfl,hbl⟩
 exact⟨rfl,h.below hbl,hbl.size⟩
theorem Qdh(X Y:Int):cmpZ X Y=0↔X=Y:=by
 unfold cmpZ
 by_cases h1:X<Y
 ·
  rw[if_pos h1];constructor
  · intro h;omega
  · intro h;omega
 ·
  rw[if_neg h1]
  by_cases h2:X=Y
  · rw[if_pos h2];simp[h2]
  · rw[if_neg h2];simp[h2]
theorem Qoj(p q:Rat):p.num*(q.den:Int)=q.num*(p.den:Int)↔p=q:=by
 constructor
 ·
  intro h
  rw[←Rat.mkRat_self p,←Rat.mkRat_self q]
  exact(Rat.mkRat_eq_iff p.den_nz q.den_nz).2 h
 · rintro rfl
   rfl
theorem size_drew(w:World):w.drew.heap.size=w.heap.size:=rfl
set_option maxRecDepth 100000 in
set_option maxHeartbeats 4000000 in
theorem Qh6(bx bv j k:Nat)(p q:Rat)(w:World)(hx:RatVal w bx p)(hy:RatVal w bv q)(hp:Fits p j)(hq:Fits q k)(hj:j+k<274877906000):
 Calls Tryz.prog 61 #[.pointer (some ⟨bx,0,none⟩),.pointer (some ⟨bv,0,none⟩)] w fun e w'=>(∃c,e=.returned (.int .i64 c)∧(c=0↔p=q))∧Below w.heap.size w w':=by
 have HB:=Hi (Bag.pair hx hy hp hq)
 have HQ:=Hi (Qoj p q)
 clear hx hy hp hq
 by_cases hd:(p.den:Int)=(q.den:Int)
 ·
  have HCZ:Hid (cmpZ (p.den:Int) (q.den:Int)=0):=Hi ((Qdh _ _).2 hd)
  have HD:=Hi hd
  clear hd
  go_enter Tryz.func61,Tryz.ntmps61
  go_wp2_with (first
   |
    (go_at_call 137
     apply Calls.mono
     apply Bag.den (w0:=w)
     (focus(repeat(first|exact HB.out|apply Bag.alloc|apply Bag.drew)))
     (focus(repeat(first|exact List.Mem.head _|apply List.Mem.tail)))
     rintro e w1 ⟨b1,o1,rfl,hbag,hsz⟩
     clear HB
     have HB:=Hi hbag
     clear hbag
     (try simp only[size_drew,World.size_alloc] at hsz))
   |
    (go_at_call 139
     apply Calls.mono
     apply Bag.cmp (w0:=w)
     (focus(repeat(first|exact HB.out|apply Bag.alloc|apply Bag.drew)))
     (focus(repeat(first|exact List.Mem.head _|apply List.Mem.tail)))
     (focus(repeat(first|exact List.Mem.head _|apply List.Mem.tail)))
     rintro e w1 ⟨rfl,hbag,hsz⟩
     rw[HCZ.out]
     clear HB
     have HB:=Hi hbag
     clear hbag)
   |fail)
  go_region_held3 (fun _=>True) (trivial) (first
   |
    (go_at_call 139
     apply Calls.mono
     apply Bag.cmp (w0:=w)
     (focus(repeat(first|exact HB.out|apply Bag.alloc|apply Bag.drew)))
     (focus(repeat(first|exact List.Mem.head _|apply List.Mem.tail)))
     (focus(repeat(first|exact List.Mem.head _|apply List.Mem.tail)))
     rintro e w1 ⟨rfl,hbag,hsz⟩
     clear HB
     have HB:=Hi hbag
     clear hbag
     (try simp only[size_drew,World.size_alloc] at hsz))
   )
  go_wp2
  go_ret
  refine⟨⟨_,rfl,?_⟩,HB.out.base⟩
  have hd:=HD.out
  have h0:(q.den:Int)≠0:=by have:=q.den_nz;omega
  rw[Qdh,←HQ.out,hd]
  exact⟨fun h=>by rw[h],fun h=>Int.eq_of_mul_eq_mul_right h0 h⟩
 ·
  obtain⟨cz,hcz⟩:∃cz,cmpZ (p.den:Int) (q.den:Int)=cz:=⟨_,rfl⟩
  have hne:(cz == 0)=false:=by
   rw[beq_eq_false_iff_ne]
   intro h
   exact hd ((Qdh _ _).1 (hcz.trans h))
  have HCZ:=Hi hcz
  clear hd hcz
  go_enter Tryz.func61,Tryz.ntmps61
  go_wp2_with (first
   |
    (go_at_call 137
     apply Calls.mono
     apply Bag.den (w0:=w)
     (focus(repeat(first|exact HB.out|apply Bag.alloc|apply Bag.drew)))
     (focus(repeat(first|exact List.Mem.head _|apply List.Mem.tail)))
     rintro e w1 ⟨b1,o1,rfl,hbag,hsz⟩
     clear HB
     have HB:=Hi hbag
     clear hbag
     (try simp only[size_drew,World.size_alloc] at hsz))
   |
    (go_at_call 139
     apply Calls.mono
     apply Bag.cmp (w0:=w)
     (focus(repeat(first|exact HB.out|apply Bag.alloc|apply Bag.drew)))
     (focus(repeat(first|exact List.Mem.head _|apply List.Mem.tail)))
     (focus(repeat(first|exact List.Mem.head _|apply List.Mem.tail)))
     rintro e w1 ⟨rfl,hbag,hsz⟩
     rw[HCZ.out]
     clear HB
     have HB:=Hi hbag
     clear hbag)
   |fail)
  go_region_held3 (fun _=>True) (trivial) (first
   |
    (go_at_call 136
     apply Calls.mono
     apply Bag.mul (w0:=w)
     (focus(repeat(first|exact HB.out|apply Bag.alloc|apply Bag.drew)))
     (focus(simp only[mem_less,List.mem_cons,List.not_mem_nil,or_false,size_drew,World.size_alloc,true_or,or_true,true_and,and_true]<;>omega))
     (focus(repeat(first|exact List.Mem.head _|apply List.Mem.tail)))
     (focus(repeat(first|exact List.Mem.head _|apply List.Mem.tail)))
     omega
     rintro e w1 ⟨rfl,hbag,hsz,hlt⟩
     clear HB
     have HB:=Hi hbag
     clear hbag
     (try simp only[size_drew,World.size_alloc] at hsz))
   |
    (go_at_call 137
     apply Calls.mono
     apply Bag.den (w0:=w)
     (focus(repeat(first|exact HB.out|apply Bag.alloc|apply Bag.drew)))
     (focus(repeat(first|exact List.Mem.head _|apply List.Mem.tail)))
     rintro e w1 ⟨b1,o1,rfl,hbag,hsz⟩
     clear HB
     have HB:=Hi hbag
     clear hbag
     (try simp only[size_drew,World.size_alloc] at hsz))
   |
    (go_at_call 139
     apply Calls.mono
     apply Bag.cmp (w0:=w)
     (focus(repeat(first|exact HB.out|apply Bag.alloc|apply Bag.drew)))
     (focus(repeat(first|exact List.Mem.head _|apply List.Mem.tail)))
     (focus(repeat(first|exact List.Mem.head _|apply List.Mem.tail)))
     rintro e w1 ⟨rfl,hbag,hsz⟩
     clear HB
     have HB:=Hi hbag
     clear hbag
     (try simp only[size_drew,World.size_alloc] at hsz))
   )
  all_goals
   go_wp2
   go_ret
   exact⟨⟨_,rfl,(Qdh _ _).trans HQ.out⟩,HB.out.base⟩
end Go.Proofs.YtgnmjaponiclhaaGreatDoor
