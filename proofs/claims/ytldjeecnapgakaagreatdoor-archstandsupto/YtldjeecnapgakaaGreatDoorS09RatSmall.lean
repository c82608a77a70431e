/- rafterbig: Int's Sign, Cmp, Neg onto itself; Rat's Sign, Set, Neg, SetInt64, IsInt, Num, Denom. -/
import Derived.Test.YtldjeecnapgakaaGreatDoorS08RatBag
namespace Go.Proofs.YtldjeecnapgakaaGreatDoor
open Go.RowKit
set_option linter.unusedVariables false
set_option linter.unusedSimpArgs false
theorem Qah(w:World):w.drew.heap.size=w.heap.size:=rfl
set_option maxRecDepth 100000 in
set_option maxHeartbeats 4000000 in
theorem Qpt(bz bx bv j k:Nat)(p q:Rat)(w:World)(hz:(Thing.room bz).holds w)(hx:RatVal w bx p)(hy:RatVal w bv q)(hp:Fits p j)(hq:Fits q k)(hj:j+k<274877906000):
 Calls Tryz.prog 63 #[.pointer (some ⟨bz,0,none⟩),.pointer (some ⟨bx,0,none⟩),.pointer (some ⟨bv,0,none⟩)] w (RatOk w bz (p*q)):=by
 have hd1:=Qay p;have hd2:=Qay q;have HPOS:=Hi (Int.mul_pos hd1 hd2);have HE:=Hi (Qe3 p q);have HB:=Hi (Bag.two hx hy hz hp hq);clear hx hy hz hp hq hd1 hd2;go_enter Tryz.func63,Tryz.ntmps63;go_wp2;go_region_held3 (fun _=>True) (trivial) (first
  |
   (go_at_call 59
    apply Calls.mono;apply Bag.mul (w0:=w);(focus(repeat(first|exact HB.out|apply Bag.alloc|apply Bag.drew)));(focus(simp only[mem_less,List.mem_cons,List.not_mem_nil,or_false,Qah,World.size_alloc,true_or,or_true,true_and,and_true]<;>omega));(focus(repeat(first|exact List.Mem.head _|apply List.Mem.tail)));(focus(repeat(first|exact List.Mem.head _|apply List.Mem.tail)));omega;rintro e w1 ⟨rfl,hbag,hsz,hlt⟩;clear HB;have HB:=Hi hbag;clear hbag
    (try simp only[Qah,World.size_alloc] at hsz))
  |
   (go_at_call 57
    apply Calls.mono;apply Bag.den (w0:=w);(focus(repeat(first|exact HB.out|apply Bag.alloc|apply Bag.drew)));(focus(repeat(first|exact List.Mem.head _|apply List.Mem.tail)));rintro e w1 ⟨b1,o1,rfl,hbag,hsz⟩;clear HB;have HB:=Hi hbag;clear hbag
    (try simp only[Qah,World.size_alloc] at hsz))
  |
   (go_at_call 59
    apply Calls.mono;apply Bag.mul (w0:=w);(focus(repeat(first|exact HB.out|apply Bag.alloc|apply Bag.drew)));(focus(simp only[mem_less,List.mem_cons,List.not_mem_nil,or_false,Qah,World.size_alloc,true_or,or_true,true_and,and_true]<;>omega));(focus(repeat(first|exact List.Mem.head _|apply List.Mem.tail)));(focus(repeat(first|exact List.Mem.head _|apply List.Mem.tail)));omega;rintro e w1 ⟨rfl,hbag,hsz,hlt⟩;clear HB;have HB:=Hi hbag;clear hbag
    (try simp only[Qah,World.size_alloc] at hsz))
  |
   (go_at_call 54
    apply Calls.mono;apply Bag.setFrac (w0:=w);(focus(repeat(first|exact HB.out|apply Bag.alloc|apply Bag.drew)));(focus(repeat(first|exact List.Mem.head _|apply List.Mem.tail)));(focus(repeat(first|exact List.Mem.head _|apply List.Mem.tail)));(focus(repeat(first|exact List.Mem.head _|apply List.Mem.tail)));exact HPOS.out;omega;omega;rintro e w5 hok;have HF:=Hi hok;obtain⟨rfl,hon,hr⟩:=hok
    clear HB hon hr)
  )
 all_goals
  go_wp2;go_ret;rw[←HE.out];exact HF.out
set_option maxRecDepth 100000 in
set_option maxHeartbeats 4000000 in
theorem Qpq(bz bx bv j k:Nat)(p q:Rat)(w:World)(hz:(Thing.room bz).holds w)(hx:RatVal w bx p)(hy:RatVal w bv q)(hp:Fits p j)(hq:Fits q k)(hj:j+k<274877906000):
 Calls Tryz.prog 62 #[.pointer (some ⟨bz,0,none⟩),.pointer (some ⟨bx,0,none⟩),.pointer (some ⟨bv,0,none⟩)] w (RatOk w bz (p+q)):=by
 have hd1:=Qay p;have hd2:=Qay q;have HPOS:=Hi (Int.mul_pos hd1 hd2);have HE:=Hi (Qdk p q);have HB:=Hi (Bag.two hx hy hz hp hq);clear hx hy hz hp hq hd1 hd2;go_enter Tryz.func62,Tryz.ntmps62;go_wp2;go_region_held3 (fun _=>True) (trivial) (first
  |
   (go_at_call 59
    apply Calls.mono;apply Bag.mul (w0:=w);(focus(repeat(first|exact HB.out|apply Bag.alloc|apply Bag.drew)));(focus(simp only[mem_less,List.mem_cons,List.not_mem_nil,or_false,Qah,World.size_alloc,true_or,or_true,true_and,and_true]<;>omega));(focus(repeat(first|exact List.Mem.head _|apply List.Mem.tail)));(focus(repeat(first|exact List.Mem.head _|apply List.Mem.tail)));omega;rintro e w1 ⟨rfl,hbag,hsz,hlt⟩;clear HB;have HB:=Hi hbag;clear hbag
    (try simp only[Qah,World.size_alloc] at hsz))
  |
   (go_at_call 57
    apply Calls.mono;apply Bag.den (w0:=w);(focus(repeat(first|exact HB.out|apply Bag.alloc|apply Bag.drew)));(focus(repeat(first|exact List.Mem.head _|apply List.Mem.tail)));rintro e w1 ⟨b1,o1,rfl,hbag,hsz⟩;clear HB;have HB:=Hi hbag;clear hbag
    (try simp only[Qah,World.size_alloc] at hsz))
  |
   (go_at_call 113
    apply Calls.mono;apply Bag.add (w0:=w);(focus(repeat(first|exact HB.out|apply Bag.alloc|apply Bag.drew)));(focus(simp only[mem_less,List.mem_cons,List.not_mem_nil,or_false,Qah,World.size_alloc,true_or,or_true,true_and,and_true]<;>omega));(focus(repeat(first|exact List.Mem.head _|apply List.Mem.tail)));(focus(repeat(first|exact List.Mem.head _|apply List.Mem.tail)));omega;rintro e w1 ⟨rfl,hbag,hsz,hlt⟩;clear HB;have HB:=Hi hbag;clear hbag
    (try simp only[Qah,World.size_alloc] at hsz))
  |
   (go_at_call 54
    apply Calls.mono;apply Bag.setFrac (w0:=w);(focus(repeat(first|exact HB.out|apply Bag.alloc|apply Bag.drew)));(focus(repeat(first|exact List.Mem.head _|apply List.Mem.tail)));(focus(repeat(first|exact List.Mem.head _|apply List.Mem.tail)));(focus(repeat(first|exact List.Mem.head _|apply List.Mem.tail)));exact HPOS.out;omega;omega;rintro e w5 hok;have HF:=Hi hok;obtain⟨rfl,hon,hr⟩:=hok
    clear HB hon hr)
  )
 all_goals
  go_wp2_with (first
   |
    (go_at_call 57
     apply Calls.mono;apply Bag.den (w0:=w);(focus(repeat(first|exact HB.out|apply Bag.alloc|apply Bag.drew)));(focus(repeat(first|exact List.Mem.head _|apply List.Mem.tail)));rintro e w1 ⟨b1,o1,rfl,hbag,hsz⟩;clear HB;have HB:=Hi hbag;clear hbag
     (try simp only[Qah,World.size_alloc] at hsz))
   |
    (go_at_call 59
     apply Calls.mono;apply Bag.mul (w0:=w);(focus(repeat(first|exact HB.out|apply Bag.alloc|apply Bag.drew)));(focus(simp only[mem_less,List.mem_cons,List.not_mem_nil,or_false,Qah,World.size_alloc,true_or,or_true,true_and,and_true]<;>omega));(focus(repeat(first|exact List.Mem.head _|apply List.Mem.tail)));(focus(repeat(first|exact List.Mem.head _|apply List.Mem.tail)));omega;rintro e w1 ⟨rfl,hbag,hsz,hlt⟩;clear HB;have HB:=Hi hbag;clear hbag
     (try simp only[Qah,World.size_alloc] at hsz))
   |
    (go_at_call 54
     apply Calls.mono;apply Bag.setFrac (w0:=w);(focus(repeat(first|exact HB.out|apply Bag.alloc|apply Bag.drew)));(focus(repeat(first|exact List.Mem.head _|apply List.Mem.tail)));(focus(repeat(first|exact List.Mem.head _|apply List.Mem.tail)));(focus(repeat(first|exact List.Mem.head _|apply List.Mem.tail)));exact HPOS.out;omega;omega;rintro e w5 hok;have HF:=Hi hok;obtain⟨rfl,hon,hr⟩:=hok
     clear HB hon hr)
   )
  go_ret;rw[←HE.out];exact HF.out
set_option maxRecDepth 100000 in
set_option maxHeartbeats 4000000 in
theorem Qpr(bz bx bv j k:Nat)(p q:Rat)(w:World)(hz:(Thing.room bz).holds w)(hx:RatVal w bx p)(hy:RatVal w bv q)(hp:Fits p j)(hq:Fits q k)(hj:j+k<274877906000):
 Calls Tryz.prog 61 #[.pointer (some ⟨bz,0,none⟩),.pointer (some ⟨bx,0,none⟩),.pointer (some ⟨bv,0,none⟩)] w (RatOk w bz (p - q)):=by
 have hd1:=Qay p;have hd2:=Qay q;have HPOS:=Hi (Int.mul_pos hd1 hd2);have HE:=Hi (Qps p q);have HB:=Hi (Bag.two hx hy hz hp hq);clear hx hy hz hp hq hd1 hd2;go_enter Tryz.func61,Tryz.ntmps61;go_wp2;go_region_held3 (fun _=>True) (trivial) (first
  |
   (go_at_call 59
    apply Calls.mono;apply Bag.mul (w0:=w);(focus(repeat(first|exact HB.out|apply Bag.alloc|apply Bag.drew)));(focus(simp only[mem_less,List.mem_cons,List.not_mem_nil,or_false,Qah,World.size_alloc,true_or,or_true,true_and,and_true]<;>omega));(focus(repeat(first|exact List.Mem.head _|apply List.Mem.tail)));(focus(repeat(first|exact List.Mem.head _|apply List.Mem.tail)));omega;rintro e w1 ⟨rfl,hbag,hsz,hlt⟩;clear HB;have HB:=Hi hbag;clear hbag
    (try simp only[Qah,World.size_alloc] at hsz))
  |
   (go_at_call 57
    apply Calls.mono;apply Bag.den (w0:=w);(focus(repeat(first|exact HB.out|apply Bag.alloc|apply Bag.drew)));(focus(repeat(first|exact List.Mem.head _|apply List.Mem.tail)));rintro e w1 ⟨b1,o1,rfl,hbag,hsz⟩;clear HB;have HB:=Hi hbag;clear hbag
    (try simp only[Qah,World.size_alloc] at hsz))
  |
   (go_at_call 112
    apply Calls.mono;apply Bag.sub (w0:=w);(focus(repeat(first|exact HB.out|apply Bag.alloc|apply Bag.drew)));(focus(simp only[mem_less,List.mem_cons,List.not_mem_nil,or_false,Qah,World.size_alloc,true_or,or_true,true_and,and_true]<;>omega));(focus(repeat(first|exact List.Mem.head _|apply List.Mem.tail)));(focus(repeat(first|exact List.Mem.head _|apply List.Mem.tail)));omega;rintro e w1 ⟨rfl,hbag,hsz,hlt⟩;clear HB;have HB:=Hi hbag;clear hbag
    (try simp only[Qah,World.size_alloc] at hsz))
  |
   (go_at_call 54
    apply Calls.mono;apply Bag.setFrac (w0:=w);(focus(repeat(first|exact HB.out|apply Bag.alloc|apply Bag.drew)));(focus(repeat(first|exact List.Mem.head _|apply List.Mem.tail)));(focus(repeat(first|exact List.Mem.head _|apply List.Mem.tail)));(focus(repeat(first|exact List.Mem.head _|apply List.Mem.tail)));exact HPOS.out;omega;omega;rintro e w5 hok;have HF:=Hi hok;obtain⟨rfl,hon,hr⟩:=hok
    clear HB hon hr)
  )
 all_goals
  go_wp2_with (first
   |
    (go_at_call 57
     apply Calls.mono;apply Bag.den (w0:=w);(focus(repeat(first|exact HB.out|apply Bag.alloc|apply Bag.drew)));(focus(repeat(first|exact List.Mem.head _|apply List.Mem.tail)));rintro e w1 ⟨b1,o1,rfl,hbag,hsz⟩;clear HB;have HB:=Hi hbag;clear hbag
     (try simp only[Qah,World.size_alloc] at hsz))
   |
    (go_at_call 59
     apply Calls.mono;apply Bag.mul (w0:=w);(focus(repeat(first|exact HB.out|apply Bag.alloc|apply Bag.drew)));(focus(simp only[mem_less,List.mem_cons,List.not_mem_nil,or_false,Qah,World.size_alloc,true_or,or_true,true_and,and_true]<;>omega));(focus(repeat(first|exact List.Mem.head _|apply List.Mem.tail)));(focus(repeat(first|exact List.Mem.head _|apply List.Mem.tail)));omega;rintro e w1 ⟨rfl,hbag,hsz,hlt⟩;clear HB;have HB:=Hi hbag;clear hbag
     (try simp only[Qah,World.size_alloc] at hsz))
   |
    (go_at_call 54
     apply Calls.mono;apply Bag.setFrac (w0:=w);(focus(repeat(first|exact HB.out|apply Bag.alloc|apply Bag.drew)));(focus(repeat(first|exact List.Mem.head _|apply List.Mem.tail)));(focus(repeat(first|exact List.Mem.head _|apply List.Mem.tail)));(focus(repeat(first|exact List.Mem.head _|apply List.Mem.tail)));exact HPOS.out;omega;omega;rintro e w5 hok;have HF:=Hi hok;obtain⟨rfl,hon,hr⟩:=hok
     clear HB hon hr)
   )
  go_ret;rw[←HE.out];exact HF.out
def sgn3(X:Int):Int:=if X<0 then -1 else if X=0 then 0 else 1
def cmpZ(X Y:Int):Int:=if X<Y then -1 else if X=Y then 0 else 1
set_option maxHeartbeats 400000 in
theorem Qpy(b o:Nat)(X:Int)(a:Option Addr)(cap:Nat)(l:List Nat)(w:World)(hx:IntAt w b o X a cap l):
 Calls Tryz.prog 56 #[.pointer (some ⟨b,o,none⟩)] w fun e w'=>e=.returned (.int .i64 (sgn3 X))∧w'=w:=by
 have k0:=hx.neg;have k1:=hx.abs;by_cases h0:X=0
 ·
  have q:((l.length:Int) == 0)=true:=by
   have:=(hx.num.num.len_zero (by decide)).1 (by omega);simp[this]
  have HE:=Hi (show sgn3 X=0 by unfold sgn3;rw[if_neg (by omega),if_pos h0]);clear hx h0;go_enter Tryz.func56,Tryz.ntmps56;go_wp2;go_ret;exact⟨by rw[HE.out];rfl,rfl⟩
 ·
  have q:((l.length:Int) == 0)=false:=by
   rw[beq_eq_false_iff_ne];have:=(hx.num.num.len_zero (by decide)).2;omega
  by_cases hX:X<0
  ·
   have HE:=Hi (show sgn3 X= -1 by unfold sgn3;rw[if_pos hX]);rw[show decide (X<0)=true by simpa using hX] at k0;clear hx h0 hX;go_enter Tryz.func56,Tryz.ntmps56;go_wp2;go_ret;exact⟨by rw[HE.out];rfl,rfl⟩
  ·
   have HE:=Hi (show sgn3 X=1 by unfold sgn3;rw[if_neg hX,if_neg h0]);rw[show decide (X<0)=false by simpa using hX] at k0;clear hx h0 hX;go_enter Tryz.func56,Tryz.ntmps56;go_wp2;go_ret;exact⟨by rw[HE.out];rfl,rfl⟩
set_option maxHeartbeats 400000 in
theorem Qpz(b:Nat)(q:Rat)(w:World)(hx:RatVal w b q):
 Calls Tryz.prog 19 #[.pointer (some ⟨b,0,none⟩)] w fun e w'=>e=.returned (.int .i64 (sgn3 q.num))∧w'=w:=by
 obtain⟨D,a1,c1,l1,a2,c2,l2,h,hd⟩:=hx;have H:=Hi h.upper;clear h hd;go_enter Tryz.func19,Tryz.ntmps19;go_wp2_with fail;refine(Qpy b 0 q.num a1 c1 l1 _ H.out).mono ?_;rintro e w1 ⟨rfl,rfl⟩;go_wp2;go_ret;exact⟨rfl,rfl⟩
set_option maxHeartbeats 400000 in
theorem Qid(b:Nat)(w:World):
 Calls Tryz.prog 45 #[.pointer (some ⟨b,0,none⟩)] w fun e w'=>e=.returned (.pointer (some ⟨b,0,none⟩))∧w'=w:=by
 go_enter Tryz.func45,Tryz.ntmps45;go_wp2;go_ret;exact⟨rfl,rfl⟩
theorem Qp0(X Y:Int)(hX:X<0)(hY:Y<0):cmpZ X Y= -(cmp3 X.natAbs Y.natAbs):=by
 have e1:X.natAbs<Y.natAbs↔Y<X:=by omega
 have e2:X.natAbs=Y.natAbs↔X=Y:=by omega
 unfold cmpZ cmp3;rcases Int.lt_trichotomy X Y with h|h|h
 · rw[if_pos h,if_neg (by omega),if_neg (by omega)]
 · rw[if_neg (by omega),if_pos h,if_neg (by omega),if_pos (by omega)];rfl
 · rw[if_neg (by omega),if_neg (by omega),if_pos (by omega)];rfl
theorem Qp1(X Y:Int)(hX:0≤X)(hY:0≤Y):cmpZ X Y=cmp3 X.natAbs Y.natAbs:=by
 unfold cmpZ cmp3;rcases Int.lt_trichotomy X Y with h|h|h
 · rw[if_pos h,if_pos (by omega)]
 · rw[if_neg (by omega),if_pos h,if_neg (by omega),if_pos (by omega)]
 · rw[if_neg (by omega),if_neg (by omega),if_neg (by omega),if_neg (by omega)]
theorem Qp2(z:Int)(h1: -1≤z)(h2:z≤1):wrap64 z=z:=by unfold wrap64;omega
theorem neg3(x y:Nat):Ending.returned (.int .i64 (wrap64 (-cmp3 x y)))=Ending.returned (.int .i64 (-cmp3 x y)):=by
 have h:=Ql9 x y;rw[Qp2 _ (by omega) (by omega)]
set_option maxHeartbeats 1000000 in
theorem Qp3(bx ox:Nat)(X:Int)(a:Option Addr)(cap:Nat)(l:List Nat)(bv ov:Nat)(Y:Int)(b:Option Addr)(cap':Nat)(m:List Nat)(w:World)(hx:IntAt w bx ox X a cap l)(hy:IntAt w bv ov Y b cap' m):
 Calls Tryz.prog 58 #[.pointer (some ⟨bx,ox,none⟩),.pointer (some ⟨bv,ov,none⟩)] w fun e w'=>e=.returned (.int .i64 (cmpZ X Y))∧Below w.heap.size w w':=by
 have k0:=hx.neg;have k1:=hx.abs;have j0:=hy.neg;have j1:=hy.abs;have hlt:=hx.lt;have hlt':=hy.lt;have HX:=Hi hx.num;have HY:=Hi hy.num;clear hx hy;by_cases hXY:decide (X<0)=decide (Y<0)
 ·
  by_cases hX:X<0
  ·
   rw[show decide (X<0)=true by simpa using hX] at k0;rw[show decide (Y<0)=true by simp at hXY ⊢;omega] at j0;have HE:=Hi (Qp0 X Y (by omega) (by simp at hXY;omega));clear hXY hX;go_enter Tryz.func58,Tryz.ntmps58;go_wp2_with fail;go_region;go_wp2_with fail;go_region_held3 (fun w'=>w'.cell? ⟨bx,ox+1,none⟩=some (.slice a l.length cap)∧w'.cell? ⟨bv,ov+1,none⟩=some (.slice b m.length cap')) ((simp [*])) (first|(go_at_call 111;refine(Qa4 a b cap cap' l m X.natAbs Y.natAbs _ ?_ ?_).mono ?_;exact HX.out.below (((Below.refl _ _).drew).drew);exact HY.out.below (((Below.refl _ _).drew).drew);rintro e w1 ⟨rfl,hb1⟩;have HB:=Hi (((Below.refl w.heap.size w).drew.drew).trans hb1);have d0:=(hb1.cell (p:=⟨bx,ox,none⟩) hlt).trans k0;have d1:=(hb1.cell (p:=⟨bx,ox+1,none⟩) hlt).trans k1;have d2:=(hb1.cell (p:=⟨bv,ov+1,none⟩) hlt').trans j1;clear hb1));go_wp2;go_ret;exact⟨by rw[HE.out];exact neg3 _ _,HB.out⟩
  ·
   rw[show decide (X<0)=false by simpa using hX] at k0;rw[show decide (Y<0)=false by simp at hXY ⊢;omega] at j0;have HE:=Hi (Qp1 X Y (by omega) (by simp at hXY;omega));clear hXY hX;go_enter Tryz.func58,Tryz.ntmps58;go_wp2_with fail;go_region;go_wp2_with fail;go_region_held3 (fun w'=>w'.cell? ⟨bx,ox+1,none⟩=some (.slice a l.length cap)∧w'.cell? ⟨bv,ov+1,none⟩=some (.slice b m.length cap')) ((simp [*])) (first|(go_at_call 111;refine(Qa4 a b cap cap' l m X.natAbs Y.natAbs _ ?_ ?_).mono ?_;exact HX.out.below (((Below.refl _ _).drew).drew);exact HY.out.below (((Below.refl _ _).drew).drew);rintro e w1 ⟨rfl,hb1⟩;have HB:=Hi (((Below.refl w.heap.size w).drew.drew).trans hb1);have d0:=(hb1.cell (p:=⟨bx,ox,none⟩) hlt).trans k0;have d1:=(hb1.cell (p:=⟨bx,ox+1,none⟩) hlt).trans k1;have d2:=(hb1.cell (p:=⟨bv,ov+1,none⟩) hlt').trans j1;clear hb1));go_wp2;go_ret;exact⟨by rw[HE.out];rfl,HB.out⟩
 ·
  by_cases hX:X<0
  ·
   rw[show decide (X<0)=true by simpa using hX] at k0;rw[show decide (Y<0)=false by simp at hXY ⊢;omega] at j0;have HE:=Hi (show cmpZ X Y= -1 by unfold cmpZ;rw[if_pos (by simp at hXY;omega)]);clear hXY hX;go_enter Tryz.func58,Tryz.ntmps58;go_wp2_with fail;go_region;go_wp2;go_ret;exact⟨by rw[HE.out];rfl,(Below.refl _ _).drew⟩
  ·
   rw[show decide (X<0)=false by simpa using hX] at k0;rw[show decide (Y<0)=true by simp at hXY ⊢;omega] at j0;have HE:=Hi (show cmpZ X Y=1 by unfold cmpZ;rw[if_neg (by simp at hXY;omega),if_neg (by simp at hXY;omega)]);clear hXY hX;go_enter Tryz.func58,Tryz.ntmps58;go_wp2_with fail;go_region;go_wp2;go_ret;exact⟨by rw[HE.out];rfl,(Below.refl _ _).drew⟩
theorem Qp4(X:Int): -X=if (!decide (X<0))=true then -(X.natAbs:Int) else (X.natAbs:Int):=by
 by_cases h:X<0
 · simp[h];omega
 · simp[h];omega
set_option maxHeartbeats 1000000 in
theorem Qp5(bz oz:Nat)(t:TypeId)(C:Array Value)(X:Int)(a:Option Addr)(cap:Nat)(l:List Nat)(w:World)(hs:SB w bz t C)(hn:NoInt C)(ho:oz+1<C.size)(hx:IntAt w bz oz X a cap l):
 Calls Tryz.prog 110 #[.pointer (some ⟨bz,oz,none⟩),.pointer (some ⟨bz,oz,none⟩)] w (LaidOk w bz oz t C (-X)):=by
 have k0:=hx.neg;have k1:=hx.abs;have hlt:=hx.lt;have HS:=Hi hs;have HN:=Hi hn;have HX:=Hi hx.num;clear hs hn hx;go_enter Tryz.func110,Tryz.ntmps110;go_wp2;go_region_with (first
  |(go_at_call 132;refine(Qc0 a cap l X.natAbs _ ?_).mono ?_;exact HX.out.drew;rintro e w1 ⟨⟨a1,cap1,rfl,hu1⟩,hb1⟩;have c0:=(hb1.cell (p:=⟨bz,oz,none⟩) hlt).trans k0;have c1:=(hb1.cell (p:=⟨bz,oz+1,none⟩) hlt).trans k1;have HU1:=Hi hu1;have HB1:=Hi ((Below.refl w.heap.size w).drew.trans hb1);clear hu1 hb1)
  |(go_at_call 106;refine(Qbk bz oz t C _ a1 cap1 l X.natAbs (-X) _ ?_ HN.out ho HU1.out ?_).mono ?_;exact HS.out.below HB1.out HS.out.lt;exact Qp4 X;rintro e w2 ⟨rfl,hl⟩;have HL:=Hi hl;clear hl))
 all_goals
  go_wp2;go_ret;exact LaidOk.of (Only.of_below HB1.out) ⟨rfl,_,_,_,HL.out⟩
set_option maxHeartbeats 1000000 in
theorem Qp6(bz bx j:Nat)(p:Rat)(w:World)(hz:(Thing.room bz).holds w)(hx:RatVal w bx p)(hp:Fits p j)(hj:j<549755813000):
 Calls Tryz.prog 109 #[.pointer (some ⟨bz,0,none⟩),.pointer (some ⟨bx,0,none⟩)] w (RatOk w bz p):=by
 have HPOS:=Hi (Qay p);have HE:=Hi (show mkRat p.num (p.den:Int).natAbs=p by rw[Int.natAbs_natCast,Rat.mkRat_self]);have HB:=Hi (Bag.one hx hz hp);clear hx hz hp;go_enter Tryz.func109,Tryz.ntmps109;go_wp2;go_region_held3 (fun _=>True) (trivial) (first
  |(
   go_at_call 57;apply Calls.mono;apply Bag.den (w0:=w);(focus(repeat(first|exact HB.out|apply Bag.alloc|apply Bag.drew)));(focus(repeat(first|exact List.Mem.head _|apply List.Mem.tail)));rintro e w1 ⟨b1,o1,rfl,hbag,hsz⟩;clear HB;have HB:=Hi hbag
   clear hbag)
  |(
   go_at_call 54;apply Calls.mono;apply Bag.setFrac (w0:=w);(focus(repeat(first|exact HB.out|apply Bag.alloc|apply Bag.drew)));(focus(repeat(first|exact List.Mem.head _|apply List.Mem.tail)));(focus(repeat(first|exact List.Mem.head _|apply List.Mem.tail)));(focus(repeat(first|exact List.Mem.head _|apply List.Mem.tail)));exact HPOS.out;omega;omega;rintro e w5 hok;have HF:=Hi hok;obtain⟨rfl,hon,hr⟩:=hok
   clear HB hon hr))
 go_wp2;go_ret;rw[←HE.out];exact HF.out
set_option maxHeartbeats 1000000 in
theorem Qie(bz bx j:Nat)(p:Rat)(w:World)(hz:(Thing.room bz).holds w)(hx:RatVal w bx p)(hp:Fits p j)(hj:j<549755813000):
 Calls Tryz.prog 55 #[.pointer (some ⟨bz,0,none⟩),.pointer (some ⟨bx,0,none⟩)] w (RatOk w bz (-p)):=by
 have HC:=Hi (Qp6 bz bx j p w hz hx hp hj);clear hx hz hp hj;go_enter Tryz.func55,Tryz.ntmps55;go_wp2_with fail;refine HC.out.mono ?_;rintro e w1 ⟨rfl,hon,a1,c1,l1,a2,c2,l2,hr⟩;have HR:=Hi hr;have HON:=Hi hon;clear hr hon HC;go_wp2_with fail;have HC:=Hi (Qp5 bz 0 101 _ p.num a1 c1 l1 _ HR.out.sb.drew (Qal _ _ _ _ _ _ _ _) (by simp) HR.out.drew.upper);go_region_held3 (fun _=>True) (trivial) (first
  |(
   go_at_call 110;refine HC.out.mono ?_;rintro e w2 ⟨rfl,a,cap,l,hl⟩;have HL:=Hi hl
   clear hl))
 go_wp2;go_ret;refine⟨rfl,HON.out.drew.trans HL.out.only,a,cap,l,a2,c2,l2,?_,?_,?_⟩
 ·
  have:=HL.out.sb;rw[Rat.neg_num,Rat.neg_den]
  simpa [putInt] using this
 · rw[Rat.neg_num];exact HL.out.num
 · rw[Rat.neg_den];exact HR.out.den.drew.only HL.out.only HR.out.sb.drew (Qal _ _ _ _ _ _ _ _)
set_option maxHeartbeats 1000000 in
theorem Qif(b:Nat)(q:Rat)(w:World)(hx:RatVal w b q):
 Calls Tryz.prog 44 #[.pointer (some ⟨b,0,none⟩)] w fun e w'=>e=.returned (.bool (decide (q.den=1)))∧Below w.heap.size w w':=by
 obtain⟨D,a1,c1,l1,a2,c2,l2,h,hd⟩:=hx;have H:=Hi h;have HD:=Hi hd;have HE:=Hi (show (cmpZ (q.den:Int) 1 == 0)=decide (q.den=1) by
  unfold cmpZ;by_cases h1:q.den=1
  · rw[if_neg (by omega),if_pos (by omega)];simp[h1]
  · have:=q.den_pos
    rw[if_neg (by omega),if_neg (by omega)];simp[h1])
 clear h hd;go_enter Tryz.func44,Tryz.ntmps44;go_wp2_with fail;refine(Qig b q.num D q.den a1 a2 c1 c2 l1 l2 w H.out HD.out (Qay q)).mono ?_;rintro e w1 ⟨⟨b',o,a,cap,l,rfl,hi,hb⟩,hbl⟩;have HI:=Hi hi;have HB1:=Hi hbl;clear hi hb hbl;go_wp2_with fail;refine(Qbc 1 _ (by decide) (by decide)).mono ?_;rintro e w2 ⟨⟨b2,a3,cap3,l3,rfl,hb',hs,hu⟩,hb⟩;have HI2:=Hi (show IntAt w2 b2 0 1 a3 cap3 l3 from ⟨by rw[hs.cell];rfl,by rw[hs.cell];rfl,hu,hs.lt⟩);have HB2:=Hi hb;clear hb' hs hu hb;go_wp2_with fail;refine(Qp3 b' o q.den a cap l b2 0 1 a3 cap3 l3 _ (HI.out.below HB2.out) HI2.out).mono ?_;rintro e w3 ⟨rfl,hb3⟩;have HB3:=Hi hb3;clear hb3;go_wp2;go_ret;refine⟨by rw[←HE.out];rfl,(HB1.out.trans (HB2.out.mono HB1.out.size)).trans (HB3.out.mono (Nat.le_trans HB1.out.size HB2.out.size))⟩
set_option maxHeartbeats 1000000 in
theorem Qp7(b:Nat)(q:Rat)(w:World)(hx:RatVal w b q):
 Calls Tryz.prog 47 #[.pointer (some ⟨b,0,none⟩)] w fun e w'=>(∃b' a cap l,e=.returned (.pointer (some ⟨b',0,none⟩))∧IntAt w' b' 0 q.den a cap l)∧Below w.heap.size w w':=by
 obtain⟨D,a1,c1,l1,a2,c2,l2,h,hd⟩:=hx;have HB:Hid (Bag w w [] [.rat b q.den l2.length]):=Hi ⟨Below.refl _ _,fun n hn=>(by cases hn),fun t ht=>by
  rcases List.mem_cons.1 ht with rfl|ht
  · exact⟨⟨_,D,a1,c1,l1,a2,c2,l2,h,hd,Qay q,Nat.le_refl _⟩,List.not_mem_nil⟩
  · cases ht⟩
 clear h hd;go_enter Tryz.func47,Tryz.ntmps47;go_wp2_with (first
  |(
   go_at_call 57;apply Calls.mono;apply Bag.den (w0:=w);(focus(repeat(first|exact HB.out|apply Bag.alloc|apply Bag.drew)));(focus(repeat(first|exact List.Mem.head _|apply List.Mem.tail)));rintro e w1 ⟨b1,o1,rfl,hbag,hsz⟩;clear HB;have HB:=Hi hbag
   clear hbag)
  |(
   go_at_call 93;apply Calls.mono;apply Bag.set (w0:=w);(focus(repeat(first|exact HB.out|apply Bag.alloc|apply Bag.drew)));exact List.Mem.head _;(focus(repeat(first|exact List.Mem.head _|apply List.Mem.tail)));rintro e w1 ⟨rfl,hbag,hsz',hlt⟩;clear HB;have HB:=Hi hbag
   clear hbag))
 go_ret;obtain⟨⟨a,cap,l,hi,hl⟩,_⟩:=HB.out.ts _ (List.Mem.head _);exact⟨⟨_,a,cap,l,rfl,hi⟩,HB.out.base⟩
end Go.Proofs.YtldjeecnapgakaaGreatDoor
