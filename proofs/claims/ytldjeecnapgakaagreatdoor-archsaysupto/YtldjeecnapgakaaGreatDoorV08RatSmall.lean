/- rafterbig: Int's Sign, Cmp, Neg onto itself; Rat's Sign, Set, Neg, SetInt64, IsInt, Num, Denom. -/
import Derived.Test.YtldjeecnapgakaaGreatDoorV07RatBag
namespace Go.Proofs.YtldjeecnapgakaaGreatDoor
open Go.RowKit
open Go.Proofs.Tryz
set_option linter.unusedSimpArgs false
set_option linter.unusedVariables false
set_option maxHeartbeats 8000000
set_option maxRecDepth 1000000
theorem Qab(w:World):w.drew.heap.size=w.heap.size:=rfl
theorem Qq9(bz bx bv j k:Nat)(p q:Rat)(w:World)(hz:(Thing.room bz).holds w)(hx:RatVal w bx p)(hy:RatVal w bv q)(hp:Fits p j)(hq:Fits q k)(hj:j+k<274877906000):
 Calls prog 63 #[.pointer (some ⟨bz,0,none⟩),.pointer (some ⟨bx,0,none⟩),.pointer (some ⟨bv,0,none⟩)] w (RatOk w bz (p*q)):=by
 have hd1:=Qar p;have hd2:=Qar q;obtain⟨HPOS,HE,HB⟩:=Ib (Int.mul_pos hd1 hd2) (Qff p q) (Bag.two hx hy hz hp hq);clear hx hy hz hp hq hd1 hd2;go_enter func63,ntmps63;go_wp2;go_region_held3 (fun _=>True) (trivial) (first
  |
   (go_at_call 59
    apply cM;apply Bag.mul (w0:=w);(focus(repeat(first|exact HB.o|apply Bag.alloc|apply Bag.drew)));(focus(simp only[mem_less,List.mem_cons,List.not_mem_nil,or_false,Qab,World.size_alloc,true_or,or_true,true_and,and_true]<;>omega));(focus(repeat(first|exact mH|apply mT)));(focus(repeat(first|exact mH|apply mT)));omega;rintro e w1 ⟨rfl,hbag,hsz,hlt⟩;clear HB;have HB:=Hi hbag;clear hbag
    (try simp only[Qab,World.size_alloc] at hsz))
  |
   (go_at_call 57
    apply cM;apply Bag.den (w0:=w);(focus(repeat(first|exact HB.o|apply Bag.alloc|apply Bag.drew)));(focus(repeat(first|exact mH|apply mT)));rintro e w1 ⟨b1,o1,rfl,hbag,hsz⟩;clear HB;have HB:=Hi hbag;clear hbag
    (try simp only[Qab,World.size_alloc] at hsz))
  |
   (go_at_call 59
    apply cM;apply Bag.mul (w0:=w);(focus(repeat(first|exact HB.o|apply Bag.alloc|apply Bag.drew)));(focus(simp only[mem_less,List.mem_cons,List.not_mem_nil,or_false,Qab,World.size_alloc,true_or,or_true,true_and,and_true]<;>omega));(focus(repeat(first|exact mH|apply mT)));(focus(repeat(first|exact mH|apply mT)));omega;rintro e w1 ⟨rfl,hbag,hsz,hlt⟩;clear HB;have HB:=Hi hbag;clear hbag
    (try simp only[Qab,World.size_alloc] at hsz))
  |
   (go_at_call 54
    apply cM;apply Bag.setFrac (w0:=w);(focus(repeat(first|exact HB.o|apply Bag.alloc|apply Bag.drew)));(focus(repeat(first|exact mH|apply mT)));(focus(repeat(first|exact mH|apply mT)));(focus(repeat(first|exact mH|apply mT)));exact HPOS.o;omega;omega;rintro e w5 hok;have HF:=Hi hok;obtain⟨rfl,hon,hr⟩:=hok
    clear HB hon hr)
  )
 all_goals
  go_wp2;go_ret;rw[<-HE.o];exact HF.o
theorem Qra(bz bx bv j k:Nat)(p q:Rat)(w:World)(hz:(Thing.room bz).holds w)(hx:RatVal w bx p)(hy:RatVal w bv q)(hp:Fits p j)(hq:Fits q k)(hj:j+k<274877906000)(hq0:0<q.num):
 Calls prog 91 #[.pointer (some ⟨bz,0,none⟩),.pointer (some ⟨bx,0,none⟩),.pointer (some ⟨bv,0,none⟩)] w (RatOk w bz (p / q)):=by
 have hd1:=Qar p;have hd2:=Qar q;obtain⟨HPOS,HE,HB⟩:=Ib (Int.mul_pos hd1 hq0) (Qi2 p q hq0) (Bag.two hx hy hz hp hq);clear hx hy hz hp hq hd1 hd2;go_enter func91,ntmps91;go_wp2;go_region_held3 (fun _=>True) (trivial) (first
  |
   (go_at_call 59
    apply cM;apply Bag.mul (w0:=w);(focus(repeat(first|exact HB.o|apply Bag.alloc|apply Bag.drew)));(focus(simp only[mem_less,List.mem_cons,List.not_mem_nil,or_false,Qab,World.size_alloc,true_or,or_true,true_and,and_true]<;>omega));(focus(repeat(first|exact mH|apply mT)));(focus(repeat(first|exact mH|apply mT)));omega;rintro e w1 ⟨rfl,hbag,hsz,hlt⟩;clear HB;have HB:=Hi hbag;clear hbag
    (try simp only[Qab,World.size_alloc] at hsz))
  |
   (go_at_call 57
    apply cM;apply Bag.den (w0:=w);(focus(repeat(first|exact HB.o|apply Bag.alloc|apply Bag.drew)));(focus(repeat(first|exact mH|apply mT)));rintro e w1 ⟨b1,o1,rfl,hbag,hsz⟩;clear HB;have HB:=Hi hbag;clear hbag
    (try simp only[Qab,World.size_alloc] at hsz))
  |
   (go_at_call 59
    apply cM;apply Bag.mul (w0:=w);(focus(repeat(first|exact HB.o|apply Bag.alloc|apply Bag.drew)));(focus(simp only[mem_less,List.mem_cons,List.not_mem_nil,or_false,Qab,World.size_alloc,true_or,or_true,true_and,and_true]<;>omega));(focus(repeat(first|exact mH|apply mT)));(focus(repeat(first|exact mH|apply mT)));omega;rintro e w1 ⟨rfl,hbag,hsz,hlt⟩;clear HB;have HB:=Hi hbag;clear hbag
    (try simp only[Qab,World.size_alloc] at hsz))
  |
   (go_at_call 54
    apply cM;apply Bag.setFrac (w0:=w);(focus(repeat(first|exact HB.o|apply Bag.alloc|apply Bag.drew)));(focus(repeat(first|exact mH|apply mT)));(focus(repeat(first|exact mH|apply mT)));(focus(repeat(first|exact mH|apply mT)));exact HPOS.o;omega;omega;rintro e w5 hok;have HF:=Hi hok;obtain⟨rfl,hon,hr⟩:=hok
    clear HB hon hr)
  )
 all_goals
  go_wp2;go_ret;rw[<-HE.o];exact HF.o
theorem Qq0(bz bx bv j k:Nat)(p q:Rat)(w:World)(hz:(Thing.room bz).holds w)(hx:RatVal w bx p)(hy:RatVal w bv q)(hp:Fits p j)(hq:Fits q k)(hj:j+k<274877906000):
 Calls prog 62 #[.pointer (some ⟨bz,0,none⟩),.pointer (some ⟨bx,0,none⟩),.pointer (some ⟨bv,0,none⟩)] w (RatOk w bz (p+q)):=by
 have hd1:=Qar p;have hd2:=Qar q;obtain⟨HPOS,HE,HB⟩:=Ib (Int.mul_pos hd1 hd2) (Qdw p q) (Bag.two hx hy hz hp hq);clear hx hy hz hp hq hd1 hd2;go_enter func62,ntmps62;go_wp2;go_region_held3 (fun _=>True) (trivial) (first
  |
   (go_at_call 59
    apply cM;apply Bag.mul (w0:=w);(focus(repeat(first|exact HB.o|apply Bag.alloc|apply Bag.drew)));(focus(simp only[mem_less,List.mem_cons,List.not_mem_nil,or_false,Qab,World.size_alloc,true_or,or_true,true_and,and_true]<;>omega));(focus(repeat(first|exact mH|apply mT)));(focus(repeat(first|exact mH|apply mT)));omega;rintro e w1 ⟨rfl,hbag,hsz,hlt⟩;clear HB;have HB:=Hi hbag;clear hbag
    (try simp only[Qab,World.size_alloc] at hsz))
  |
   (go_at_call 57
    apply cM;apply Bag.den (w0:=w);(focus(repeat(first|exact HB.o|apply Bag.alloc|apply Bag.drew)));(focus(repeat(first|exact mH|apply mT)));rintro e w1 ⟨b1,o1,rfl,hbag,hsz⟩;clear HB;have HB:=Hi hbag;clear hbag
    (try simp only[Qab,World.size_alloc] at hsz))
  |
   (go_at_call 113
    apply cM;apply Bag.add (w0:=w);(focus(repeat(first|exact HB.o|apply Bag.alloc|apply Bag.drew)));(focus(simp only[mem_less,List.mem_cons,List.not_mem_nil,or_false,Qab,World.size_alloc,true_or,or_true,true_and,and_true]<;>omega));(focus(repeat(first|exact mH|apply mT)));(focus(repeat(first|exact mH|apply mT)));omega;rintro e w1 ⟨rfl,hbag,hsz,hlt⟩;clear HB;have HB:=Hi hbag;clear hbag
    (try simp only[Qab,World.size_alloc] at hsz))
  |
   (go_at_call 54
    apply cM;apply Bag.setFrac (w0:=w);(focus(repeat(first|exact HB.o|apply Bag.alloc|apply Bag.drew)));(focus(repeat(first|exact mH|apply mT)));(focus(repeat(first|exact mH|apply mT)));(focus(repeat(first|exact mH|apply mT)));exact HPOS.o;omega;omega;rintro e w5 hok;have HF:=Hi hok;obtain⟨rfl,hon,hr⟩:=hok
    clear HB hon hr)
  )
 all_goals
  go_wp2_with (first
   |
    (go_at_call 57
     apply cM;apply Bag.den (w0:=w);(focus(repeat(first|exact HB.o|apply Bag.alloc|apply Bag.drew)));(focus(repeat(first|exact mH|apply mT)));rintro e w1 ⟨b1,o1,rfl,hbag,hsz⟩;clear HB;have HB:=Hi hbag;clear hbag
     (try simp only[Qab,World.size_alloc] at hsz))
   |
    (go_at_call 59
     apply cM;apply Bag.mul (w0:=w);(focus(repeat(first|exact HB.o|apply Bag.alloc|apply Bag.drew)));(focus(simp only[mem_less,List.mem_cons,List.not_mem_nil,or_false,Qab,World.size_alloc,true_or,or_true,true_and,and_true]<;>omega));(focus(repeat(first|exact mH|apply mT)));(focus(repeat(first|exact mH|apply mT)));omega;rintro e w1 ⟨rfl,hbag,hsz,hlt⟩;clear HB;have HB:=Hi hbag;clear hbag
     (try simp only[Qab,World.size_alloc] at hsz))
   |
    (go_at_call 54
     apply cM;apply Bag.setFrac (w0:=w);(focus(repeat(first|exact HB.o|apply Bag.alloc|apply Bag.drew)));(focus(repeat(first|exact mH|apply mT)));(focus(repeat(first|exact mH|apply mT)));(focus(repeat(first|exact mH|apply mT)));exact HPOS.o;omega;omega;rintro e w5 hok;have HF:=Hi hok;obtain⟨rfl,hon,hr⟩:=hok
     clear HB hon hr)
   )
  go_ret;rw[<-HE.o];exact HF.o
theorem Qq1(bz bx bv j k:Nat)(p q:Rat)(w:World)(hz:(Thing.room bz).holds w)(hx:RatVal w bx p)(hy:RatVal w bv q)(hp:Fits p j)(hq:Fits q k)(hj:j+k<274877906000):
 Calls prog 61 #[.pointer (some ⟨bz,0,none⟩),.pointer (some ⟨bx,0,none⟩),.pointer (some ⟨bv,0,none⟩)] w (RatOk w bz (p - q)):=by
 have hd1:=Qar p;have hd2:=Qar q;obtain⟨HPOS,HE,HB⟩:=Ib (Int.mul_pos hd1 hd2) (Qq2 p q) (Bag.two hx hy hz hp hq);clear hx hy hz hp hq hd1 hd2;go_enter func61,ntmps61;go_wp2;go_region_held3 (fun _=>True) (trivial) (first
  |
   (go_at_call 59
    apply cM;apply Bag.mul (w0:=w);(focus(repeat(first|exact HB.o|apply Bag.alloc|apply Bag.drew)));(focus(simp only[mem_less,List.mem_cons,List.not_mem_nil,or_false,Qab,World.size_alloc,true_or,or_true,true_and,and_true]<;>omega));(focus(repeat(first|exact mH|apply mT)));(focus(repeat(first|exact mH|apply mT)));omega;rintro e w1 ⟨rfl,hbag,hsz,hlt⟩;clear HB;have HB:=Hi hbag;clear hbag
    (try simp only[Qab,World.size_alloc] at hsz))
  |
   (go_at_call 57
    apply cM;apply Bag.den (w0:=w);(focus(repeat(first|exact HB.o|apply Bag.alloc|apply Bag.drew)));(focus(repeat(first|exact mH|apply mT)));rintro e w1 ⟨b1,o1,rfl,hbag,hsz⟩;clear HB;have HB:=Hi hbag;clear hbag
    (try simp only[Qab,World.size_alloc] at hsz))
  |
   (go_at_call 112
    apply cM;apply Bag.sub (w0:=w);(focus(repeat(first|exact HB.o|apply Bag.alloc|apply Bag.drew)));(focus(simp only[mem_less,List.mem_cons,List.not_mem_nil,or_false,Qab,World.size_alloc,true_or,or_true,true_and,and_true]<;>omega));(focus(repeat(first|exact mH|apply mT)));(focus(repeat(first|exact mH|apply mT)));omega;rintro e w1 ⟨rfl,hbag,hsz,hlt⟩;clear HB;have HB:=Hi hbag;clear hbag
    (try simp only[Qab,World.size_alloc] at hsz))
  |
   (go_at_call 54
    apply cM;apply Bag.setFrac (w0:=w);(focus(repeat(first|exact HB.o|apply Bag.alloc|apply Bag.drew)));(focus(repeat(first|exact mH|apply mT)));(focus(repeat(first|exact mH|apply mT)));(focus(repeat(first|exact mH|apply mT)));exact HPOS.o;omega;omega;rintro e w5 hok;have HF:=Hi hok;obtain⟨rfl,hon,hr⟩:=hok
    clear HB hon hr)
  )
 all_goals
  go_wp2_with (first
   |
    (go_at_call 57
     apply cM;apply Bag.den (w0:=w);(focus(repeat(first|exact HB.o|apply Bag.alloc|apply Bag.drew)));(focus(repeat(first|exact mH|apply mT)));rintro e w1 ⟨b1,o1,rfl,hbag,hsz⟩;clear HB;have HB:=Hi hbag;clear hbag
     (try simp only[Qab,World.size_alloc] at hsz))
   |
    (go_at_call 59
     apply cM;apply Bag.mul (w0:=w);(focus(repeat(first|exact HB.o|apply Bag.alloc|apply Bag.drew)));(focus(simp only[mem_less,List.mem_cons,List.not_mem_nil,or_false,Qab,World.size_alloc,true_or,or_true,true_and,and_true]<;>omega));(focus(repeat(first|exact mH|apply mT)));(focus(repeat(first|exact mH|apply mT)));omega;rintro e w1 ⟨rfl,hbag,hsz,hlt⟩;clear HB;have HB:=Hi hbag;clear hbag
     (try simp only[Qab,World.size_alloc] at hsz))
   |
    (go_at_call 54
     apply cM;apply Bag.setFrac (w0:=w);(focus(repeat(first|exact HB.o|apply Bag.alloc|apply Bag.drew)));(focus(repeat(first|exact mH|apply mT)));(focus(repeat(first|exact mH|apply mT)));(focus(repeat(first|exact mH|apply mT)));exact HPOS.o;omega;omega;rintro e w5 hok;have HF:=Hi hok;obtain⟨rfl,hon,hr⟩:=hok
     clear HB hon hr)
   )
  go_ret;rw[<-HE.o];exact HF.o
def sgn3(X:Int):Int:=if X<0 then -1 else if X=0 then 0 else 1
def cmpZ(X Y:Int):Int:=if X<Y then -1 else if X=Y then 0 else 1
theorem Qrl(b o:Nat)(X:Int)(a:Option Addr)(cap:Nat)(l:List Nat)(w:World)(hx:IntAt w b o X a cap l):
 Calls prog 56 #[.pointer (some ⟨b,o,none⟩)] w fun e w'=>e=.returned (.int .i64 (sgn3 X))/\w'=w:=by
 have k0:=hx.neg;have k1:=hx.abs;by_cases h0:X=0
 .
  have q:((l.length:Int) == 0)=true:=by
   have:=(hx.num.num.len_zero (by decide)).1 (by omega);simp[this]
  have HE:=Hi (show sgn3 X=0 by unfold sgn3;rw[if_neg (by omega),if_pos h0]);clear hx h0;go_enter func56,ntmps56;go_wp2;go_ret;exact⟨by rw[HE.o];rfl,rfl⟩
 .
  have q:((l.length:Int) == 0)=false:=by
   rw[beq_eq_false_iff_ne];have:=(hx.num.num.len_zero (by decide)).2;omega
  by_cases hX:X<0
  .
   have HE:=Hi (show sgn3 X= -1 by unfold sgn3;rw[if_pos hX]);rw[show decide (X<0)=true by simpa using hX] at k0;clear hx h0 hX;go_enter func56,ntmps56;go_wp2;go_ret;exact⟨by rw[HE.o];rfl,rfl⟩
  .
   have HE:=Hi (show sgn3 X=1 by unfold sgn3;rw[if_neg hX,if_neg h0]);rw[show decide (X<0)=false by simpa using hX] at k0;clear hx h0 hX;go_enter func56,ntmps56;go_wp2;go_ret;exact⟨by rw[HE.o];rfl,rfl⟩
theorem Qrm(b:Nat)(q:Rat)(w:World)(hx:RatVal w b q):
 Calls prog 19 #[.pointer (some ⟨b,0,none⟩)] w fun e w'=>e=.returned (.int .i64 (sgn3 q.num))/\w'=w:=by
 obtain⟨D,a1,c1,l1,a2,c2,l2,h,hd⟩:=hx;have H:=Hi h.upper;clear h hd;go_enter func19,ntmps19;go_wp2_with fail;refine(Qrl b 0 q.num a1 c1 l1 _ H.o).mono ?_;rintro e w1 ⟨rfl,rfl⟩;go_wp2;go_ret;exact⟨rfl,rfl⟩
theorem Qi6(b:Nat)(w:World):
 Calls prog 45 #[.pointer (some ⟨b,0,none⟩)] w fun e w'=>e=.returned (.pointer (some ⟨b,0,none⟩))/\w'=w:=by
 go_enter func45,ntmps45;go_wp2;go_ret;exact⟨rfl,rfl⟩
theorem Qrn(X Y:Int)(hX:X<0)(hY:Y<0):cmpZ X Y= -(cmp3 X.natAbs Y.natAbs):=by
 have e1:X.natAbs<Y.natAbs↔Y<X:=by omega
 have e2:X.natAbs=Y.natAbs↔X=Y:=by omega
 unfold cmpZ cmp3;rcases Int.lt_trichotomy X Y with h|h|h
 . rw[if_pos h,if_neg (by omega),if_neg (by omega)]
 . rw[if_neg (by omega),if_pos h,if_neg (by omega),if_pos (by omega)];rfl
 . rw[if_neg (by omega),if_neg (by omega),if_pos (by omega)];rfl
theorem Qro(X Y:Int)(hX:0<=X)(hY:0<=Y):cmpZ X Y=cmp3 X.natAbs Y.natAbs:=by
 unfold cmpZ cmp3;rcases Int.lt_trichotomy X Y with h|h|h
 . rw[if_pos h,if_pos (by omega)]
 . rw[if_neg (by omega),if_pos h,if_neg (by omega),if_pos (by omega)]
 . rw[if_neg (by omega),if_neg (by omega),if_neg (by omega),if_neg (by omega)]
theorem Qrp(z:Int)(h1: -1<=z)(h2:z<=1):wrap64 z=z:=by unfold wrap64;omega
theorem neg3(x y:Nat):Ending.returned (.int .i64 (wrap64 (-cmp3 x y)))=Ending.returned (.int .i64 (-cmp3 x y)):=by
 have h:=Qnh x y;rw[Qrp _ (by omega) (by omega)]
theorem Qi7(bx ox:Nat)(X:Int)(a:Option Addr)(cap:Nat)(l:List Nat)(bv ov:Nat)(Y:Int)(b:Option Addr)(cap':Nat)(m:List Nat)(w:World)(hx:IntAt w bx ox X a cap l)(hy:IntAt w bv ov Y b cap' m):
 Calls prog 58 #[.pointer (some ⟨bx,ox,none⟩),.pointer (some ⟨bv,ov,none⟩)] w fun e w'=>e=.returned (.int .i64 (cmpZ X Y))/\Below w.heap.size w w':=by
 have k0:=hx.neg;have k1:=hx.abs;have j0:=hy.neg;have j1:=hy.abs;have hlt:=hx.lt;have hlt':=hy.lt;obtain⟨HX,HY⟩:=Ia hx.num hy.num;clear hx hy;by_cases hXY:decide (X<0)=decide (Y<0)
 .
  by_cases hX:X<0
  .
   rw[show decide (X<0)=true by simpa using hX] at k0;rw[show decide (Y<0)=true by simp at hXY ⊢;omega] at j0;have HE:=Hi (Qrn X Y (by omega) (by simp at hXY;omega));clear hXY hX;go_enter func58,ntmps58;go_wp2_with fail;go_region;go_wp2_with fail;go_region_held3 (fun w'=>w'.cell? ⟨bx,ox+1,none⟩=some (.slice a l.length cap)/\w'.cell? ⟨bv,ov+1,none⟩=some (.slice b m.length cap')) ((simp [*])) (first|(go_at_call 111;refine(Qba a b cap cap' l m X.natAbs Y.natAbs _ ?_ ?_).mono ?_;exact HX.o.below ((bR.drew).drew);exact HY.o.below ((bR.drew).drew);rintro e w1 ⟨rfl,hb1⟩;have HB:=Hi (((Below.refl w.heap.size w).drew.drew).trans hb1);have d0:=ce hb1 hlt k0;have d1:=ce hb1 hlt k1;have d2:=ce hb1 hlt' j1;clear hb1));go_wp2;go_ret;exact⟨by rw[HE.o];exact neg3 _ _,HB.o⟩
  .
   rw[show decide (X<0)=false by simpa using hX] at k0;rw[show decide (Y<0)=false by simp at hXY ⊢;omega] at j0;have HE:=Hi (Qro X Y (by omega) (by simp at hXY;omega));clear hXY hX;go_enter func58,ntmps58;go_wp2_with fail;go_region;go_wp2_with fail;go_region_held3 (fun w'=>w'.cell? ⟨bx,ox+1,none⟩=some (.slice a l.length cap)/\w'.cell? ⟨bv,ov+1,none⟩=some (.slice b m.length cap')) ((simp [*])) (first|(go_at_call 111;refine(Qba a b cap cap' l m X.natAbs Y.natAbs _ ?_ ?_).mono ?_;exact HX.o.below ((bR.drew).drew);exact HY.o.below ((bR.drew).drew);rintro e w1 ⟨rfl,hb1⟩;have HB:=Hi (((Below.refl w.heap.size w).drew.drew).trans hb1);have d0:=ce hb1 hlt k0;have d1:=ce hb1 hlt k1;have d2:=ce hb1 hlt' j1;clear hb1));go_wp2;go_ret;exact⟨by rw[HE.o];rfl,HB.o⟩
 .
  by_cases hX:X<0
  .
   rw[show decide (X<0)=true by simpa using hX] at k0;rw[show decide (Y<0)=false by simp at hXY ⊢;omega] at j0;have HE:=Hi (show cmpZ X Y= -1 by unfold cmpZ;rw[if_pos (by simp at hXY;omega)]);clear hXY hX;go_enter func58,ntmps58;go_wp2_with fail;go_region;go_wp2;go_ret;exact⟨by rw[HE.o];rfl,bR.drew⟩
  .
   rw[show decide (X<0)=false by simpa using hX] at k0;rw[show decide (Y<0)=true by simp at hXY ⊢;omega] at j0;have HE:=Hi (show cmpZ X Y=1 by unfold cmpZ;rw[if_neg (by simp at hXY;omega),if_neg (by simp at hXY;omega)]);clear hXY hX;go_enter func58,ntmps58;go_wp2_with fail;go_region;go_wp2;go_ret;exact⟨by rw[HE.o];rfl,bR.drew⟩
theorem Qrq(X:Int): -X=if (!decide (X<0))=true then -(X.natAbs:Int) else (X.natAbs:Int):=by
 by_cases h:X<0
 . simp[h];omega
 . simp[h];omega
theorem Qfg(bz oz:Nat)(t:TypeId)(C:Array Value)(X:Int)(a:Option Addr)(cap:Nat)(l:List Nat)(w:World)(hs:SB w bz t C)(hn:NoInt C)(ho:oz+1<C.size)(hx:IntAt w bz oz X a cap l):
 Calls prog 110 #[.pointer (some ⟨bz,oz,none⟩),.pointer (some ⟨bz,oz,none⟩)] w (LaidOk w bz oz t C (-X)):=by
 have k0:=hx.neg;have k1:=hx.abs;have hlt:=hx.lt;obtain⟨HS,HN,HX⟩:=Ib hs hn hx.num;clear hs hn hx;go_enter func110,ntmps110;go_wp2;go_region_with (first
  |(go_at_call 132;refine(Qdb a cap l X.natAbs _ ?_).mono ?_;exact HX.o.drew;rintro e w1 ⟨⟨a1,cap1,rfl,hu1⟩,hb1⟩;have c0:=ce hb1 hlt k0;have c1:=ce hb1 hlt k1;have HU1:=Hi hu1;have HB1:=Hi ((Below.refl w.heap.size w).drew.trans hb1);clear hu1 hb1)
  |(go_at_call 106;refine(Qbt bz oz t C _ a1 cap1 l X.natAbs (-X) _ ?_ HN.o ho HU1.o ?_).mono ?_;exact HS.o.below HB1.o HS.o.lt;exact Qrq X;rintro e w2 ⟨rfl,hl⟩;have HL:=Hi hl;clear hl))
 all_goals
  go_wp2;go_ret;exact LaidOk.of (Only.of_below HB1.o) ⟨rfl,_,_,_,HL.o⟩
theorem Qrr(bz bx j:Nat)(p:Rat)(w:World)(hz:(Thing.room bz).holds w)(hx:RatVal w bx p)(hp:Fits p j)(hj:j<549755813000):
 Calls prog 109 #[.pointer (some ⟨bz,0,none⟩),.pointer (some ⟨bx,0,none⟩)] w (RatOk w bz p):=by
 obtain⟨HPOS,HE,HB⟩:=Ib (Qar p) (show mkRat p.num (p.den:Int).natAbs=p by rw[Int.natAbs_natCast,Rat.mkRat_self]) (Bag.one hx hz hp);clear hx hz hp;go_enter func109,ntmps109;go_wp2;go_region_held3 (fun _=>True) (trivial) (first
  |(
   go_at_call 57;apply cM;apply Bag.den (w0:=w);(focus(repeat(first|exact HB.o|apply Bag.alloc|apply Bag.drew)));(focus(repeat(first|exact mH|apply mT)));rintro e w1 ⟨b1,o1,rfl,hbag,hsz⟩;clear HB;have HB:=Hi hbag
   clear hbag)
  |(
   go_at_call 54;apply cM;apply Bag.setFrac (w0:=w);(focus(repeat(first|exact HB.o|apply Bag.alloc|apply Bag.drew)));(focus(repeat(first|exact mH|apply mT)));(focus(repeat(first|exact mH|apply mT)));(focus(repeat(first|exact mH|apply mT)));exact HPOS.o;omega;omega;rintro e w5 hok;have HF:=Hi hok;obtain⟨rfl,hon,hr⟩:=hok
   clear HB hon hr))
 go_wp2;go_ret;rw[<-HE.o];exact HF.o
theorem Qi8(bz bx j:Nat)(p:Rat)(w:World)(hz:(Thing.room bz).holds w)(hx:RatVal w bx p)(hp:Fits p j)(hj:j<549755813000):
 Calls prog 55 #[.pointer (some ⟨bz,0,none⟩),.pointer (some ⟨bx,0,none⟩)] w (RatOk w bz (-p)):=by
 have HC:=Hi (Qrr bz bx j p w hz hx hp hj);clear hx hz hp hj;go_enter func55,ntmps55;go_wp2_with fail;refine HC.o.mono ?_;rintro e w1 ⟨rfl,hon,a1,c1,l1,a2,c2,l2,hr⟩;obtain⟨HR,HON⟩:=Ia hr hon;clear hr hon HC;go_wp2_with fail;have HC:=Hi (Qfg bz 0 101 _ p.num a1 c1 l1 _ HR.o.sb.drew (Qad _ _ _ _ _ _ _ _) (by simp) HR.o.drew.upper);go_region_held3 (fun _=>True) (trivial) (first
  |(
   go_at_call 110;refine HC.o.mono ?_;rintro e w2 ⟨rfl,a,cap,l,hl⟩;have HL:=Hi hl
   clear hl))
 go_wp2;go_ret;refine⟨rfl,HON.o.drew.trans HL.o.only,a,cap,l,a2,c2,l2,?_,?_,?_⟩
 .
  have:=HL.o.sb;rw[Rat.neg_num,Rat.neg_den]
  simpa [putInt] using this
 . rw[Rat.neg_num];exact HL.o.num
 . rw[Rat.neg_den];exact HR.o.den.drew.only HL.o.only HR.o.sb.drew (Qad _ _ _ _ _ _ _ _)
theorem Qi9(b:Nat)(q:Rat)(w:World)(hx:RatVal w b q):
 Calls prog 44 #[.pointer (some ⟨b,0,none⟩)] w fun e w'=>e=.returned (.bool (decide (q.den=1)))/\Below w.heap.size w w':=by
 obtain⟨D,a1,c1,l1,a2,c2,l2,h,hd⟩:=hx;obtain⟨H,HD⟩:=Ia h hd;have HE:=Hi (show (cmpZ (q.den:Int) 1 == 0)=decide (q.den=1) by
  unfold cmpZ;by_cases h1:q.den=1
  . rw[if_neg (by omega),if_pos (by omega)];simp[h1]
  . have:=q.den_pos
    rw[if_neg (by omega),if_neg (by omega)];simp[h1])
 clear h hd;go_enter func44,ntmps44;go_wp2_with fail;refine(Qja b q.num D q.den a1 a2 c1 c2 l1 l2 w H.o HD.o (Qar q)).mono ?_;rintro e w1 ⟨⟨b',o,a,cap,l,rfl,hi,hb⟩,hbl⟩;obtain⟨HI,HB1⟩:=Ia hi hbl;clear hi hb hbl;go_wp2_with fail;refine(Qbg 1 _ (by decide) (by decide)).mono ?_;rintro e w2 ⟨⟨b2,a3,cap3,l3,rfl,hb',hs,hu⟩,hb⟩;obtain⟨HI2,HB2⟩:=Ia (show IntAt w2 b2 0 1 a3 cap3 l3 from ⟨by rw[hs.cell];rfl,by rw[hs.cell];rfl,hu,hs.lt⟩) hb;clear hb' hs hu hb;go_wp2_with fail;refine(Qi7 b' o q.den a cap l b2 0 1 a3 cap3 l3 _ (HI.o.below HB2.o) HI2.o).mono ?_;rintro e w3 ⟨rfl,hb3⟩;have HB3:=Hi hb3;clear hb3;go_wp2;go_ret;refine⟨by rw[<-HE.o];rfl,(HB1.o.trans (HB2.o.mono HB1.o.size)).trans (HB3.o.mono (Nat.le_trans HB1.o.size HB2.o.size))⟩
theorem Qrs(b:Nat)(q:Rat)(w:World)(hx:RatVal w b q):
 Calls prog 47 #[.pointer (some ⟨b,0,none⟩)] w fun e w'=>(∃b' a cap l,e=.returned (.pointer (some ⟨b',0,none⟩))/\IntAt w' b' 0 q.den a cap l)/\Below w.heap.size w w':=by
 obtain⟨D,a1,c1,l1,a2,c2,l2,h,hd⟩:=hx;have HB:O (Bag w w [] [.rat b q.den l2.length]):=Hi ⟨Below.refl _ _,fun n hn=>(by cases hn),fun t ht=>by
  rcases List.mem_cons.1 ht with rfl|ht
  . exact⟨⟨_,D,a1,c1,l1,a2,c2,l2,h,hd,Qar q,Nat.le_refl _⟩,List.not_mem_nil⟩
  . cases ht⟩
 clear h hd;go_enter func47,ntmps47;go_wp2_with (first
  |(
   go_at_call 57;apply cM;apply Bag.den (w0:=w);(focus(repeat(first|exact HB.o|apply Bag.alloc|apply Bag.drew)));(focus(repeat(first|exact mH|apply mT)));rintro e w1 ⟨b1,o1,rfl,hbag,hsz⟩;clear HB;have HB:=Hi hbag
   clear hbag)
  |(
   go_at_call 93;apply cM;apply Bag.set (w0:=w);(focus(repeat(first|exact HB.o|apply Bag.alloc|apply Bag.drew)));exact List.Mem.head _;(focus(repeat(first|exact mH|apply mT)));rintro e w1 ⟨rfl,hbag,hsz',hlt⟩;clear HB;have HB:=Hi hbag
   clear hbag))
 go_ret;obtain⟨⟨a,cap,l,hi,hl⟩,_⟩:=HB.o.ts _ (List.Mem.head _);exact⟨⟨_,a,cap,l,rfl,hi⟩,HB.o.base⟩
theorem Qrt(bz:Nat)(x:Nat)(w:World)(hz:(Thing.room bz).holds w)(hx:x<1000000):
 Calls prog 90 #[.pointer (some ⟨bz,0,none⟩),.int .i64 x] w (RatOk w bz (x:Rat)):=by
 have HZ:=Hi hz;have HE:=Hi (show mkRat (x:Int) (1:Int).natAbs=(x:Rat) by
  apply Rat.ext
  . rw[Rat.num_mkRat];simp
  . rw[Rat.den_mkRat];simp)
 clear hz;go_enter func90,ntmps90;go_wp2_with fail;refine(Qbg (x:Int) _ (by omega) (by omega)).mono ?_;rintro e w1 ⟨⟨b1,a1,cap1,l1,rfl,hb1',hs1,hu1⟩,hb1⟩;obtain⟨HI1,HB1⟩:=Ia (show IntAt w1 b1 0 x a1 cap1 l1 from ⟨by rw[hs1.cell];simp,by rw[hs1.cell];rfl,hu1,hs1.lt⟩) hb1;clear hb1' hs1 hu1 hb1;go_wp2_with fail;refine(Qbg 1 _ (by decide) (by decide)).mono ?_;rintro e w2 ⟨⟨b2,a2,cap2,l2,rfl,hb2',hs2,hu2⟩,hb2⟩;obtain⟨HI2,HB2⟩:=Ia (show IntAt w2 b2 0 1 a2 cap2 l2 from ⟨by rw[hs2.cell];rfl,by rw[hs2.cell];rfl,hu2,hs2.lt⟩) hb2;clear hb2' hs2 hu2 hb2;go_wp2_with fail;obtain⟨s0,s1,s2,s3,hs,hn⟩:=HZ.o;have hbb:=HB1.o.trans (HB2.o.mono HB1.o.size);have hle1:l1.length<=64:=HI1.o.num.len_bits (Nat.lt_of_le_of_lt (by omega) (by decide:1000000<2 ^ 64));have hle2:l2.length<=64:=HI2.o.num.len_bits (by decide)
 refine(Qb7 bz s0 s1 s2 s3 b1 0 x a1 cap1 l1 b2 0 1 a2 cap2 l2 _ (hs.below hbb hs.lt) hn (HI1.o.below HB2.o) HI2.o (by decide) (by omega) (by omega)).mono ?_;rintro e w3 hok;have HF:=Hi (RatOk.of (Only.of_below hbb) hok);obtain⟨rfl,hon,hr⟩:=hok;clear hon hr hs hn hbb;go_wp2;go_ret;rw[<-HE.o];exact HF.o
end Go.Proofs.YtldjeecnapgakaaGreatDoor
