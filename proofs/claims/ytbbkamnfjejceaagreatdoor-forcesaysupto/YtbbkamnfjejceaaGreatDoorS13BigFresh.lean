/- rafterbig's trim and small: where the answer lies. -/
import Derived.Test.YtbbkamnfjejceaaGreatDoorS12RatAdd
namespace Go.Proofs.YtbbkamnfjejceaaGreatDoor
open Go.RowKit
set_option linter.unusedVariables false
set_option linter.unusedSimpArgs false
def sgn3(X:Int):Int:=if X<0 then -1 else if X=0 then 0 else 1
def cmpZ(X Y:Int):Int:=if X<Y then -1 else if X=Y then 0 else 1
set_option maxHeartbeats 400000 in
theorem Qnh(b o:Nat)(X:Int)(a:Option Addr)(cap:Nat)(l:List Nat)(w:World)(hx:IntAt w b o X a cap l):
 Calls Tryz.prog 58 #[.pointer (some ⟨b,o,none⟩)] w fun e w'=>e=.returned (.int .i64 (sgn3 X))∧w'=w:=by
 have k0:=hx.neg;have k1:=hx.abs;by_cases h0:X=0
 ·
  have q:((l.length:Int) == 0)=true:=by
   have:=(hx.num.num.len_zero (by decide)).1 (by omega);simp[this]
  have HE:=Hi (show sgn3 X=0 by unfold sgn3;rw[if_neg (by omega),if_pos h0]);clear hx h0;go_enter Tryz.func58,Tryz.ntmps58;go_wp2;go_ret;exact⟨by rw[HE.out];rfl,rfl⟩
 ·
  have q:((l.length:Int) == 0)=false:=by
   rw[beq_eq_false_iff_ne];have:=(hx.num.num.len_zero (by decide)).2;omega
  by_cases hX:X<0
  ·
   have HE:=Hi (show sgn3 X= -1 by unfold sgn3;rw[if_pos hX]);rw[show decide (X<0)=true by simpa using hX] at k0;clear hx h0 hX;go_enter Tryz.func58,Tryz.ntmps58;go_wp2;go_ret;exact⟨by rw[HE.out];rfl,rfl⟩
  ·
   have HE:=Hi (show sgn3 X=1 by unfold sgn3;rw[if_neg hX,if_neg h0]);rw[show decide (X<0)=false by simpa using hX] at k0;clear hx h0 hX;go_enter Tryz.func58,Tryz.ntmps58;go_wp2;go_ret;exact⟨by rw[HE.out];rfl,rfl⟩
set_option maxHeartbeats 400000 in
theorem Qbt(b:Nat)(q:Rat)(w:World)(hx:RatVal w b q):
 Calls Tryz.prog 20 #[.pointer (some ⟨b,0,none⟩)] w fun e w'=>e=.returned (.int .i64 (sgn3 q.num))∧w'=w:=by
 obtain⟨D,a1,c1,l1,a2,c2,l2,h,hd⟩:=hx;have H:=Hi h.upper;clear h hd;go_enter Tryz.func20,Tryz.ntmps20;go_wp2_with fail;refine(Qnh b 0 q.num a1 c1 l1 _ H.out).mono ?_;rintro e w1 ⟨rfl,rfl⟩;go_wp2;go_ret;exact⟨rfl,rfl⟩
set_option maxHeartbeats 400000 in
theorem Qhd(b:Nat)(w:World):
 Calls Tryz.prog 43 #[.pointer (some ⟨b,0,none⟩)] w fun e w'=>e=.returned (.pointer (some ⟨b,0,none⟩))∧w'=w:=by
 go_enter Tryz.func43,Tryz.ntmps43;go_wp2;go_ret;exact⟨rfl,rfl⟩
theorem Qni(X Y:Int)(hX:X<0)(hY:Y<0):cmpZ X Y= -(cmp3 X.natAbs Y.natAbs):=by
 have e1:X.natAbs<Y.natAbs↔Y<X:=by omega
 have e2:X.natAbs=Y.natAbs↔X=Y:=by omega
 unfold cmpZ cmp3;rcases Int.lt_trichotomy X Y with h|h|h
 · rw[if_pos h,if_neg (by omega),if_neg (by omega)]
 · rw[if_neg (by omega),if_pos h,if_neg (by omega),if_pos (by omega)];rfl
 · rw[if_neg (by omega),if_neg (by omega),if_pos (by omega)];rfl
theorem Qnj(X Y:Int)(hX:0≤X)(hY:0≤Y):cmpZ X Y=cmp3 X.natAbs Y.natAbs:=by
 unfold cmpZ cmp3;rcases Int.lt_trichotomy X Y with h|h|h
 · rw[if_pos h,if_pos (by omega)]
 · rw[if_neg (by omega),if_pos h,if_neg (by omega),if_pos (by omega)]
 · rw[if_neg (by omega),if_neg (by omega),if_neg (by omega),if_neg (by omega)]
theorem Qnk(z:Int)(h1: -1≤z)(h2:z≤1):wrap64 z=z:=by unfold wrap64;omega
theorem neg3(x y:Nat):Ending.returned (.int .i64 (wrap64 (-cmp3 x y)))=Ending.returned (.int .i64 (-cmp3 x y)):=by
 have h:=Qi6 x y;rw[Qnk _ (by omega) (by omega)]
set_option maxHeartbeats 1000000 in
theorem Qnl(bx ox:Nat)(X:Int)(a:Option Addr)(cap:Nat)(l:List Nat)(bv ov:Nat)(Y:Int)(b:Option Addr)(cap':Nat)(m:List Nat)(w:World)(hx:IntAt w bx ox X a cap l)(hy:IntAt w bv ov Y b cap' m):
 Calls Tryz.prog 97 #[.pointer (some ⟨bx,ox,none⟩),.pointer (some ⟨bv,ov,none⟩)] w fun e w'=>e=.returned (.int .i64 (cmpZ X Y))∧Below w.heap.size w w':=by
 have k0:=hx.neg;have k1:=hx.abs;have j0:=hy.neg;have j1:=hy.abs;have hlt:=hx.lt;have hlt':=hy.lt;have HX:=Hi hx.num;have HY:=Hi hy.num;clear hx hy;by_cases hXY:decide (X<0)=decide (Y<0)
 ·
  by_cases hX:X<0
  ·
   rw[show decide (X<0)=true by simpa using hX] at k0;rw[show decide (Y<0)=true by simp at hXY ⊢;omega] at j0;have HE:=Hi (Qni X Y (by omega) (by simp at hXY;omega));clear hXY hX;go_enter Tryz.func97,Tryz.ntmps97;go_wp2_with fail;go_region;go_wp2_with fail;go_region_held3 (fun w'=>w'.cell? ⟨bx,ox+1,none⟩=some (.slice a l.length cap)∧w'.cell? ⟨bv,ov+1,none⟩=some (.slice b m.length cap')) ((simp [*])) (first|(go_at_call 159;refine(Qa4 a b cap cap' l m X.natAbs Y.natAbs _ ?_ ?_).mono ?_;exact HX.out.below (((Below.refl _ _).drew).drew);exact HY.out.below (((Below.refl _ _).drew).drew);rintro e w1 ⟨rfl,hb1⟩;have HB:=Hi (((Below.refl w.heap.size w).drew.drew).trans hb1);have d0:=(hb1.cell (p:=⟨bx,ox,none⟩) hlt).trans k0;have d1:=(hb1.cell (p:=⟨bx,ox+1,none⟩) hlt).trans k1;have d2:=(hb1.cell (p:=⟨bv,ov+1,none⟩) hlt').trans j1;clear hb1));go_wp2;go_ret;exact⟨by rw[HE.out];exact neg3 _ _,HB.out⟩
  ·
   rw[show decide (X<0)=false by simpa using hX] at k0;rw[show decide (Y<0)=false by simp at hXY ⊢;omega] at j0;have HE:=Hi (Qnj X Y (by omega) (by simp at hXY;omega));clear hXY hX;go_enter Tryz.func97,Tryz.ntmps97;go_wp2_with fail;go_region;go_wp2_with fail;go_region_held3 (fun w'=>w'.cell? ⟨bx,ox+1,none⟩=some (.slice a l.length cap)∧w'.cell? ⟨bv,ov+1,none⟩=some (.slice b m.length cap')) ((simp [*])) (first|(go_at_call 159;refine(Qa4 a b cap cap' l m X.natAbs Y.natAbs _ ?_ ?_).mono ?_;exact HX.out.below (((Below.refl _ _).drew).drew);exact HY.out.below (((Below.refl _ _).drew).drew);rintro e w1 ⟨rfl,hb1⟩;have HB:=Hi (((Below.refl w.heap.size w).drew.drew).trans hb1);have d0:=(hb1.cell (p:=⟨bx,ox,none⟩) hlt).trans k0;have d1:=(hb1.cell (p:=⟨bx,ox+1,none⟩) hlt).trans k1;have d2:=(hb1.cell (p:=⟨bv,ov+1,none⟩) hlt').trans j1;clear hb1));go_wp2;go_ret;exact⟨by rw[HE.out];rfl,HB.out⟩
 ·
  by_cases hX:X<0
  ·
   rw[show decide (X<0)=true by simpa using hX] at k0;rw[show decide (Y<0)=false by simp at hXY ⊢;omega] at j0;have HE:=Hi (show cmpZ X Y= -1 by unfold cmpZ;rw[if_pos (by simp at hXY;omega)]);clear hXY hX;go_enter Tryz.func97,Tryz.ntmps97;go_wp2_with fail;go_region;go_wp2;go_ret;exact⟨by rw[HE.out];rfl,(Below.refl _ _).drew⟩
  ·
   rw[show decide (X<0)=false by simpa using hX] at k0;rw[show decide (Y<0)=true by simp at hXY ⊢;omega] at j0;have HE:=Hi (show cmpZ X Y=1 by unfold cmpZ;rw[if_neg (by simp at hXY;omega),if_neg (by simp at hXY;omega)]);clear hXY hX;go_enter Tryz.func97,Tryz.ntmps97;go_wp2_with fail;go_region;go_wp2;go_ret;exact⟨by rw[HE.out];rfl,(Below.refl _ _).drew⟩
theorem Qnm(X:Int): -X=if (!decide (X<0))=true then -(X.natAbs:Int) else (X.natAbs:Int):=by
 by_cases h:X<0
 · simp[h];omega
 · simp[h];omega
set_option maxHeartbeats 1000000 in
theorem Qnn(bz oz:Nat)(t:TypeId)(C:Array Value)(X:Int)(a:Option Addr)(cap:Nat)(l:List Nat)(w:World)(hs:SB w bz t C)(hn:NoInt C)(ho:oz+1<C.size)(hx:IntAt w bz oz X a cap l):
 Calls Tryz.prog 119 #[.pointer (some ⟨bz,oz,none⟩),.pointer (some ⟨bz,oz,none⟩)] w (LaidOk w bz oz t C (-X)):=by
 have k0:=hx.neg;have k1:=hx.abs;have hlt:=hx.lt;have HS:=Hi hs;have HN:=Hi hn;have HX:=Hi hx.num;clear hs hn hx;go_enter Tryz.func119,Tryz.ntmps119;go_wp2;go_region_with (first
  |(go_at_call 160;refine(Qcg a cap l X.natAbs _ ?_).mono ?_;exact HX.out.drew;rintro e w1 ⟨⟨a1,cap1,rfl,hu1⟩,hb1⟩;have c0:=(hb1.cell (p:=⟨bz,oz,none⟩) hlt).trans k0;have c1:=(hb1.cell (p:=⟨bz,oz+1,none⟩) hlt).trans k1;have HU1:=Hi hu1;have HB1:=Hi ((Below.refl w.heap.size w).drew.trans hb1);clear hu1 hb1)
  |(go_at_call 115;refine(Qbi bz oz t C _ a1 cap1 l X.natAbs (-X) _ ?_ HN.out ho HU1.out ?_).mono ?_;exact HS.out.below HB1.out HS.out.lt;exact Qnm X;rintro e w2 ⟨rfl,hl⟩;have HL:=Hi hl;clear hl))
 all_goals
  go_wp2;go_ret;exact LaidOk.of (Only.of_below HB1.out) ⟨rfl,_,_,_,HL.out⟩
set_option maxHeartbeats 1000000 in
theorem Qno(bz bx j:Nat)(p:Rat)(w:World)(hz:(Thing.room bz).holds w)(hx:RatVal w bx p)(hp:Fits p j)(hj:j<549755813000):
 Calls Tryz.prog 118 #[.pointer (some ⟨bz,0,none⟩),.pointer (some ⟨bx,0,none⟩)] w (RatOk w bz p):=by
 have HPOS:=Hi (Qau p);have HE:=Hi (show mkRat p.num (p.den:Int).natAbs=p by rw[Int.natAbs_natCast,Rat.mkRat_self]);have HB:=Hi (Bag.one hx hz hp);clear hx hz hp;go_enter Tryz.func118,Tryz.ntmps118;go_wp2;go_region_held3 (fun _=>True) (trivial) (first
  |(
   go_at_call 96;apply Calls.mono;apply Bag.den (w0:=w);(focus(repeat(first|exact HB.out|apply Bag.alloc|apply Bag.drew)));(focus(repeat(first|exact List.Mem.head _|apply List.Mem.tail)));rintro e w1 ⟨b1,o1,rfl,hbag,hsz⟩;clear HB;have HB:=Hi hbag
   clear hbag)
  |(
   go_at_call 56;apply Calls.mono;apply Bag.setFrac (w0:=w);(focus(repeat(first|exact HB.out|apply Bag.alloc|apply Bag.drew)));(focus(repeat(first|exact List.Mem.head _|apply List.Mem.tail)));(focus(repeat(first|exact List.Mem.head _|apply List.Mem.tail)));(focus(repeat(first|exact List.Mem.head _|apply List.Mem.tail)));exact HPOS.out;omega;omega;rintro e w5 hok;have HF:=Hi hok;obtain⟨rfl,hon,hr⟩:=hok
   clear HB hon hr))
 go_wp2;go_ret;rw[←HE.out];exact HF.out
set_option maxHeartbeats 1000000 in
theorem Qed(bz bx j:Nat)(p:Rat)(w:World)(hz:(Thing.room bz).holds w)(hx:RatVal w bx p)(hp:Fits p j)(hj:j<549755813000):
 Calls Tryz.prog 57 #[.pointer (some ⟨bz,0,none⟩),.pointer (some ⟨bx,0,none⟩)] w (RatOk w bz (-p)):=by
 have HC:=Hi (Qno bz bx j p w hz hx hp hj);clear hx hz hp hj;go_enter Tryz.func57,Tryz.ntmps57;go_wp2_with fail;refine HC.out.mono ?_;rintro e w1 ⟨rfl,hon,a1,c1,l1,a2,c2,l2,hr⟩;have HR:=Hi hr;have HON:=Hi hon;clear hr hon HC;go_wp2_with fail;have HC:=Hi (Qnn bz 0 98 _ p.num a1 c1 l1 _ HR.out.sb.drew (Qal _ _ _ _ _ _ _ _) (by simp) HR.out.drew.upper);go_region_held3 (fun _=>True) (trivial) (first
  |(
   go_at_call 119;refine HC.out.mono ?_;rintro e w2 ⟨rfl,a,cap,l,hl⟩;have HL:=Hi hl
   clear hl))
 go_wp2;go_ret;refine⟨rfl,HON.out.drew.trans HL.out.only,a,cap,l,a2,c2,l2,?_,?_,?_⟩
 ·
  have:=HL.out.sb;rw[Rat.neg_num,Rat.neg_den]
  simpa [putInt] using this
 · rw[Rat.neg_num];exact HL.out.num
 · rw[Rat.neg_den];exact HR.out.den.drew.only HL.out.only HR.out.sb.drew (Qal _ _ _ _ _ _ _ _)
set_option maxHeartbeats 1000000 in
theorem Qhe(b:Nat)(q:Rat)(w:World)(hx:RatVal w b q):
 Calls Tryz.prog 42 #[.pointer (some ⟨b,0,none⟩)] w fun e w'=>e=.returned (.bool (decide (q.den=1)))∧Below w.heap.size w w':=by
 obtain⟨D,a1,c1,l1,a2,c2,l2,h,hd⟩:=hx;have H:=Hi h;have HD:=Hi hd;have HE:=Hi (show (cmpZ (q.den:Int) 1 == 0)=decide (q.den=1) by
  unfold cmpZ;by_cases h1:q.den=1
  · rw[if_neg (by omega),if_pos (by omega)];simp[h1]
  · have:=q.den_pos
    rw[if_neg (by omega),if_neg (by omega)];simp[h1])
 clear h hd;go_enter Tryz.func42,Tryz.ntmps42;go_wp2_with fail;refine(Qhf b q.num D q.den a1 a2 c1 c2 l1 l2 w H.out HD.out (Qau q)).mono ?_;rintro e w1 ⟨⟨b',o,a,cap,l,rfl,hi,hb⟩,hbl⟩;have HI:=Hi hi;have HB1:=Hi hbl;clear hi hb hbl;go_wp2_with fail;refine(Qba 1 _ (by decide) (by decide)).mono ?_;rintro e w2 ⟨⟨b2,a3,cap3,l3,rfl,hb',hs,hu⟩,hb⟩;have HI2:=Hi (show IntAt w2 b2 0 1 a3 cap3 l3 from ⟨by rw[hs.cell];rfl,by rw[hs.cell];rfl,hu,hs.lt⟩);have HB2:=Hi hb;clear hb' hs hu hb;go_wp2_with fail;refine(Qnl b' o q.den a cap l b2 0 1 a3 cap3 l3 _ (HI.out.below HB2.out) HI2.out).mono ?_;rintro e w3 ⟨rfl,hb3⟩;have HB3:=Hi hb3;clear hb3;go_wp2;go_ret;refine⟨by rw[←HE.out];rfl,(HB1.out.trans (HB2.out.mono HB1.out.size)).trans (HB3.out.mono (Nat.le_trans HB1.out.size HB2.out.size))⟩
set_option maxHeartbeats 1000000 in
theorem Qnp(b:Nat)(q:Rat)(w:World)(hx:RatVal w b q):
 Calls Tryz.prog 45 #[.pointer (some ⟨b,0,none⟩)] w fun e w'=>(∃b' a cap l,e=.returned (.pointer (some ⟨b',0,none⟩))∧IntAt w' b' 0 q.den a cap l)∧Below w.heap.size w w':=by
 obtain⟨D,a1,c1,l1,a2,c2,l2,h,hd⟩:=hx;have HB:Hid (Bag w w [] [.rat b q.den l2.length]):=Hi ⟨Below.refl _ _,fun n hn=>(by cases hn),fun t ht=>by
  rcases List.mem_cons.1 ht with rfl|ht
  · exact⟨⟨_,D,a1,c1,l1,a2,c2,l2,h,hd,Qau q,Nat.le_refl _⟩,List.not_mem_nil⟩
  · cases ht⟩
 clear h hd;go_enter Tryz.func45,Tryz.ntmps45;go_wp2_with (first
  |(
   go_at_call 96;apply Calls.mono;apply Bag.den (w0:=w);(focus(repeat(first|exact HB.out|apply Bag.alloc|apply Bag.drew)));(focus(repeat(first|exact List.Mem.head _|apply List.Mem.tail)));rintro e w1 ⟨b1,o1,rfl,hbag,hsz⟩;clear HB;have HB:=Hi hbag
   clear hbag)
  |(
   go_at_call 99;apply Calls.mono;apply Bag.set (w0:=w);(focus(repeat(first|exact HB.out|apply Bag.alloc|apply Bag.drew)));exact List.Mem.head _;(focus(repeat(first|exact List.Mem.head _|apply List.Mem.tail)));rintro e w1 ⟨rfl,hbag,hsz',hlt⟩;clear HB;have HB:=Hi hbag
   clear hbag))
 go_ret;obtain⟨⟨a,cap,l,hi,hl⟩,_⟩:=HB.out.ts _ (List.Mem.head _);exact⟨⟨_,a,cap,l,rfl,hi⟩,HB.out.base⟩
set_option maxHeartbeats 1000000 in
theorem Qnq(bz:Nat)(x:Nat)(w:World)(hz:(Thing.room bz).holds w)(hx:x<1000000):
 Calls Tryz.prog 94 #[.pointer (some ⟨bz,0,none⟩),.int .i64 x] w (RatOk w bz (x:Rat)):=by
 have HZ:=Hi hz;have HE:=Hi (show mkRat (x:Int) (1:Int).natAbs=(x:Rat) by
  apply Rat.ext
  · rw[Rat.num_mkRat];simp
  · rw[Rat.den_mkRat];simp)
 clear hz;go_enter Tryz.func94,Tryz.ntmps94;go_wp2_with fail;refine(Qba (x:Int) _ (by omega) (by omega)).mono ?_;rintro e w1 ⟨⟨b1,a1,cap1,l1,rfl,hb1',hs1,hu1⟩,hb1⟩;have HI1:=Hi (show IntAt w1 b1 0 x a1 cap1 l1 from ⟨by rw[hs1.cell];simp,by rw[hs1.cell];rfl,hu1,hs1.lt⟩);have HB1:=Hi hb1;clear hb1' hs1 hu1 hb1;go_wp2_with fail;refine(Qba 1 _ (by decide) (by decide)).mono ?_;rintro e w2 ⟨⟨b2,a2,cap2,l2,rfl,hb2',hs2,hu2⟩,hb2⟩;have HI2:=Hi (show IntAt w2 b2 0 1 a2 cap2 l2 from ⟨by rw[hs2.cell];rfl,by rw[hs2.cell];rfl,hu2,hs2.lt⟩);have HB2:=Hi hb2;clear hb2' hs2 hu2 hb2;go_wp2_with fail;obtain⟨s0,s1,s2,s3,hs,hn⟩:=HZ.out;have hbb:=HB1.out.trans (HB2.out.mono HB1.out.size);have hle1:l1.length≤64:=HI1.out.num.len_bits (Nat.lt_of_le_of_lt (by omega) (by decide:1000000<2 ^ 64));have hle2:l2.length≤64:=HI2.out.num.len_bits (by decide)
 refine(Qbs bz s0 s1 s2 s3 b1 0 x a1 cap1 l1 b2 0 1 a2 cap2 l2 _ (hs.below hbb hs.lt) hn (HI1.out.below HB2.out) HI2.out (by decide) (by omega) (by omega)).mono ?_;rintro e w3 hok;have HF:=Hi (RatOk.of (Only.of_below hbb) hok);obtain⟨rfl,hon,hr⟩:=hok;clear hon hr hs hn hbb;go_wp2;go_ret;rw[←HE.out];exact HF.out
end Go.Proofs.YtbbkamnfjejceaaGreatDoor
namespace Go.Proofs.YtbbkamnfjejceaaGreatDoor
set_option linter.unusedVariables false
def decVal(l:List UInt8):Nat:=l.foldl (fun a c=>10*a+(c.toNat - 48)) 0
theorem Qi1(l:List UInt8)(a:Nat):l.foldl (fun a c=>10*a+(c.toNat - 48)) a=a*10 ^ l.length+decVal l:=by
 induction l generalizing a with
 |nil=>simp[decVal]
 |cons c l ih=>
  unfold decVal;rw[List.foldl_cons,List.foldl_cons,ih,ih (10*0+(c.toNat - 48)),List.length_cons,Nat.pow_succ,Nat.add_mul,Nat.mul_comm 10 a,Nat.mul_assoc,Nat.mul_comm 10 (10 ^ l.length),Nat.mul_zero,Nat.zero_add];omega
theorem Qbo(l m:List UInt8):decVal (l++m)=decVal l*10 ^ m.length+decVal m:=by
 conv=>lhs;unfold decVal
 rw[List.foldl_append];exact Qi1 m _
theorem Qci(l:List UInt8)(c:UInt8):decVal (l++ [c])=10*decVal l+(c.toNat - 48):=by
 unfold decVal;rw[List.foldl_append];rfl
def AllDigits(l:List UInt8):Prop:=∀c,c∈ l→48≤c.toNat∧c.toNat≤57
theorem Qaw(l:List UInt8)(h:AllDigits l):decVal l<10 ^ l.length:=by
 induction l with
 |nil=>simp[decVal]
 |cons c l ih=>
  have h1:=h c (List.mem_cons_self ..);have h2:=ih fun d hd=>h d (List.mem_cons_of_mem _ hd)
  have e:decVal (c :: l)=(c.toNat - 48)*10 ^ l.length+decVal l:=by
   have:=Qbo [c] l
   simpa [decVal] using this
  rw[e,List.length_cons,Nat.pow_succ];have:(c.toNat - 48)*10 ^ l.length≤9*10 ^ l.length:=Nat.mul_le_mul_right _ (by omega);omega
theorem Qe2(k:Nat):10 ^ k≤2 ^ (4*k):=by
 rw[Nat.pow_mul];exact Nat.pow_le_pow_left (by decide) k
theorem Qdc(s:ByteArray)(k:Nat)(h:k<s.size):s.data.toList.take (k+1)=s.data.toList.take k++ [s[k]]:=by
 rw[List.take_succ_eq_append_getElem (by simpa using h)];rfl
theorem Qdd{s:ByteArray}(hd:AllDigits s.data.toList)(k:Nat)(h:k<s.size):48≤s[k].toNat∧s[k].toNat≤57:=
 hd _ (List.mem_iff_getElem.2 ⟨k,by simpa using h,rfl⟩)
theorem AllDigits.take{l:List UInt8}(h:AllDigits l)(k:Nat):AllDigits (l.take k):=fun c hc=>h c (List.mem_of_mem_take hc)
def IsDec(l:List UInt8)(n:Nat):Prop:=(n=0∧l= [48])∨(n≠0∧∃ds,Num 10 ds n∧l=ds.reverse.map (fun d=>UInt8.ofNat (48+d)))
theorem IsDec.inj{l m:List UInt8}{n:Nat}(h:IsDec l n)(k:IsDec m n):l=m:=by
 rcases h with ⟨h0,rfl⟩|⟨h0,ds,h,rfl⟩
 ·
  rcases k with ⟨k0,rfl⟩|⟨k0,es,k,rfl⟩
  · rfl
  · omega
 ·
  rcases k with ⟨k0,rfl⟩|⟨k0,es,k,rfl⟩
  · omega
  · rw[h.inj (by decide) k]
def IntText(l:List UInt8)(X:Int):Prop:=∃m,IsDec m X.natAbs∧l=if X<0 then 45 :: m else m
theorem IntText.inj{l m:List UInt8}{X:Int}(h:IntText l X)(k:IntText m X):l=m:=by
 obtain⟨a,ha,rfl⟩:=h;obtain⟨b,hb,rfl⟩:=k;rw[ha.inj hb]
theorem Qi2{ds:List Nat}{k x:Nat}(hs:Small 10 ds)(hk:ds.length=k)(hv:val 10 ds=x)(hx:10 ^ (k - 1)≤x)(h0:0<k):Num 10 ds x:=by
 refine⟨hs,?_,hv⟩;right;intro hc;obtain⟨j,rfl⟩:∃j,k=j+1:=⟨k - 1,by omega⟩;have h1:=Qbe 10 ds j (by omega);rw[hk,Nat.add_sub_cancel] at hc;rw[hc,Nat.mul_zero,Nat.add_zero,List.take_of_length_le (by omega),hv] at h1;have h2:=Qab (B:=10) (by decide) (hs.take j);rw[List.length_take,Nat.min_eq_left (by omega)] at h2;rw[Nat.add_sub_cancel] at hx;omega
open Go.RowKit
set_option linter.unusedSimpArgs false
theorem U32.len_dec{w:World}{a:Option Addr}{c:Nat}{l:List Nat}{n k:Nat}(h:U32 w a c l n)(hn:n<10 ^ k):l.length≤4*k:=
 h.len_bits (Nat.lt_of_lt_of_le hn (Qe2 k))
theorem Qfu(c:UInt8)(h1:48≤c.toNat)(h2:c.toNat≤57):∃d:Nat,d≤9∧c.toNat - 48=d∧(c.toNat:Int)=48+d:=⟨c.toNat - 48,by omega,rfl,by omega⟩
set_option maxRecDepth 100000 in
set_option maxHeartbeats 1000000 in
theorem Qbr(bz:Nat)(s:ByteArray)(w:World)(hs:SB w bz 96 zeroInt)(h0:0<s.size)(hsz:s.size≤1073741824)(hd:AllDigits s.data.toList):
 Calls Tryz.prog 54 #[.pointer (some ⟨bz,0,none⟩),.string s,.int .i64 10] w fun e w'=>e=.returned (.tuple #[.pointer (some ⟨bz,0,none⟩),.bool true])∧∃a cap l,Laid w w' bz 0 96 zeroInt (decVal s.data.toList) a cap l:=by
 have HS:=Hi hs;have HD:=Hi hd;have hd0:=Qdd hd 0 h0;have q1:((s[0].toNat:Int) == 45)=false:=by rw[beq_eq_false_iff_ne];omega
 have q2:((s[0].toNat:Int) == 43)=false:=by rw[beq_eq_false_iff_ne];omega
 have q3:((s.size:Int) == 0)=false:=by rw[beq_eq_false_iff_ne];omega
 clear hs hd;go_enter Tryz.func54,Tryz.ntmps54;go_wp2;go_loopw [9,10] (fun r i wr=>∃(k:Nat) (a:Option Addr) (cap:Nat) (l:List Nat),k≤s.size∧i=.int .i64 k∧r=.slice a l.length cap∧U32 wr a cap l (decVal (s.data.toList.take k))∧Below w.heap.size w wr) (fun _ i _=>s.size - (intOf i).toNat)
 case atStart=>exact⟨0,none,0,[],by omega,rfl,rfl,⟨Row.nil _ _,by simpa [decVal] using Num.zero _,by simp⟩,Below.refl _ _⟩
 case round=>
  obtain⟨k,a,cap,l,hk,rfl,rfl,hu,hb⟩:=hrel;have HU:=Hi hu;have HB:=Hi hb;clear hu hb;by_cases hlt:k<s.size
  ·
   have hdk:=Qdd HD.out k hlt;have HT:=Hi (Qdc s k hlt);obtain⟨d,hd9,hde,hdi⟩:=Qfu s[k] hdk.1 hdk.2;have HDE:=Hi hde;have b0:(0:Int)≤(k:Int):=by omega
   have b1:(k:Int)<(s.size:Int):=by omega
   clear hde;have e48:(48:Int)+(d:Int) - 48=d:=by omega
   have HDEC:=Hi (Qaw _ (HD.out.take k));have hlen:l.length≤4294967296:=by
    have h1:=HU.out.len_dec HDEC.out;have h2:(s.data.toList.take k).length≤k:=by rw[List.length_take];omega
    omega
   clear hdk hd0;go_wp2_with fail;refine(Qbd 10 _ (by decide) (by decide)).mono ?_;rintro e w1 ⟨⟨a1,cap1,r1,rfl,hu1,hr1⟩,hb1⟩;have HU1:=Hi hu1;have HB1:=Hi hb1;clear hu1 hb1;go_wp2_with fail;refine(Qeu a a1 cap cap1 l r1 _ _ _ (HU.out.below HB1.out) HU1.out (by omega)).mono ?_;rintro e w2 ⟨⟨a2,cap2,r2,rfl,hu2⟩,hb2⟩;have hr2:r2.length≤l.length+r1.length+1:=HU.out.len_of HU1.out hu2 (.inl (Nat.le_refl _));have HU2:=Hi hu2;have HB2:=Hi hb2;clear hu2 hb2;go_wp2_with fail;refine(Qbd (d:Int) _ (by omega) (by omega)).mono ?_;rintro e w3 ⟨⟨a3,cap3,r3,rfl,hu3,hr3⟩,hb3⟩;have HU3:=Hi hu3;have HB3:=Hi hb3;clear hu3 hb3;go_wp2_with fail;refine(Qer a2 a3 cap2 cap3 r2 r3 _ _ _ (HU2.out.below HB3.out) HU3.out (by omega) (by omega)).mono ?_;rintro e w4 ⟨⟨a4,cap4,r4,rfl,hu4⟩,hb4⟩;have HU4:=Hi hu4;have HB4:=Hi hb4;clear hu4 hb4;go_wp2;go_roundw
   case rel=>
    have s1:=HB.out.size;have s2:=HB1.out.size;have s3:=HB2.out.size;have s4:=HB3.out.size;refine⟨k+1,a4,cap4,r4,by omega,by go_num,rfl,?_,(((HB.out.trans (HB1.out.mono (by omega))).trans (HB2.out.mono (by omega))).trans (HB3.out.mono (by omega))).trans (HB4.out.mono (by omega))⟩;have e:decVal (s.data.toList.take (k+1))=decVal (s.data.toList.take k)*(10:Int).toNat+(d:Int).toNat:=by
     rw[HT.out,Qci,HDE.out];simp;omega
    rw[e];exact HU4.out
   case measure=>simp[intOf];omega
  ·
   have hk':k=s.size:=by omega
   subst hk';go_wp2_with fail;refine(Qbi bz 0 96 zeroInt false a cap l _ (decVal s.data.toList) _ (HS.out.below HB.out HS.out.lt) Tryz.int_zero (by simp[zeroInt]) HU.out ?_).mono ?_
   · rw[show s.data.toList.take s.size=s.data.toList from List.take_of_length_le (by simp)]
     simp
   rintro e w1 ⟨rfl,hl⟩;have HL:=Hi hl;clear hl;go_wp2;go_ret2;obtain⟨_,a',c',l',hl'⟩:=LaidOk.of (Only.of_below HB.out) ⟨rfl,_,_,_,HL.out⟩;exact⟨rfl,a',c',l',hl'⟩
end Go.Proofs.YtbbkamnfjejceaaGreatDoor
namespace Go.Proofs.YtbbkamnfjejceaaGreatDoor
open Go.RowKit
set_option linter.unusedVariables false
theorem Qin(g n cap x:Nat)(rs:List Nat)(w:World)(h:Blk .u32 216 w g rs)(hl:rs.length=n)(hs:Small 4294967296 rs)(hc:n≤cap)(hn:n≤1099511627776)(hx:val 4294967296 rs=x):
 Calls Tryz.prog 170 #[.slice (some ⟨g,0,none⟩) n cap] w fun e w'=>(∃r,e=.returned (.slice (some ⟨g,0,none⟩) r.length cap)∧U32 w (some ⟨g,0,none⟩) cap r x)∧w'=w:=by
 have hR:=h.row n (by omega) cap hc;rw[List.take_of_length_le (by omega)] at hR;have hT:=Qex (some ⟨g,0,none⟩) cap rs w hR (by omega);rw[hl] at hT;refine hT.mono ?_;rintro e w1 ⟨⟨q,hq,rfl,hqv,hqt⟩,rfl⟩;have hql:(rs.take q).length=q:=by rw[List.length_take];omega
 exact⟨⟨rs.take q,by rw[hql],hR.take q (by omega),⟨hs.take q,hqt,hqv.trans hx⟩,by rw[hql];omega⟩,rfl⟩
set_option maxHeartbeats 1000000 in
theorem Qio(a:Option Addr)(cap d:Nat)(l:List Nat)(x:Nat)(w:World)(h:U32 w a cap l x)(hd0:0<d)(hd:d<4294967296):
 Calls Tryz.prog 161 #[.slice a l.length cap,.int .u32 d] w fun e w'=>(∃cap r,e=.returned (.tuple #[.slice (some ⟨w.heap.size,0,none⟩) r.length cap,.int .u32 (x % d:Nat)])∧U32 w' (some ⟨w.heap.size,0,none⟩) cap r (x / d))∧Below w.heap.size w w':=by
 have s1:=h.short;have hmk:∀w,(Instr.makeSlice 94 (.int .i64 (l.length:Int)) (.int .i64 (l.length:Int))).run Tryz.prog w=.ok (.slice (some ⟨w.heap.size,0,none⟩) l.length l.length) (w.alloc (.cells (wordCells .u32 (zeros l.length)) 216)):=
  fun w=>Qa0 _ l.length rfl (by omega) w
 go_enter Tryz.func161,Tryz.ntmps161;go_wp2;clear hmk;go_loopw [7,8] (fun r i wr=>∃(k r':Nat) (rs:List Nat),k≤l.length∧r'<d∧r=.int .u64 r'∧i=.int .i64 ((k:Int) - 1)∧Blk .u32 216 wr w.heap.size rs∧rs.length=l.length∧Small 4294967296 rs∧
  val 4294967296 (rs.drop k)*d+r'=val 4294967296 (l.drop k)∧Below w.heap.size w wr) (fun _ i _=>(intOf i+1).toNat)
 case atStart=>exact⟨l.length,0,zeros l.length,Nat.le_refl _,hd0,rfl,rfl,Blk.new _ _ _ _,Qag _,Qak _ _ (by omega),by rw[List.drop_of_length_le (by rw[Qag];exact Nat.le_refl _),List.drop_of_length_le (Nat.le_refl _)];simp[val],(Below.refl _ _).alloc (Nat.le_refl _) _⟩
 case round=>
  obtain⟨k,r,rs,hk,hr,rfl,rfl,hB,hrl,hrs,hv,hb⟩:=hrel;have HV:Hid (val 4294967296 (rs.drop k)*d+r=val 4294967296 (l.drop k)):=hv;have HRL:Hid (rs.length=l.length):=hrl;have HB:Hid (Blk .u32 216 wr w.heap.size rs):=hB;have HRS:Hid (Small 4294967296 rs):=hrs;clear hv hrs;by_cases h0:k=0
  ·
   subst h0;have e2:=HV.out;simp only[List.drop_zero,h.num.eq] at e2;have hq:val 4294967296 rs=x / d:=by
    rw[←e2,Nat.mul_comm,Nat.mul_add_div hd0,Nat.div_eq_of_lt hr,Nat.add_zero]
   have hm:x % d=r:=by
    rw[←e2,Nat.mul_comm,Nat.mul_add_mod,Nat.mod_eq_of_lt hr]
   have HM:Hid (x % d=r):=hm;clear hrl hB e2 hm;have HQ:Hid (val 4294967296 rs=x / d):=hq;clear hq;go_wp2_with fail;refine(Qin w.heap.size l.length l.length (x / d) rs _ HB.out HRL.out HRS.out (Nat.le_refl _) (by omega) HQ.out).mono ?_;rintro e w1 ⟨⟨r,rfl,hu⟩,rfl⟩;go_wp2;go_ret2;exact⟨⟨_,r,by rw[HM.out];rfl,hu⟩,hb⟩
  ·
   obtain⟨j,rfl⟩:∃j,k=j+1:=⟨k - 1,by omega⟩;obtain⟨b,off,rfl,hb1,hc1⟩:=h.row.cell j (by omega);obtain⟨e,he⟩:∃e,l.getD j 0=e:=⟨_,rfl⟩;have heb:e<4294967296:=by rw[←he];exact h.num.small.getD (by omega) j
   rw[he] at hc1;have hc1':=(hb.cell (p:=⟨b,off+j,none⟩) hb1).trans hc1;have H1:Hid (l.getD j 0=e):=he;obtain⟨z,hz⟩:∃z,rs.getD j 0=z:=⟨_,rfl⟩;have g1:=hB.free j;have g2:=hB.cell j (by omega);rw[hz] at g2;clear he hc1 hz hB hrl;have ei:((j+1:Nat):Int) - 1=(j:Int):=by omega
   rw[ei];clear ei;have hne:((d:Int) == 0)=false:=by rw[beq_eq_false_iff_ne];omega
   obtain⟨s,hs⟩:∃s,4294967296*r+e=s:=⟨_,rfl⟩;have hor:bits .or .u64 ((r:Int)*4294967296) (e:Int)=(s:Int):=by
    rw[or64 ((r:Int)*4294967296) (e:Int) r e 32 (by omega) rfl heb (by omega)];omega
   obtain⟨q,hq⟩:∃q,s / d=q:=⟨_,rfl⟩;obtain⟨r',hr'⟩:∃r',s % d=r':=⟨_,rfl⟩;have hqb:q<4294967296:=by
    rw[←hq,Nat.div_lt_iff_lt_mul hd0];have:=Nat.mul_le_mul_left 4294967296 (show r+1≤d by omega);omega
   have hrb:r'<d:=by rw[←hr'];exact Nat.mod_lt _ hd0
   have hst:=Qez 4294967296 j d e r rs l (by have:=HRL.out;omega) (by omega) H1.out HV.out;rw[hs,hq,hr'] at hst;have t1:(s:Int) / (d:Int)=(q:Int):=by rw[←hq];simp
   have t2:(s:Int) % (d:Int)=(r':Int):=by rw[←hr'];simp
   have hsb:s<18446744073709551616:=by omega
   have HST:Hid (val 4294967296 ((rs.set j q).drop j)*d+r'=val 4294967296 (l.drop j)):=hst;clear hq hr' hst hs;go_wp2;go_roundw
   case rel=>exact⟨j,r',rs.set j q,by omega,hrb,by rw[t2],rfl,HB.out.set j q,by rw[List.length_set];exact HRL.out,HRS.out.set j hqb,HST.out,hb.setCell (Nat.le_refl _) _⟩
   case measure=>simp[intOf]
end Go.Proofs.YtbbkamnfjejceaaGreatDoor
