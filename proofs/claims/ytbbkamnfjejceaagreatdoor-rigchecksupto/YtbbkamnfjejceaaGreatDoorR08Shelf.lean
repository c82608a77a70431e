/- The library's contracts, laid at this program. -/
import Derived.Test.YtbbkamnfjejceaaGreatDoorR07RatBag
import Derived.Deep.AppendLies
import Derived.Laws.BytesArg
import Derived.Lib.IndexMore
import Derived.Lib.Strings
import Derived.Lib.Split
import Derived.Shelf.Small.Wraps
import Derived.Shelf.Small.Bits
import Derived.Shelf.Strings.Prefix
import Derived.Shelf.Strings.Trim
import Derived.Shelf.Strings.SlTrimAscii
import Derived.Shelf.Strings.Cut
import Derived.Shelf.Strings.Split
import Derived.Shelf.Bits.Mul64
import Derived.Shelf.Spec.BitsCarry
import Derived.Test.YtbbkamnfjejceaaGreatDoorProg
namespace Go.Proofs.YtbbkamnfjejceaaGreatDoor
open Go.RowKit
set_option linter.unusedVariables false
set_option linter.unusedSimpArgs false
theorem size_drew(w:World):w.drew.heap.size=w.heap.size:=rfl
def sgn3(X:Int):Int:=if X<0 then -1 else if X=0 then 0 else 1
def cmpZ(X Y:Int):Int:=if X<Y then -1 else if X=Y then 0 else 1
set_option maxHeartbeats 400000 in
theorem Qot(b o:Nat)(X:Int)(a:Option Addr)(cap:Nat)(l:List Nat)(w:World)(hx:IntAt w b o X a cap l):
 Calls Tryz.prog 58 #[.pointer (some ⟨b,o,none⟩)] w fun e w'=>e=.returned (.int .i64 (sgn3 X))∧w'=w:=by
 have k0:=hx.neg;have k1:=hx.abs;by_cases h0:X=0
 ·
  have q:((l.length:Int) == 0)=true:=by
   have:=(hx.num.num.len_zero (by decide)).1 (by omega);simp[this]
  have HE:=Hi (show sgn3 X=0 by unfold sgn3;rw[if_neg (by omega),if_pos h0]);clear hx h0;go_enter Tryz.func58,Tryz.ntmps58;go_wp2;go_ret;exact⟨by rw[HE.out];rfl,rfl⟩
 ·
  have q:((l.length:Int) == 0)=false:=by
   rw[beq_eq_false_iff_ne];have:=(hx.num.num.len_zero (by decide)).2;omega
  by_cases hX:X<0
  ·
   have HE:=Hi (show sgn3 X= -1 by unfold sgn3;rw[if_pos hX]);rw[show decide (X<0)=true by simpa using hX] at k0;clear hx h0 hX;go_enter Tryz.func58,Tryz.ntmps58;go_wp2;go_ret;exact⟨by rw[HE.out];rfl,rfl⟩
  ·
   have HE:=Hi (show sgn3 X=1 by unfold sgn3;rw[if_neg hX,if_neg h0]);rw[show decide (X<0)=false by simpa using hX] at k0;clear hx h0 hX;go_enter Tryz.func58,Tryz.ntmps58;go_wp2;go_ret;exact⟨by rw[HE.out];rfl,rfl⟩
set_option maxHeartbeats 400000 in
theorem Qou(b:Nat)(q:Rat)(w:World)(hx:RatVal w b q):
 Calls Tryz.prog 20 #[.pointer (some ⟨b,0,none⟩)] w fun e w'=>e=.returned (.int .i64 (sgn3 q.num))∧w'=w:=by
 obtain⟨D,a1,c1,l1,a2,c2,l2,h,hd⟩:=hx;have H:=Hi h.upper;clear h hd;go_enter Tryz.func20,Tryz.ntmps20;go_wp2_with fail;refine(Qot b 0 q.num a1 c1 l1 _ H.out).mono ?_;rintro e w1 ⟨rfl,rfl⟩;go_wp2;go_ret;exact⟨rfl,rfl⟩
theorem Qov(X Y:Int)(hX:X<0)(hY:Y<0):cmpZ X Y= -(cmp3 X.natAbs Y.natAbs):=by
 have e1:X.natAbs<Y.natAbs↔Y<X:=by omega
 have e2:X.natAbs=Y.natAbs↔X=Y:=by omega
 unfold cmpZ cmp3;rcases Int.lt_trichotomy X Y with h|h|h
 · rw[if_pos h,if_neg (by omega),if_neg (by omega)]
 · rw[if_neg (by omega),if_pos h,if_neg (by omega),if_pos (by omega)];rfl
 · rw[if_neg (by omega),if_neg (by omega),if_pos (by omega)];rfl
theorem Qow(X Y:Int)(hX:0≤X)(hY:0≤Y):cmpZ X Y=cmp3 X.natAbs Y.natAbs:=by
 unfold cmpZ cmp3;rcases Int.lt_trichotomy X Y with h|h|h
 · rw[if_pos h,if_pos (by omega)]
 · rw[if_neg (by omega),if_pos h,if_neg (by omega),if_pos (by omega)]
 · rw[if_neg (by omega),if_neg (by omega),if_neg (by omega),if_neg (by omega)]
theorem Qox(z:Int)(h1: -1≤z)(h2:z≤1):wrap64 z=z:=by unfold wrap64;omega
theorem neg3(x y:Nat):Ending.returned (.int .i64 (wrap64 (-cmp3 x y)))=Ending.returned (.int .i64 (-cmp3 x y)):=by
 have h:=Qld x y;rw[Qox _ (by omega) (by omega)]
set_option maxHeartbeats 1000000 in
theorem Qoy(bx ox:Nat)(X:Int)(a:Option Addr)(cap:Nat)(l:List Nat)(bv ov:Nat)(Y:Int)(b:Option Addr)(cap':Nat)(m:List Nat)(w:World)(hx:IntAt w bx ox X a cap l)(hy:IntAt w bv ov Y b cap' m):
 Calls Tryz.prog 97 #[.pointer (some ⟨bx,ox,none⟩),.pointer (some ⟨bv,ov,none⟩)] w fun e w'=>e=.returned (.int .i64 (cmpZ X Y))∧Below w.heap.size w w':=by
 have k0:=hx.neg;have k1:=hx.abs;have j0:=hy.neg;have j1:=hy.abs;have hlt:=hx.lt;have hlt':=hy.lt;have HX:=Hi hx.num;have HY:=Hi hy.num;clear hx hy;by_cases hXY:decide (X<0)=decide (Y<0)
 ·
  by_cases hX:X<0
  ·
   rw[show decide (X<0)=true by simpa using hX] at k0;rw[show decide (Y<0)=true by simp at hXY ⊢;omega] at j0;have HE:=Hi (Qov X Y (by omega) (by simp at hXY;omega));clear hXY hX;go_enter Tryz.func97,Tryz.ntmps97;go_wp2_with fail;go_region;go_wp2_with fail;go_region_held3 (fun w'=>w'.cell? ⟨bx,ox+1,none⟩=some (.slice a l.length cap)∧w'.cell? ⟨bv,ov+1,none⟩=some (.slice b m.length cap')) ((simp [*])) (first|(go_at_call 159;refine(Qbo a b cap cap' l m X.natAbs Y.natAbs _ ?_ ?_).mono ?_;exact HX.out.below (((Below.refl _ _).drew).drew);exact HY.out.below (((Below.refl _ _).drew).drew);rintro e w1 ⟨rfl,hb1⟩;have HB:=Hi (((Below.refl w.heap.size w).drew.drew).trans hb1);have d0:=(hb1.cell (p:=⟨bx,ox,none⟩) hlt).trans k0;have d1:=(hb1.cell (p:=⟨bx,ox+1,none⟩) hlt).trans k1;have d2:=(hb1.cell (p:=⟨bv,ov+1,none⟩) hlt').trans j1;clear hb1));go_wp2;go_ret;exact⟨by rw[HE.out];exact neg3 _ _,HB.out⟩
  ·
   rw[show decide (X<0)=false by simpa using hX] at k0;rw[show decide (Y<0)=false by simp at hXY ⊢;omega] at j0;have HE:=Hi (Qow X Y (by omega) (by simp at hXY;omega));clear hXY hX;go_enter Tryz.func97,Tryz.ntmps97;go_wp2_with fail;go_region;go_wp2_with fail;go_region_held3 (fun w'=>w'.cell? ⟨bx,ox+1,none⟩=some (.slice a l.length cap)∧w'.cell? ⟨bv,ov+1,none⟩=some (.slice b m.length cap')) ((simp [*])) (first|(go_at_call 159;refine(Qbo a b cap cap' l m X.natAbs Y.natAbs _ ?_ ?_).mono ?_;exact HX.out.below (((Below.refl _ _).drew).drew);exact HY.out.below (((Below.refl _ _).drew).drew);rintro e w1 ⟨rfl,hb1⟩;have HB:=Hi (((Below.refl w.heap.size w).drew.drew).trans hb1);have d0:=(hb1.cell (p:=⟨bx,ox,none⟩) hlt).trans k0;have d1:=(hb1.cell (p:=⟨bx,ox+1,none⟩) hlt).trans k1;have d2:=(hb1.cell (p:=⟨bv,ov+1,none⟩) hlt').trans j1;clear hb1));go_wp2;go_ret;exact⟨by rw[HE.out];rfl,HB.out⟩
 ·
  by_cases hX:X<0
  ·
   rw[show decide (X<0)=true by simpa using hX] at k0;rw[show decide (Y<0)=false by simp at hXY ⊢;omega] at j0;have HE:=Hi (show cmpZ X Y= -1 by unfold cmpZ;rw[if_pos (by simp at hXY;omega)]);clear hXY hX;go_enter Tryz.func97,Tryz.ntmps97;go_wp2_with fail;go_region;go_wp2;go_ret;exact⟨by rw[HE.out];rfl,(Below.refl _ _).drew⟩
  ·
   rw[show decide (X<0)=false by simpa using hX] at k0;rw[show decide (Y<0)=true by simp at hXY ⊢;omega] at j0;have HE:=Hi (show cmpZ X Y=1 by unfold cmpZ;rw[if_neg (by simp at hXY;omega),if_neg (by simp at hXY;omega)]);clear hXY hX;go_enter Tryz.func97,Tryz.ntmps97;go_wp2_with fail;go_region;go_wp2;go_ret;exact⟨by rw[HE.out];rfl,(Below.refl _ _).drew⟩
theorem Qoz(X:Int): -X=if (!decide (X<0))=true then -(X.natAbs:Int) else (X.natAbs:Int):=by
 by_cases h:X<0
 · simp[h];omega
 · simp[h];omega
set_option maxHeartbeats 1000000 in
theorem Qo0(bz oz:Nat)(t:TypeId)(C:Array Value)(X:Int)(a:Option Addr)(cap:Nat)(l:List Nat)(w:World)(hs:SB w bz t C)(hn:NoInt C)(ho:oz+1<C.size)(hx:IntAt w bz oz X a cap l):
 Calls Tryz.prog 119 #[.pointer (some ⟨bz,oz,none⟩),.pointer (some ⟨bz,oz,none⟩)] w (LaidOk w bz oz t C (-X)):=by
 have k0:=hx.neg;have k1:=hx.abs;have hlt:=hx.lt;have HS:=Hi hs;have HN:=Hi hn;have HX:=Hi hx.num;clear hs hn hx;go_enter Tryz.func119,Tryz.ntmps119;go_wp2;go_region_with (first
  |(go_at_call 160;refine(Qea a cap l X.natAbs _ ?_).mono ?_;exact HX.out.drew;rintro e w1 ⟨⟨a1,cap1,rfl,hu1⟩,hb1⟩;have c0:=(hb1.cell (p:=⟨bz,oz,none⟩) hlt).trans k0;have c1:=(hb1.cell (p:=⟨bz,oz+1,none⟩) hlt).trans k1;have HU1:=Hi hu1;have HB1:=Hi ((Below.refl w.heap.size w).drew.trans hb1);clear hu1 hb1)
  |(go_at_call 115;refine(Qcf bz oz t C _ a1 cap1 l X.natAbs (-X) _ ?_ HN.out ho HU1.out ?_).mono ?_;exact HS.out.below HB1.out HS.out.lt;exact Qoz X;rintro e w2 ⟨rfl,hl⟩;have HL:=Hi hl;clear hl))
 all_goals
  go_wp2;go_ret;exact LaidOk.of (Only.of_below HB1.out) ⟨rfl,_,_,_,HL.out⟩
set_option maxHeartbeats 1000000 in
theorem Qo1(bz bx j:Nat)(p:Rat)(w:World)(hz:(Thing.room bz).holds w)(hx:RatVal w bx p)(hp:Fits p j)(hj:j<549755813000):
 Calls Tryz.prog 118 #[.pointer (some ⟨bz,0,none⟩),.pointer (some ⟨bx,0,none⟩)] w (RatOk w bz p):=by
 have HPOS:=Hi (Qib p);have HE:=Hi (show mkRat p.num (p.den:Int).natAbs=p by rw[Int.natAbs_natCast,Rat.mkRat_self]);have HB:=Hi (Bag.one hx hz hp);clear hx hz hp;go_enter Tryz.func118,Tryz.ntmps118;go_wp2;go_region_held3 (fun _=>True) (trivial) (first
  |(
   go_at_call 96;apply Calls.mono;apply Bag.den (w0:=w);(focus(repeat(first|exact HB.out|apply Bag.alloc|apply Bag.drew)));(focus(repeat(first|exact List.Mem.head _|apply List.Mem.tail)));rintro e w1 ⟨b1,o1,rfl,hbag,hsz⟩;clear HB;have HB:=Hi hbag
   clear hbag)
  |(
   go_at_call 56;apply Calls.mono;apply Bag.setFrac (w0:=w);(focus(repeat(first|exact HB.out|apply Bag.alloc|apply Bag.drew)));(focus(repeat(first|exact List.Mem.head _|apply List.Mem.tail)));(focus(repeat(first|exact List.Mem.head _|apply List.Mem.tail)));(focus(repeat(first|exact List.Mem.head _|apply List.Mem.tail)));exact HPOS.out;omega;omega;rintro e w5 hok;have HF:=Hi hok;obtain⟨rfl,hon,hr⟩:=hok
   clear HB hon hr))
 go_wp2;go_ret;rw[←HE.out];exact HF.out
set_option maxHeartbeats 1000000 in
theorem Qih(bz bx j:Nat)(p:Rat)(w:World)(hz:(Thing.room bz).holds w)(hx:RatVal w bx p)(hp:Fits p j)(hj:j<549755813000):
 Calls Tryz.prog 57 #[.pointer (some ⟨bz,0,none⟩),.pointer (some ⟨bx,0,none⟩)] w (RatOk w bz (-p)):=by
 have HC:=Hi (Qo1 bz bx j p w hz hx hp hj);clear hx hz hp hj;go_enter Tryz.func57,Tryz.ntmps57;go_wp2_with fail;refine HC.out.mono ?_;rintro e w1 ⟨rfl,hon,a1,c1,l1,a2,c2,l2,hr⟩;have HR:=Hi hr;have HON:=Hi hon;clear hr hon HC;go_wp2_with fail;have HC:=Hi (Qo0 bz 0 98 _ p.num a1 c1 l1 _ HR.out.sb.drew (Qai _ _ _ _ _ _ _ _) (by simp) HR.out.drew.upper);go_region_held3 (fun _=>True) (trivial) (first
  |(
   go_at_call 119;refine HC.out.mono ?_;rintro e w2 ⟨rfl,a,cap,l,hl⟩;have HL:=Hi hl
   clear hl))
 go_wp2;go_ret;refine⟨rfl,HON.out.drew.trans HL.out.only,a,cap,l,a2,c2,l2,?_,?_,?_⟩
 ·
  have:=HL.out.sb;rw[Rat.neg_num,Rat.neg_den]
  simpa [putInt] using this
 · rw[Rat.neg_num];exact HL.out.num
 · rw[Rat.neg_den];exact HR.out.den.drew.only HL.out.only HR.out.sb.drew (Qai _ _ _ _ _ _ _ _)
end Go.Proofs.YtbbkamnfjejceaaGreatDoor
namespace Go.Proofs.YtbbkamnfjejceaaGreatDoor
set_option linter.unusedVariables false
def decVal(l:List UInt8):Nat:=l.foldl (fun a c=>10*a+(c.toNat - 48)) 0
theorem Qk9(l:List UInt8)(a:Nat):l.foldl (fun a c=>10*a+(c.toNat - 48)) a=a*10 ^ l.length+decVal l:=by
 induction l generalizing a with
 |nil=>simp[decVal]
 |cons c l ih=>
  unfold decVal;rw[List.foldl_cons,List.foldl_cons,ih,ih (10*0+(c.toNat - 48)),List.length_cons,Nat.pow_succ,Nat.add_mul,Nat.mul_comm 10 a,Nat.mul_assoc,Nat.mul_comm 10 (10 ^ l.length),Nat.mul_zero,Nat.zero_add];omega
theorem Qbs(l m:List UInt8):decVal (l++m)=decVal l*10 ^ m.length+decVal m:=by
 conv=>lhs;unfold decVal
 rw[List.foldl_append];exact Qk9 m _
theorem Qeg(l:List UInt8)(c:UInt8):decVal (l++ [c])=10*decVal l+(c.toNat - 48):=by
 unfold decVal;rw[List.foldl_append];rfl
def AllDigits(l:List UInt8):Prop:=∀c,c∈ l→48≤c.toNat∧c.toNat≤57
theorem Qar(l:List UInt8)(h:AllDigits l):decVal l<10 ^ l.length:=by
 induction l with
 |nil=>simp[decVal]
 |cons c l ih=>
  have h1:=h c (List.mem_cons_self ..);have h2:=ih fun d hd=>h d (List.mem_cons_of_mem _ hd)
  have e:decVal (c :: l)=(c.toNat - 48)*10 ^ l.length+decVal l:=by
   have:=Qbs [c] l
   simpa [decVal] using this
  rw[e,List.length_cons,Nat.pow_succ];have:(c.toNat - 48)*10 ^ l.length≤9*10 ^ l.length:=Nat.mul_le_mul_right _ (by omega);omega
theorem Qgf(k:Nat):10 ^ k≤2 ^ (4*k):=by
 rw[Nat.pow_mul];exact Nat.pow_le_pow_left (by decide) k
theorem Qeh(s:ByteArray)(k:Nat)(h:k<s.size):s.data.toList.take (k+1)=s.data.toList.take k++ [s[k]]:=by
 rw[List.take_succ_eq_append_getElem (by simpa using h)];rfl
theorem Qei{s:ByteArray}(hd:AllDigits s.data.toList)(k:Nat)(h:k<s.size):48≤s[k].toNat∧s[k].toNat≤57:=
 hd _ (List.mem_iff_getElem.2 ⟨k,by simpa using h,rfl⟩)
theorem AllDigits.take{l:List UInt8}(h:AllDigits l)(k:Nat):AllDigits (l.take k):=fun c hc=>h c (List.mem_of_mem_take hc)
def IsDec(l:List UInt8)(n:Nat):Prop:=(n=0∧l= [48])∨(n≠0∧∃ds,Num 10 ds n∧l=ds.reverse.map (fun d=>UInt8.ofNat (48+d)))
theorem IsDec.inj{l m:List UInt8}{n:Nat}(h:IsDec l n)(k:IsDec m n):l=m:=by
 rcases h with ⟨h0,rfl⟩|⟨h0,ds,h,rfl⟩
 ·
  rcases k with ⟨k0,rfl⟩|⟨k0,es,k,rfl⟩
  · rfl
  · omega
 ·
  rcases k with ⟨k0,rfl⟩|⟨k0,es,k,rfl⟩
  · omega
  · rw[h.inj (by decide) k]
def IntText(l:List UInt8)(X:Int):Prop:=∃m,IsDec m X.natAbs∧l=if X<0 then 45 :: m else m
theorem IntText.inj{l m:List UInt8}{X:Int}(h:IntText l X)(k:IntText m X):l=m:=by
 obtain⟨a,ha,rfl⟩:=h;obtain⟨b,hb,rfl⟩:=k;rw[ha.inj hb]
open Go.RowKit
set_option linter.unusedSimpArgs false
theorem U32.len_dec{w:World}{a:Option Addr}{c:Nat}{l:List Nat}{n k:Nat}(h:U32 w a c l n)(hn:n<10 ^ k):l.length≤4*k:=
 h.len_bits (Nat.lt_of_lt_of_le hn (Qgf k))
theorem Qg0(c:UInt8)(h1:48≤c.toNat)(h2:c.toNat≤57):∃d:Nat,d≤9∧c.toNat - 48=d∧(c.toNat:Int)=48+d:=⟨c.toNat - 48,by omega,rfl,by omega⟩
set_option maxRecDepth 100000 in
set_option maxHeartbeats 1000000 in
theorem Qbz(bz:Nat)(s:ByteArray)(w:World)(hs:SB w bz 96 zeroInt)(h0:0<s.size)(hsz:s.size≤1073741824)(hd:AllDigits s.data.toList):
 Calls Tryz.prog 54 #[.pointer (some ⟨bz,0,none⟩),.string s,.int .i64 10] w fun e w'=>e=.returned (.tuple #[.pointer (some ⟨bz,0,none⟩),.bool true])∧∃a cap l,Laid w w' bz 0 96 zeroInt (decVal s.data.toList) a cap l:=by
 have HS:=Hi hs;have HD:=Hi hd;have hd0:=Qei hd 0 h0;have q1:((s[0].toNat:Int) == 45)=false:=by rw[beq_eq_false_iff_ne];omega
 have q2:((s[0].toNat:Int) == 43)=false:=by rw[beq_eq_false_iff_ne];omega
 have q3:((s.size:Int) == 0)=false:=by rw[beq_eq_false_iff_ne];omega
 clear hs hd;go_enter Tryz.func54,Tryz.ntmps54;go_wp2;go_loopw [9,10] (fun r i wr=>∃(k:Nat) (a:Option Addr) (cap:Nat) (l:List Nat),k≤s.size∧i=.int .i64 k∧r=.slice a l.length cap∧U32 wr a cap l (decVal (s.data.toList.take k))∧Below w.heap.size w wr) (fun _ i _=>s.size - (intOf i).toNat)
 case atStart=>exact⟨0,none,0,[],by omega,rfl,rfl,⟨Row.nil _ _,by simpa [decVal] using Num.zero _,by simp⟩,Below.refl _ _⟩
 case round=>
  obtain⟨k,a,cap,l,hk,rfl,rfl,hu,hb⟩:=hrel;have HU:=Hi hu;have HB:=Hi hb;clear hu hb;by_cases hlt:k<s.size
  ·
   have hdk:=Qei HD.out k hlt;have HT:=Hi (Qeh s k hlt);obtain⟨d,hd9,hde,hdi⟩:=Qg0 s[k] hdk.1 hdk.2;have HDE:=Hi hde;have b0:(0:Int)≤(k:Int):=by omega
   have b1:(k:Int)<(s.size:Int):=by omega
   clear hde;have e48:(48:Int)+(d:Int) - 48=d:=by omega
   have HDEC:=Hi (Qar _ (HD.out.take k));have hlen:l.length≤4294967296:=by
    have h1:=HU.out.len_dec HDEC.out;have h2:(s.data.toList.take k).length≤k:=by rw[List.length_take];omega
    omega
   clear hdk hd0;go_wp2_with fail;refine(Qbg 10 _ (by decide) (by decide)).mono ?_;rintro e w1 ⟨⟨a1,cap1,r1,rfl,hu1,hr1⟩,hb1⟩;have HU1:=Hi hu1;have HB1:=Hi hb1;clear hu1 hb1;go_wp2_with fail;refine(Qf8 a a1 cap cap1 l r1 _ _ _ (HU.out.below HB1.out) HU1.out (by omega)).mono ?_;rintro e w2 ⟨⟨a2,cap2,r2,rfl,hu2⟩,hb2⟩;have hr2:r2.length≤l.length+r1.length+1:=HU.out.len_of HU1.out hu2 (.inl (Nat.le_refl _));have HU2:=Hi hu2;have HB2:=Hi hb2;clear hu2 hb2;go_wp2_with fail;refine(Qbg (d:Int) _ (by omega) (by omega)).mono ?_;rintro e w3 ⟨⟨a3,cap3,r3,rfl,hu3,hr3⟩,hb3⟩;have HU3:=Hi hu3;have HB3:=Hi hb3;clear hu3 hb3;go_wp2_with fail;refine(Qj9 a2 a3 cap2 cap3 r2 r3 _ _ _ (HU2.out.below HB3.out) HU3.out (by omega) (by omega)).mono ?_;rintro e w4 ⟨⟨a4,cap4,r4,rfl,hu4⟩,hb4⟩;have HU4:=Hi hu4;have HB4:=Hi hb4;clear hu4 hb4;go_wp2;go_roundw
   case rel=>
    have s1:=HB.out.size;have s2:=HB1.out.size;have s3:=HB2.out.size;have s4:=HB3.out.size;refine⟨k+1,a4,cap4,r4,by omega,by go_num,rfl,?_,(((HB.out.trans (HB1.out.mono (by omega))).trans (HB2.out.mono (by omega))).trans (HB3.out.mono (by omega))).trans (HB4.out.mono (by omega))⟩;have e:decVal (s.data.toList.take (k+1))=decVal (s.data.toList.take k)*(10:Int).toNat+(d:Int).toNat:=by
     rw[HT.out,Qeg,HDE.out];simp;omega
    rw[e];exact HU4.out
   case measure=>simp[intOf];omega
  ·
   have hk':k=s.size:=by omega
   subst hk';go_wp2_with fail;refine(Qcf bz 0 96 zeroInt false a cap l _ (decVal s.data.toList) _ (HS.out.below HB.out HS.out.lt) Tryz.int_zero (by simp[zeroInt]) HU.out ?_).mono ?_
   · rw[show s.data.toList.take s.size=s.data.toList from List.take_of_length_le (by simp)]
     simp
   rintro e w1 ⟨rfl,hl⟩;have HL:=Hi hl;clear hl;go_wp2;go_ret2;obtain⟨_,a',c',l',hl'⟩:=LaidOk.of (Only.of_below HB.out) ⟨rfl,_,_,_,HL.out⟩;exact⟨rfl,a',c',l',hl'⟩
theorem Qch{w w':World}{base:Nat}{e:TypeId}{size:Nat}{v:Value}{n:Nat}{xs:List Value}(h:w.ownsRow base e size v n xs)(hb:Below w.heap.size w w'):w'.ownsRow base e size v n xs:=by
 refine⟨h.1,?_⟩;rcases h.2 with h1|⟨g,cap,cur,h1,h2,h3,h4⟩
 · exact .inl h1
 ·
  refine .inr ⟨g,cap,cur,h1,h2,?_,h4⟩;have hlt:g<w.heap.size:=by
   apply Classical.byContradiction;intro hc;rw[Array.getElem?_eq_none (by omega)] at h3;cases h3
  rw[hb.block g hlt];exact h3
def sliceLen:Value→Nat
 | .slice _ n _=>n
 |_=>0
theorem Qg2{w:World}{base:Nat}{e:TypeId}{size:Nat}{v:Value}{n:Nat}{xs:List Value}(h:w.ownsRow base e size v n xs):sliceLen v=n:=by
 rcases h.2 with ⟨rfl,rfl⟩|⟨g,cap,cur,rfl,_⟩<;>rfl
theorem Tryz.info8:(Tryz.prog.info? 5).map (fun i=>(i.zero,i.size,i.bytes))=some (some (.int .u8 0),1,1):=by kernel_rfl
def QText(l:List UInt8)(q:Rat):Prop:=∃m,IntText m q.num∧((q.den=1∧l=m)∨(q.den≠1∧∃d,IsDec d q.den∧l=m++47 :: d))
theorem QText.inj{l m:List UInt8}{q:Rat}(h:QText l q)(k:QText m q):l=m:=by
 obtain⟨a,ha,h⟩:=h;obtain⟨b,hb,k⟩:=k;have:=ha.inj hb;subst this;rcases h with ⟨h1,rfl⟩|⟨h1,d,hd,rfl⟩
 ·
  rcases k with ⟨k1,rfl⟩|⟨k1,_⟩
  · rfl
  · exact absurd h1 k1
 ·
  rcases k with ⟨k1,rfl⟩|⟨k1,e,he,rfl⟩
  · exact absurd k1 h1
  · rw[hd.inj he]
end Go.Proofs.YtbbkamnfjejceaaGreatDoor
namespace Go.Proofs.YtbbkamnfjejceaaGreatDoor
open Go
set_option linter.unusedVariables false
def IsDig(l:List UInt8):Prop:=l≠ []∧AllDigits l
def QForm(t:List UInt8):Prop:=IsDig (Lib.cut t [47]).1∧((Lib.cut t [47]).2.2=true→IsDig (Lib.cut t [47]).2.1∧decVal (Lib.cut t [47]).2.1≠0)
def IsQ(t:List UInt8)(v:Rat):Prop:=(QForm t∧v=mkRat (decVal (Lib.cut t [47]).1:Nat) (if (Lib.cut t [47]).2.2=true then decVal (Lib.cut t [47]).2.1 else 1))∨(¬QForm t∧v=0)
def QOf(l:List UInt8)(q:Rat):Prop:=∃v,IsQ (Lib.trimPrefix l [45]) v∧q=if Lib.hasPrefix l [45]=true then -v else v
theorem IsQ.inj{t:List UInt8}{u v:Rat}(h:IsQ t u)(k:IsQ t v):u=v:=by
 rcases h with ⟨h1,rfl⟩|⟨h1,rfl⟩<;>rcases k with ⟨k1,rfl⟩|⟨k1,rfl⟩
 · rfl
 · exact absurd h1 k1
 · exact absurd k1 h1
 · rfl
theorem QOf.inj{t:List UInt8}{u v:Rat}(h:QOf t u)(k:QOf t v):u=v:=by
 obtain⟨a,ha,rfl⟩:=h;obtain⟨b,hb,rfl⟩:=k;rw[ha.inj hb]
theorem IsQ.ex(t:List UInt8):∃v,IsQ t v:=by
 by_cases h:QForm t
 · exact⟨_,.inl ⟨h,rfl⟩⟩
 · exact⟨_,.inr ⟨h,rfl⟩⟩
theorem QOf.ex(t:List UInt8):∃v,QOf t v:=by
 obtain⟨v,hv⟩:=IsQ.ex (Lib.trimPrefix t [45]);exact⟨_,v,hv,rfl⟩
theorem Fits.mono{q:Rat}{j k:Nat}(h:Fits q j)(hk:j≤k):Fits q k:=
 have:=Nat.pow_le_pow_right (by decide:0<2) hk
 ⟨Nat.lt_of_lt_of_le h.1 this,Nat.lt_of_lt_of_le h.2 this⟩
theorem Fits.zero:Fits 0 1:=⟨by decide,by decide⟩
theorem Fits.mk{a:Int}{b k:Nat}(ha:a.natAbs<2 ^ k)(hb:b<2 ^ k)(hk:0<k):Fits (mkRat a b) k:=by
 by_cases h0:b=0
 ·
  subst h0;rw[Rat.mkRat_zero];exact Fits.zero.mono hk
 constructor
 ·
  rw[Rat.num_mkRat,if_neg h0];refine Nat.lt_of_le_of_lt ?_ ha;exact Int.natAbs_ediv_le_natAbs _ _
 · rw[Rat.den_mkRat,if_neg h0]
   exact Nat.lt_of_le_of_lt (Nat.div_le_self _ _) hb
theorem Fits.neg{q:Rat}{k:Nat}(h:Fits q k):Fits (-q) k:=by
 constructor
 · rw[Rat.neg_num,Int.natAbs_neg];exact h.1
 · rw[Rat.neg_den];exact h.2
theorem Qh9(t:List UInt8):(Lib.cut t [47]).1.length≤t.length:=by
 unfold Lib.cut
 split
 · simp;omega
 · simp
theorem Qia(t:List UInt8):(Lib.cut t [47]).2.1.length≤t.length:=by
 unfold Lib.cut
 split
 · simp
 · simp
theorem Qdl{l:List UInt8}{n:Nat}(h:AllDigits l)(hl:l.length≤n):decVal l<2 ^ (4*n):=
 Nat.lt_of_lt_of_le (Qar l h) (Nat.le_trans (Nat.pow_le_pow_right (by decide) hl) (Qgf n))
theorem IsQ.fits{t:List UInt8}{v:Rat}{n:Nat}(h:IsQ t v)(hn:t.length≤n):Fits v (4*n+1):=by
 rcases h with ⟨h,rfl⟩|⟨_,rfl⟩
 ·
  have e:(2:Nat) ^ (4*n)≤2 ^ (4*n+1):=Nat.pow_le_pow_right (by decide) (by omega);have h1:=Qdl h.1.2 (Nat.le_trans (Qh9 t) hn);refine Fits.mk ?_ ?_ (by omega)
  · rw[Int.natAbs_natCast];omega
  ·
   split
   ·
    rename_i hb;have:=Qdl (h.2 hb).1.2 (Nat.le_trans (Qia t) hn);omega
   · exact Nat.one_lt_two_pow (by omega)
 · exact Fits.zero.mono (by omega)
theorem Qdm(l p:List UInt8):(Lib.trimPrefix l p).length≤l.length:=by
 unfold Lib.trimPrefix
 split
 · simp
 · simp
theorem QOf.fits{t:List UInt8}{q:Rat}{n:Nat}(h:QOf t q)(hn:t.length≤n):Fits q (4*n+1):=by
 obtain⟨v,hv,rfl⟩:=h;have:=hv.fits (Nat.le_trans (Qdm t [45]) hn)
 split
 · exact this.neg
 · exact this
end Go.Proofs.YtbbkamnfjejceaaGreatDoor
namespace Go.Proofs
open Go.Shelf
def Tryz.lays99_ren:Go.Shelf.Ren:=⟨fun|99=>50|206=>103|n=>n,fun|9=>9|4=>4|3=>3|n=>n,fun|n=>n⟩
theorem Tryz.lays99:Go.Proofs.Lays.n99 Tryz.prog Tryz.lays99_ren:={
 mixed:=by kernel_rfl
 f99:=Tryz.func50.trans (congrArg some (by kernel_rfl))
 f206:=Tryz.func103.trans (congrArg some (by kernel_rfl))
 t3:=Tryz.underlying3
 a3:=Tryz.isAgg3
 z3:=Tryz.sizeOf3
 v3:=Tryz.zeroValue3
 t4:=Tryz.underlying4
 a4:=Tryz.isAgg4
 z4:=Tryz.sizeOf4
 v4:=Tryz.zeroValue4
 t9:=Tryz.underlying9
 a9:=Tryz.isAgg9
 z9:=Tryz.sizeOf9
 v9:=Tryz.zeroValue9 }
def Tryz.lays147_ren:Go.Shelf.Ren:=⟨fun|147=>51|221=>104|268=>163|138=>164|143=>165|195=>203|197=>167|218=>204|219=>205|260=>206|217=>234|225=>235|224=>236|267=>237|266=>246|314=>247|n=>n,fun|9=>9|3=>3|31=>100|4=>4|0=>0|105=>224|21=>21|5=>5|46=>227|119=>278|139=>281|138=>280|146=>284|51=>216|n=>n,fun|1=>4|3=>5|4=>6|n=>n⟩
theorem Tryz.lays147:Go.Proofs.Lays.n147 Tryz.prog Tryz.lays147_ren:={
 mixed:=by kernel_rfl
 f138:=Tryz.func164.trans (congrArg some (by kernel_rfl))
 f143:=Tryz.func165.trans (congrArg some (by kernel_rfl))
 f147:=Tryz.func51.trans (congrArg some (by kernel_rfl))
 f195:=Tryz.func203.trans (congrArg some (by kernel_rfl))
 f197:=Tryz.func167.trans (congrArg some (by kernel_rfl))
 f217:=Tryz.func234.trans (congrArg some (by kernel_rfl))
 f218:=Tryz.func204.trans (congrArg some (by kernel_rfl))
 f219:=Tryz.func205.trans (congrArg some (by kernel_rfl))
 f221:=Tryz.func104.trans (congrArg some (by kernel_rfl))
 f224:=Tryz.func236.trans (congrArg some (by kernel_rfl))
 f225:=Tryz.func235.trans (congrArg some (by kernel_rfl))
 f260:=Tryz.func206.trans (congrArg some (by kernel_rfl))
 f266:=Tryz.func246.trans (congrArg some (by kernel_rfl))
 f267:=Tryz.func237.trans (congrArg some (by kernel_rfl))
 f268:=Tryz.func163.trans (congrArg some (by kernel_rfl))
 f314:=Tryz.func247.trans (congrArg some (by kernel_rfl))
 t0:=Tryz.underlying0
 a0:=Tryz.isAgg0
 z0:=Tryz.sizeOf0
 v0:=Tryz.zeroValue0
 t3:=Tryz.underlying3
 a3:=Tryz.isAgg3
 z3:=Tryz.sizeOf3
 v3:=Tryz.zeroValue3
 t4:=Tryz.underlying4
 a4:=Tryz.isAgg4
 z4:=Tryz.sizeOf4
 v4:=Tryz.zeroValue4
 t5:=Tryz.underlying5
 a5:=Tryz.isAgg5
 z5:=Tryz.sizeOf5
 v5:=Tryz.zeroValue5
 t9:=Tryz.underlying9
 a9:=Tryz.isAgg9
 z9:=Tryz.sizeOf9
 v9:=Tryz.zeroValue9
 t21:=Tryz.underlying21
 a21:=Tryz.isAgg21
 z21:=Tryz.sizeOf21
 v21:=Tryz.zeroValue21
 t31:=Tryz.underlying100
 a31:=Tryz.isAgg100
 z31:=Tryz.sizeOf100
 v31:=Tryz.zeroValue100
 t46:=Tryz.underlying227
 a46:=Tryz.isAgg227
 z46:=Tryz.sizeOf227
 v46:=Tryz.zeroValue227
 t51:=Tryz.underlying216
 a51:=Tryz.isAgg216
 z51:=Tryz.sizeOf216
 v51:=Tryz.zeroValue216
 t105:=Tryz.underlying224
 a105:=Tryz.isAgg224
 z105:=Tryz.sizeOf224
 v105:=Tryz.zeroValue224
 t119:=Tryz.underlying278
 a119:=Tryz.isAgg278
 z119:=Tryz.sizeOf278
 t138:=Tryz.underlying280
 a138:=Tryz.isAgg280
 z138:=Tryz.sizeOf280
 v138:=Tryz.zeroValue280
 t139:=Tryz.underlying281
 a139:=Tryz.isAgg281
 z139:=Tryz.sizeOf281
 v139:=Tryz.zeroValue281
 t146:=Tryz.underlying284
 a146:=Tryz.isAgg284
 z146:=Tryz.sizeOf284
 v146:=Tryz.zeroValue284
 g1:=by kernel_rfl
 g3:=by kernel_rfl
 g4:=by kernel_rfl }
def Tryz.lays160_ren:Go.Shelf.Ren:=⟨fun|160=>53|232=>106|231=>105|227=>107|234=>109|233=>108|236=>111|235=>110|228=>166|271=>169|151=>168|197=>167|120=>208|152=>207|260=>206|137=>238|119=>239|224=>236|225=>235|217=>234|266=>246|n=>n,fun|9=>9|4=>4|3=>3|5=>5|117=>156|116=>155|0=>0|124=>159|21=>21|105=>224|46=>227|119=>278|139=>281|138=>280|n=>n,fun|3=>5|4=>6|n=>n⟩
theorem Tryz.lays160:Go.Proofs.Lays.n160 Tryz.prog Tryz.lays160_ren:={
 mixed:=by kernel_rfl
 f119:=Tryz.func239.trans (congrArg some (by kernel_rfl))
 f120:=Tryz.func208.trans (congrArg some (by kernel_rfl))
 f137:=Tryz.func238.trans (congrArg some (by kernel_rfl))
 f151:=Tryz.func168.trans (congrArg some (by kernel_rfl))
 f152:=Tryz.func207.trans (congrArg some (by kernel_rfl))
 f160:=Tryz.func53.trans (congrArg some (by kernel_rfl))
 f197:=Tryz.func167.trans (congrArg some (by kernel_rfl))
 f217:=Tryz.func234.trans (congrArg some (by kernel_rfl))
 f224:=Tryz.func236.trans (congrArg some (by kernel_rfl))
 f225:=Tryz.func235.trans (congrArg some (by kernel_rfl))
 f227:=Tryz.func107.trans (congrArg some (by kernel_rfl))
 f228:=Tryz.func166.trans (congrArg some (by kernel_rfl))
 f231:=Tryz.func105.trans (congrArg some (by kernel_rfl))
 f232:=Tryz.func106.trans (congrArg some (by kernel_rfl))
 f233:=Tryz.func108.trans (congrArg some (by kernel_rfl))
 f234:=Tryz.func109.trans (congrArg some (by kernel_rfl))
 f235:=Tryz.func110.trans (congrArg some (by kernel_rfl))
 f236:=Tryz.func111.trans (congrArg some (by kernel_rfl))
 f260:=Tryz.func206.trans (congrArg some (by kernel_rfl))
 f266:=Tryz.func246.trans (congrArg some (by kernel_rfl))
 f271:=Tryz.func169.trans (congrArg some (by kernel_rfl))
 t0:=Tryz.underlying0
 a0:=Tryz.isAgg0
 z0:=Tryz.sizeOf0
 v0:=Tryz.zeroValue0
 t3:=Tryz.underlying3
 a3:=Tryz.isAgg3
 z3:=Tryz.sizeOf3
 v3:=Tryz.zeroValue3
 t4:=Tryz.underlying4
 a4:=Tryz.isAgg4
 z4:=Tryz.sizeOf4
 v4:=Tryz.zeroValue4
 t5:=Tryz.underlying5
 a5:=Tryz.isAgg5
 z5:=Tryz.sizeOf5
 v5:=Tryz.zeroValue5
 t9:=Tryz.underlying9
 a9:=Tryz.isAgg9
 z9:=Tryz.sizeOf9
 v9:=Tryz.zeroValue9
 t21:=Tryz.underlying21
 a21:=Tryz.isAgg21
 z21:=Tryz.sizeOf21
 v21:=Tryz.zeroValue21
 t46:=Tryz.underlying227
 a46:=Tryz.isAgg227
 z46:=Tryz.sizeOf227
 v46:=Tryz.zeroValue227
 t105:=Tryz.underlying224
 a105:=Tryz.isAgg224
 z105:=Tryz.sizeOf224
 v105:=Tryz.zeroValue224
 t116:=Tryz.underlying155
 a116:=Tryz.isAgg155
 z116:=Tryz.sizeOf155
 t117:=Tryz.underlying156
 a117:=Tryz.isAgg156
 z117:=Tryz.sizeOf156
 v117:=Tryz.zeroValue156
 t119:=Tryz.underlying278
 a119:=Tryz.isAgg278
 z119:=Tryz.sizeOf278
 t124:=Tryz.underlying159
 a124:=Tryz.isAgg159
 z124:=Tryz.sizeOf159
 v124:=Tryz.zeroValue159
 t138:=Tryz.underlying280
 a138:=Tryz.isAgg280
 z138:=Tryz.sizeOf280
 v138:=Tryz.zeroValue280
 t139:=Tryz.underlying281
 a139:=Tryz.isAgg281
 z139:=Tryz.sizeOf281
 v139:=Tryz.zeroValue281
 g3:=by kernel_rfl
 g4:=by kernel_rfl }
def Tryz.lays161_ren:Go.Shelf.Ren:=⟨fun|161=>197|231=>105|227=>107|233=>108|235=>110|228=>166|197=>167|151=>168|260=>206|152=>207|137=>238|119=>239|224=>236|225=>235|217=>234|266=>246|n=>n,fun|9=>9|4=>4|3=>3|5=>5|117=>156|116=>155|0=>0|124=>159|105=>224|21=>21|119=>278|46=>227|139=>281|138=>280|n=>n,fun|3=>5|4=>6|n=>n⟩
theorem Tryz.lays161:Go.Proofs.Lays.n161 Tryz.prog Tryz.lays161_ren:={
 mixed:=by kernel_rfl
 f119:=Tryz.func239.trans (congrArg some (by kernel_rfl))
 f137:=Tryz.func238.trans (congrArg some (by kernel_rfl))
 f151:=Tryz.func168.trans (congrArg some (by kernel_rfl))
 f152:=Tryz.func207.trans (congrArg some (by kernel_rfl))
 f161:=Tryz.func197.trans (congrArg some (by kernel_rfl))
 f197:=Tryz.func167.trans (congrArg some (by kernel_rfl))
 f217:=Tryz.func234.trans (congrArg some (by kernel_rfl))
 f224:=Tryz.func236.trans (congrArg some (by kernel_rfl))
 f225:=Tryz.func235.trans (congrArg some (by kernel_rfl))
 f227:=Tryz.func107.trans (congrArg some (by kernel_rfl))
 f228:=Tryz.func166.trans (congrArg some (by kernel_rfl))
 f231:=Tryz.func105.trans (congrArg some (by kernel_rfl))
 f233:=Tryz.func108.trans (congrArg some (by kernel_rfl))
 f235:=Tryz.func110.trans (congrArg some (by kernel_rfl))
 f260:=Tryz.func206.trans (congrArg some (by kernel_rfl))
 f266:=Tryz.func246.trans (congrArg some (by kernel_rfl))
 t0:=Tryz.underlying0
 a0:=Tryz.isAgg0
 z0:=Tryz.sizeOf0
 v0:=Tryz.zeroValue0
 t3:=Tryz.underlying3
 a3:=Tryz.isAgg3
 z3:=Tryz.sizeOf3
 v3:=Tryz.zeroValue3
 t4:=Tryz.underlying4
 a4:=Tryz.isAgg4
 z4:=Tryz.sizeOf4
 v4:=Tryz.zeroValue4
 t5:=Tryz.underlying5
 a5:=Tryz.isAgg5
 z5:=Tryz.sizeOf5
 v5:=Tryz.zeroValue5
 t9:=Tryz.underlying9
 a9:=Tryz.isAgg9
 z9:=Tryz.sizeOf9
 v9:=Tryz.zeroValue9
 t21:=Tryz.underlying21
 a21:=Tryz.isAgg21
 z21:=Tryz.sizeOf21
 v21:=Tryz.zeroValue21
 t46:=Tryz.underlying227
 a46:=Tryz.isAgg227
 z46:=Tryz.sizeOf227
 v46:=Tryz.zeroValue227
 t105:=Tryz.underlying224
 a105:=Tryz.isAgg224
 z105:=Tryz.sizeOf224
 v105:=Tryz.zeroValue224
 t116:=Tryz.underlying155
 a116:=Tryz.isAgg155
 z116:=Tryz.sizeOf155
 t117:=Tryz.underlying156
 a117:=Tryz.isAgg156
 z117:=Tryz.sizeOf156
 v117:=Tryz.zeroValue156
 t119:=Tryz.underlying278
 a119:=Tryz.isAgg278
 z119:=Tryz.sizeOf278
 t124:=Tryz.underlying159
 a124:=Tryz.isAgg159
 z124:=Tryz.sizeOf159
 v124:=Tryz.zeroValue159
 t138:=Tryz.underlying280
 a138:=Tryz.isAgg280
 z138:=Tryz.sizeOf280
 v138:=Tryz.zeroValue280
 t139:=Tryz.underlying281
 a139:=Tryz.isAgg281
 z139:=Tryz.sizeOf281
 v139:=Tryz.zeroValue281
 g3:=by kernel_rfl
 g4:=by kernel_rfl }
def Tryz.lays145_ren:Go.Shelf.Ren:=⟨fun|145=>151|220=>196|219=>205|217=>234|225=>235|224=>236|267=>237|266=>246|314=>247|n=>n,fun|9=>9|4=>4|59=>204|3=>3|5=>5|46=>227|146=>284|51=>216|n=>n,fun|1=>4|n=>n⟩
theorem Tryz.lays145:Go.Proofs.Lays.n145 Tryz.prog Tryz.lays145_ren:={
 mixed:=by kernel_rfl
 f145:=Tryz.func151.trans (congrArg some (by kernel_rfl))
 f217:=Tryz.func234.trans (congrArg some (by kernel_rfl))
 f219:=Tryz.func205.trans (congrArg some (by kernel_rfl))
 f220:=Tryz.func196.trans (congrArg some (by kernel_rfl))
 f224:=Tryz.func236.trans (congrArg some (by kernel_rfl))
 f225:=Tryz.func235.trans (congrArg some (by kernel_rfl))
 f266:=Tryz.func246.trans (congrArg some (by kernel_rfl))
 f267:=Tryz.func237.trans (congrArg some (by kernel_rfl))
 f314:=Tryz.func247.trans (congrArg some (by kernel_rfl))
 t3:=Tryz.underlying3
 a3:=Tryz.isAgg3
 z3:=Tryz.sizeOf3
 v3:=Tryz.zeroValue3
 t4:=Tryz.underlying4
 a4:=Tryz.isAgg4
 z4:=Tryz.sizeOf4
 v4:=Tryz.zeroValue4
 t5:=Tryz.underlying5
 a5:=Tryz.isAgg5
 z5:=Tryz.sizeOf5
 v5:=Tryz.zeroValue5
 t9:=Tryz.underlying9
 a9:=Tryz.isAgg9
 z9:=Tryz.sizeOf9
 v9:=Tryz.zeroValue9
 t46:=Tryz.underlying227
 a46:=Tryz.isAgg227
 z46:=Tryz.sizeOf227
 v46:=Tryz.zeroValue227
 t51:=Tryz.underlying216
 a51:=Tryz.isAgg216
 z51:=Tryz.sizeOf216
 v51:=Tryz.zeroValue216
 t59:=Tryz.underlying204
 a59:=Tryz.isAgg204
 z59:=Tryz.sizeOf204
 v59:=Tryz.zeroValue204
 t146:=Tryz.underlying284
 a146:=Tryz.isAgg284
 z146:=Tryz.sizeOf284
 v146:=Tryz.zeroValue284
 g1:=by kernel_rfl }
def Tryz.lays103_ren:Go.Shelf.Ren:=⟨fun|103=>150|210=>195|206=>103|n=>n,fun|9=>9|4=>4|24=>202|3=>3|n=>n,fun|n=>n⟩
theorem Tryz.lays103:Go.Proofs.Lays.n103 Tryz.prog Tryz.lays103_ren:={
 mixed:=by kernel_rfl
 f103:=Tryz.func150.trans (congrArg some (by kernel_rfl))
 f206:=Tryz.func103.trans (congrArg some (by kernel_rfl))
 f210:=Tryz.func195.trans (congrArg some (by kernel_rfl))
 t3:=Tryz.underlying3
 a3:=Tryz.isAgg3
 z3:=Tryz.sizeOf3
 v3:=Tryz.zeroValue3
 t4:=Tryz.underlying4
 a4:=Tryz.isAgg4
 z4:=Tryz.sizeOf4
 v4:=Tryz.zeroValue4
 t9:=Tryz.underlying9
 a9:=Tryz.isAgg9
 z9:=Tryz.sizeOf9
 v9:=Tryz.zeroValue9
 t24:=Tryz.underlying202
 a24:=Tryz.isAgg202
 z24:=Tryz.sizeOf202
 v24:=Tryz.zeroValue202 }
def Tryz.lays134_ren:Go.Shelf.Ren:=⟨fun|134=>221|129=>240|n=>n,fun|53=>146|3=>3|4=>4|46=>227|5=>5|9=>9|n=>n,fun|n=>n⟩
theorem Tryz.lays134:Go.Proofs.Lays.n134 Tryz.prog Tryz.lays134_ren:={
 mixed:=by kernel_rfl
 f129:=Tryz.func240.trans (congrArg some (by kernel_rfl))
 f134:=Tryz.func221.trans (congrArg some (by kernel_rfl))
 t3:=Tryz.underlying3
 a3:=Tryz.isAgg3
 z3:=Tryz.sizeOf3
 v3:=Tryz.zeroValue3
 t4:=Tryz.underlying4
 a4:=Tryz.isAgg4
 z4:=Tryz.sizeOf4
 v4:=Tryz.zeroValue4
 t5:=Tryz.underlying5
 a5:=Tryz.isAgg5
 z5:=Tryz.sizeOf5
 v5:=Tryz.zeroValue5
 t9:=Tryz.underlying9
 a9:=Tryz.isAgg9
 z9:=Tryz.sizeOf9
 v9:=Tryz.zeroValue9
 t46:=Tryz.underlying227
 a46:=Tryz.isAgg227
 z46:=Tryz.sizeOf227
 v46:=Tryz.zeroValue227
 t53:=Tryz.underlying146
 a53:=Tryz.isAgg146
 z53:=Tryz.sizeOf146
 v53:=Tryz.zeroValue146 }
def Tryz.lays264_ren:Go.Shelf.Ren:=⟨fun|264=>229|n=>n,fun|53=>146|46=>227|n=>n,fun|n=>n⟩
theorem Tryz.lays264:Go.Proofs.Lays.n264 Tryz.prog Tryz.lays264_ren:={
 mixed:=by kernel_rfl
 f264:=Tryz.func229.trans (congrArg some (by kernel_rfl))
 t46:=Tryz.underlying227
 a46:=Tryz.isAgg227
 z46:=Tryz.sizeOf227
 v46:=Tryz.zeroValue227
 t53:=Tryz.underlying146
 a53:=Tryz.isAgg146
 z53:=Tryz.sizeOf146
 v53:=Tryz.zeroValue146 }
def Tryz.lays25_ren:Go.Shelf.Ren:=⟨fun|25=>227|n=>n,fun|22=>146|n=>n,fun|n=>n⟩
theorem Tryz.lays25:Go.Proofs.Lays7.n25 Tryz.prog Tryz.lays25_ren:={
 mixed:=by kernel_rfl
 f25:=Tryz.func227.trans (congrArg some (by kernel_rfl))
 t22:=Tryz.underlying146
 a22:=Tryz.isAgg146
 z22:=Tryz.sizeOf146
 v22:=Tryz.zeroValue146
 i22:=by kernel_rfl }
def Tryz.lays26_ren:Go.Shelf.Ren:=⟨fun|26=>228|n=>n,fun|22=>146|n=>n,fun|n=>n⟩
theorem Tryz.lays26:Go.Proofs.Lays7.n26 Tryz.prog Tryz.lays26_ren:={
 mixed:=by kernel_rfl
 f26:=Tryz.func228.trans (congrArg some (by kernel_rfl))
 t22:=Tryz.underlying146
 a22:=Tryz.isAgg146
 z22:=Tryz.sizeOf146
 v22:=Tryz.zeroValue146
 i22:=by kernel_rfl }
end Go.Proofs
