/- Texts of one digit, as fractions. -/
import Derived.Test.YtodfmpjhcmapmaaGreatDoorN09RatAdd
import Derived.Deep.AppendLies
import Derived.Laws.BytesArg
import Derived.Lib.IndexMore
import Derived.Lib.Strings
import Derived.Lib.Split
namespace Go.Proofs.YtodfmpjhcmapmaaGreatDoor
open Go.RowKit
set_option linter.unusedVariables false
set_option linter.unusedSimpArgs false
def sgn3(X:Int):Int:=if X<0 then -1 else if X=0 then 0 else 1
def cmpZ(X Y:Int):Int:=if X<Y then -1 else if X=Y then 0 else 1
set_option maxHeartbeats 400000 in
theorem Qqb(b o:Nat)(X:Int)(a:Option Addr)(cap:Nat)(l:List Nat)(w:World)(hx:IntAt w b o X a cap l):
 Calls Tryz.prog 55 #[.pointer (some ⟨b,o,none⟩)] w fun e w'=>e=.returned (.int .i64 (sgn3 X))∧w'=w:=by
 have k0:=hx.neg;have k1:=hx.abs;by_cases h0:X=0
 ·
  have q:((l.length:Int) == 0)=true:=by
   have:=(hx.num.num.len_zero (by decide)).1 (by omega);simp[this]
  have HE:=Hi (show sgn3 X=0 by unfold sgn3;rw[if_neg (by omega),if_pos h0]);clear hx h0;go_enter Tryz.func55,Tryz.ntmps55;go_wp2;go_ret;exact⟨by rw[HE.out];rfl,rfl⟩
 ·
  have q:((l.length:Int) == 0)=false:=by
   rw[beq_eq_false_iff_ne];have:=(hx.num.num.len_zero (by decide)).2;omega
  by_cases hX:X<0
  ·
   have HE:=Hi (show sgn3 X= -1 by unfold sgn3;rw[if_pos hX]);rw[show decide (X<0)=true by simpa using hX] at k0;clear hx h0 hX;go_enter Tryz.func55,Tryz.ntmps55;go_wp2;go_ret;exact⟨by rw[HE.out];rfl,rfl⟩
  ·
   have HE:=Hi (show sgn3 X=1 by unfold sgn3;rw[if_neg hX,if_neg h0]);rw[show decide (X<0)=false by simpa using hX] at k0;clear hx h0 hX;go_enter Tryz.func55,Tryz.ntmps55;go_wp2;go_ret;exact⟨by rw[HE.out];rfl,rfl⟩
set_option maxHeartbeats 400000 in
theorem Qie(b:Nat)(q:Rat)(w:World)(hx:RatVal w b q):
 Calls Tryz.prog 20 #[.pointer (some ⟨b,0,none⟩)] w fun e w'=>e=.returned (.int .i64 (sgn3 q.num))∧w'=w:=by
 obtain⟨D,a1,c1,l1,a2,c2,l2,h,hd⟩:=hx;have H:=Hi h.upper;clear h hd;go_enter Tryz.func20,Tryz.ntmps20;go_wp2_with fail;refine(Qqb b 0 q.num a1 c1 l1 _ H.out).mono ?_;rintro e w1 ⟨rfl,rfl⟩;go_wp2;go_ret;exact⟨rfl,rfl⟩
theorem Qqc(X Y:Int)(hX:X<0)(hY:Y<0):cmpZ X Y= -(cmp3 X.natAbs Y.natAbs):=by
 have e1:X.natAbs<Y.natAbs↔Y<X:=by omega
 have e2:X.natAbs=Y.natAbs↔X=Y:=by omega
 unfold cmpZ cmp3;rcases Int.lt_trichotomy X Y with h|h|h
 · rw[if_pos h,if_neg (by omega),if_neg (by omega)]
 · rw[if_neg (by omega),if_pos h,if_neg (by omega),if_pos (by omega)];rfl
 · rw[if_neg (by omega),if_neg (by omega),if_pos (by omega)];rfl
theorem Qqd(X Y:Int)(hX:0≤X)(hY:0≤Y):cmpZ X Y=cmp3 X.natAbs Y.natAbs:=by
 unfold cmpZ cmp3;rcases Int.lt_trichotomy X Y with h|h|h
 · rw[if_pos h,if_pos (by omega)]
 · rw[if_neg (by omega),if_pos h,if_neg (by omega),if_pos (by omega)]
 · rw[if_neg (by omega),if_neg (by omega),if_neg (by omega),if_neg (by omega)]
theorem Qqe(z:Int)(h1: -1≤z)(h2:z≤1):wrap64 z=z:=by unfold wrap64;omega
theorem neg3(x y:Nat):Ending.returned (.int .i64 (wrap64 (-cmp3 x y)))=Ending.returned (.int .i64 (-cmp3 x y)):=by
 have h:=Qkb x y;rw[Qqe _ (by omega) (by omega)]
set_option maxHeartbeats 1000000 in
theorem Qqf(bx ox:Nat)(X:Int)(a:Option Addr)(cap:Nat)(l:List Nat)(bv ov:Nat)(Y:Int)(b:Option Addr)(cap':Nat)(m:List Nat)(w:World)(hx:IntAt w bx ox X a cap l)(hy:IntAt w bv ov Y b cap' m):
 Calls Tryz.prog 72 #[.pointer (some ⟨bx,ox,none⟩),.pointer (some ⟨bv,ov,none⟩)] w fun e w'=>e=.returned (.int .i64 (cmpZ X Y))∧Below w.heap.size w w':=by
 have k0:=hx.neg;have k1:=hx.abs;have j0:=hy.neg;have j1:=hy.abs;have hlt:=hx.lt;have hlt':=hy.lt;have HX:=Hi hx.num;have HY:=Hi hy.num;clear hx hy;by_cases hXY:decide (X<0)=decide (Y<0)
 ·
  by_cases hX:X<0
  ·
   rw[show decide (X<0)=true by simpa using hX] at k0;rw[show decide (Y<0)=true by simp at hXY ⊢;omega] at j0;have HE:=Hi (Qqc X Y (by omega) (by simp at hXY;omega));clear hXY hX;go_enter Tryz.func72,Tryz.ntmps72;go_wp2_with fail;go_region;go_wp2_with fail;go_region_held3 (fun w'=>w'.cell? ⟨bx,ox+1,none⟩=some (.slice a l.length cap)∧w'.cell? ⟨bv,ov+1,none⟩=some (.slice b m.length cap')) ((simp [*])) (first|(go_at_call 127;refine(Qbd a b cap cap' l m X.natAbs Y.natAbs _ ?_ ?_).mono ?_;exact HX.out.below (((Below.refl _ _).drew).drew);exact HY.out.below (((Below.refl _ _).drew).drew);rintro e w1 ⟨rfl,hb1⟩;have HB:=Hi (((Below.refl w.heap.size w).drew.drew).trans hb1);have d0:=(hb1.cell (p:=⟨bx,ox,none⟩) hlt).trans k0;have d1:=(hb1.cell (p:=⟨bx,ox+1,none⟩) hlt).trans k1;have d2:=(hb1.cell (p:=⟨bv,ov+1,none⟩) hlt').trans j1;clear hb1));go_wp2;go_ret;exact⟨by rw[HE.out];exact neg3 _ _,HB.out⟩
  ·
   rw[show decide (X<0)=false by simpa using hX] at k0;rw[show decide (Y<0)=false by simp at hXY ⊢;omega] at j0;have HE:=Hi (Qqd X Y (by omega) (by simp at hXY;omega));clear hXY hX;go_enter Tryz.func72,Tryz.ntmps72;go_wp2_with fail;go_region;go_wp2_with fail;go_region_held3 (fun w'=>w'.cell? ⟨bx,ox+1,none⟩=some (.slice a l.length cap)∧w'.cell? ⟨bv,ov+1,none⟩=some (.slice b m.length cap')) ((simp [*])) (first|(go_at_call 127;refine(Qbd a b cap cap' l m X.natAbs Y.natAbs _ ?_ ?_).mono ?_;exact HX.out.below (((Below.refl _ _).drew).drew);exact HY.out.below (((Below.refl _ _).drew).drew);rintro e w1 ⟨rfl,hb1⟩;have HB:=Hi (((Below.refl w.heap.size w).drew.drew).trans hb1);have d0:=(hb1.cell (p:=⟨bx,ox,none⟩) hlt).trans k0;have d1:=(hb1.cell (p:=⟨bx,ox+1,none⟩) hlt).trans k1;have d2:=(hb1.cell (p:=⟨bv,ov+1,none⟩) hlt').trans j1;clear hb1));go_wp2;go_ret;exact⟨by rw[HE.out];rfl,HB.out⟩
 ·
  by_cases hX:X<0
  ·
   rw[show decide (X<0)=true by simpa using hX] at k0;rw[show decide (Y<0)=false by simp at hXY ⊢;omega] at j0;have HE:=Hi (show cmpZ X Y= -1 by unfold cmpZ;rw[if_pos (by simp at hXY;omega)]);clear hXY hX;go_enter Tryz.func72,Tryz.ntmps72;go_wp2_with fail;go_region;go_wp2;go_ret;exact⟨by rw[HE.out];rfl,(Below.refl _ _).drew⟩
  ·
   rw[show decide (X<0)=false by simpa using hX] at k0;rw[show decide (Y<0)=true by simp at hXY ⊢;omega] at j0;have HE:=Hi (show cmpZ X Y=1 by unfold cmpZ;rw[if_neg (by simp at hXY;omega),if_neg (by simp at hXY;omega)]);clear hXY hX;go_enter Tryz.func72,Tryz.ntmps72;go_wp2_with fail;go_region;go_wp2;go_ret;exact⟨by rw[HE.out];rfl,(Below.refl _ _).drew⟩
theorem Qqg(X:Int): -X=if (!decide (X<0))=true then -(X.natAbs:Int) else (X.natAbs:Int):=by
 by_cases h:X<0
 · simp[h];omega
 · simp[h];omega
set_option maxHeartbeats 1000000 in
theorem Qe7(bz oz:Nat)(t:TypeId)(C:Array Value)(X:Int)(a:Option Addr)(cap:Nat)(l:List Nat)(w:World)(hs:SB w bz t C)(hn:NoInt C)(ho:oz+1<C.size)(hx:IntAt w bz oz X a cap l):
 Calls Tryz.prog 82 #[.pointer (some ⟨bz,oz,none⟩),.pointer (some ⟨bz,oz,none⟩)] w (LaidOk w bz oz t C (-X)):=by
 have k0:=hx.neg;have k1:=hx.abs;have hlt:=hx.lt;have HS:=Hi hs;have HN:=Hi hn;have HX:=Hi hx.num;clear hs hn hx;go_enter Tryz.func82,Tryz.ntmps82;go_wp2;go_region_with (first
  |(go_at_call 130;refine(Qdz a cap l X.natAbs _ ?_).mono ?_;exact HX.out.drew;rintro e w1 ⟨⟨a1,cap1,rfl,hu1⟩,hb1⟩;have c0:=(hb1.cell (p:=⟨bz,oz,none⟩) hlt).trans k0;have c1:=(hb1.cell (p:=⟨bz,oz+1,none⟩) hlt).trans k1;have HU1:=Hi hu1;have HB1:=Hi ((Below.refl w.heap.size w).drew.trans hb1);clear hu1 hb1)
  |(go_at_call 100;refine(Qa7 bz oz t C _ a1 cap1 l X.natAbs (-X) _ ?_ HN.out ho HU1.out ?_).mono ?_;exact HS.out.below HB1.out HS.out.lt;exact Qqg X;rintro e w2 ⟨rfl,hl⟩;have HL:=Hi hl;clear hl))
 all_goals
  go_wp2;go_ret;exact LaidOk.of (Only.of_below HB1.out) ⟨rfl,_,_,_,HL.out⟩
set_option maxHeartbeats 1000000 in
theorem Qqh(bz bx j:Nat)(p:Rat)(w:World)(hz:(Thing.room bz).holds w)(hx:RatVal w bx p)(hp:Fits p j)(hj:j<549755813000):
 Calls Tryz.prog 104 #[.pointer (some ⟨bz,0,none⟩),.pointer (some ⟨bx,0,none⟩)] w (RatOk w bz p):=by
 have HPOS:=Hi (Qav p);have HE:=Hi (show mkRat p.num (p.den:Int).natAbs=p by rw[Int.natAbs_natCast,Rat.mkRat_self]);have HB:=Hi (Bag.one hx hz hp);clear hx hz hp;go_enter Tryz.func104,Tryz.ntmps104;go_wp2;go_region_held3 (fun _=>True) (trivial) (first
  |(
   go_at_call 71;apply Calls.mono;apply Bag.den (w0:=w);(focus(repeat(first|exact HB.out|apply Bag.alloc|apply Bag.drew)));(focus(repeat(first|exact List.Mem.head _|apply List.Mem.tail)));rintro e w1 ⟨b1,o1,rfl,hbag,hsz⟩;clear HB;have HB:=Hi hbag
   clear hbag)
  |(
   go_at_call 53;apply Calls.mono;apply Bag.setFrac (w0:=w);(focus(repeat(first|exact HB.out|apply Bag.alloc|apply Bag.drew)));(focus(repeat(first|exact List.Mem.head _|apply List.Mem.tail)));(focus(repeat(first|exact List.Mem.head _|apply List.Mem.tail)));(focus(repeat(first|exact List.Mem.head _|apply List.Mem.tail)));exact HPOS.out;omega;omega;rintro e w5 hok;have HF:=Hi hok;obtain⟨rfl,hon,hr⟩:=hok
   clear HB hon hr))
 go_wp2;go_ret;rw[←HE.out];exact HF.out
set_option maxHeartbeats 1000000 in
theorem Qif(bz bx j:Nat)(p:Rat)(w:World)(hz:(Thing.room bz).holds w)(hx:RatVal w bx p)(hp:Fits p j)(hj:j<549755813000):
 Calls Tryz.prog 54 #[.pointer (some ⟨bz,0,none⟩),.pointer (some ⟨bx,0,none⟩)] w (RatOk w bz (-p)):=by
 have HC:=Hi (Qqh bz bx j p w hz hx hp hj);clear hx hz hp hj;go_enter Tryz.func54,Tryz.ntmps54;go_wp2_with fail;refine HC.out.mono ?_;rintro e w1 ⟨rfl,hon,a1,c1,l1,a2,c2,l2,hr⟩;have HR:=Hi hr;have HON:=Hi hon;clear hr hon HC;go_wp2_with fail;have HC:=Hi (Qe7 bz 0 79 _ p.num a1 c1 l1 _ HR.out.sb.drew (Qab _ _ _ _ _ _ _ _) (by simp) HR.out.drew.upper);go_region_held3 (fun _=>True) (trivial) (first
  |(
   go_at_call 82;refine HC.out.mono ?_;rintro e w2 ⟨rfl,a,cap,l,hl⟩;have HL:=Hi hl
   clear hl))
 go_wp2;go_ret;refine⟨rfl,HON.out.drew.trans HL.out.only,a,cap,l,a2,c2,l2,?_,?_,?_⟩
 ·
  have:=HL.out.sb;rw[Rat.neg_num,Rat.neg_den]
  simpa [putInt] using this
 · rw[Rat.neg_num];exact HL.out.num
 · rw[Rat.neg_den];exact HR.out.den.drew.only HL.out.only HR.out.sb.drew (Qab _ _ _ _ _ _ _ _)
set_option maxHeartbeats 1000000 in
theorem Qqi(bz:Nat)(x:Nat)(w:World)(hz:(Thing.room bz).holds w)(hx:x<1000000):
 Calls Tryz.prog 87 #[.pointer (some ⟨bz,0,none⟩),.int .i64 x] w (RatOk w bz (x:Rat)):=by
 have HZ:=Hi hz;have HE:=Hi (show mkRat (x:Int) (1:Int).natAbs=(x:Rat) by
  apply Rat.ext
  · rw[Rat.num_mkRat];simp
  · rw[Rat.den_mkRat];simp)
 clear hz;go_enter Tryz.func87,Tryz.ntmps87;go_wp2_with fail;refine(Qay (x:Int) _ (by omega) (by omega)).mono ?_;rintro e w1 ⟨⟨b1,a1,cap1,l1,rfl,hb1',hs1,hu1⟩,hb1⟩;have HI1:=Hi (show IntAt w1 b1 0 x a1 cap1 l1 from ⟨by rw[hs1.cell];simp,by rw[hs1.cell];rfl,hu1,hs1.lt⟩);have HB1:=Hi hb1;clear hb1' hs1 hu1 hb1;go_wp2_with fail;refine(Qay 1 _ (by decide) (by decide)).mono ?_;rintro e w2 ⟨⟨b2,a2,cap2,l2,rfl,hb2',hs2,hu2⟩,hb2⟩;have HI2:=Hi (show IntAt w2 b2 0 1 a2 cap2 l2 from ⟨by rw[hs2.cell];rfl,by rw[hs2.cell];rfl,hu2,hs2.lt⟩);have HB2:=Hi hb2;clear hb2' hs2 hu2 hb2;go_wp2_with fail;obtain⟨s0,s1,s2,s3,hs,hn⟩:=HZ.out;have hbb:=HB1.out.trans (HB2.out.mono HB1.out.size);have hle1:l1.length≤64:=HI1.out.num.len_bits (Nat.lt_of_le_of_lt (by omega) (by decide:1000000<2 ^ 64));have hle2:l2.length≤64:=HI2.out.num.len_bits (by decide)
 refine(Qbb bz s0 s1 s2 s3 b1 0 x a1 cap1 l1 b2 0 1 a2 cap2 l2 _ (hs.below hbb hs.lt) hn (HI1.out.below HB2.out) HI2.out (by decide) (by omega) (by omega)).mono ?_;rintro e w3 hok;have HF:=Hi (RatOk.of (Only.of_below hbb) hok);obtain⟨rfl,hon,hr⟩:=hok;clear hon hr hs hn hbb;go_wp2;go_ret;rw[←HE.out];exact HF.out
end Go.Proofs.YtodfmpjhcmapmaaGreatDoor
namespace Go.Proofs.YtodfmpjhcmapmaaGreatDoor
set_option linter.unusedVariables false
def decVal(l:List UInt8):Nat:=l.foldl (fun a c=>10*a+(c.toNat - 48)) 0
theorem Qj7(l:List UInt8)(a:Nat):l.foldl (fun a c=>10*a+(c.toNat - 48)) a=a*10 ^ l.length+decVal l:=by
 induction l generalizing a with
 |nil=>simp[decVal]
 |cons c l ih=>
  unfold decVal;rw[List.foldl_cons,List.foldl_cons,ih,ih (10*0+(c.toNat - 48)),List.length_cons,Nat.pow_succ,Nat.add_mul,Nat.mul_comm 10 a,Nat.mul_assoc,Nat.mul_comm 10 (10 ^ l.length),Nat.mul_zero,Nat.zero_add];omega
theorem Qc4(l m:List UInt8):decVal (l++m)=decVal l*10 ^ m.length+decVal m:=by
 conv=>lhs;unfold decVal
 rw[List.foldl_append];exact Qj7 m _
theorem Qft(l:List UInt8)(c:UInt8):decVal (l++ [c])=10*decVal l+(c.toNat - 48):=by
 unfold decVal;rw[List.foldl_append];rfl
def AllDigits(l:List UInt8):Prop:=∀c,c∈ l→48≤c.toNat∧c.toNat≤57
theorem Qaw(l:List UInt8)(h:AllDigits l):decVal l<10 ^ l.length:=by
 induction l with
 |nil=>simp[decVal]
 |cons c l ih=>
  have h1:=h c (List.mem_cons_self ..);have h2:=ih fun d hd=>h d (List.mem_cons_of_mem _ hd)
  have e:decVal (c :: l)=(c.toNat - 48)*10 ^ l.length+decVal l:=by
   have:=Qc4 [c] l
   simpa [decVal] using this
  rw[e,List.length_cons,Nat.pow_succ];have:(c.toNat - 48)*10 ^ l.length≤9*10 ^ l.length:=Nat.mul_le_mul_right _ (by omega);omega
theorem Qfu(k:Nat):10 ^ k≤2 ^ (4*k):=by
 rw[Nat.pow_mul];exact Nat.pow_le_pow_left (by decide) k
theorem Qd1(s:ByteArray)(k:Nat)(h:k<s.size):s.data.toList.take (k+1)=s.data.toList.take k++ [s[k]]:=by
 rw[List.take_succ_eq_append_getElem (by simpa using h)];rfl
theorem Qd2{s:ByteArray}(hd:AllDigits s.data.toList)(k:Nat)(h:k<s.size):48≤s[k].toNat∧s[k].toNat≤57:=
 hd _ (List.mem_iff_getElem.2 ⟨k,by simpa using h,rfl⟩)
theorem AllDigits.take{l:List UInt8}(h:AllDigits l)(k:Nat):AllDigits (l.take k):=fun c hc=>h c (List.mem_of_mem_take hc)
open Go.RowKit
set_option linter.unusedSimpArgs false
theorem U32.len_dec{w:World}{a:Option Addr}{c:Nat}{l:List Nat}{n k:Nat}(h:U32 w a c l n)(hn:n<10 ^ k):l.length≤4*k:=
 h.len_bits (Nat.lt_of_lt_of_le hn (Qfu k))
theorem Qgh(c:UInt8)(h1:48≤c.toNat)(h2:c.toNat≤57):∃d:Nat,d≤9∧c.toNat - 48=d∧(c.toNat:Int)=48+d:=⟨c.toNat - 48,by omega,rfl,by omega⟩
set_option maxRecDepth 100000 in
set_option maxHeartbeats 1000000 in
theorem Qb1(bz:Nat)(s:ByteArray)(w:World)(hs:SB w bz 77 zeroInt)(h0:0<s.size)(hsz:s.size≤1073741824)(hd:AllDigits s.data.toList):
 Calls Tryz.prog 51 #[.pointer (some ⟨bz,0,none⟩),.string s,.int .i64 10] w fun e w'=>e=.returned (.tuple #[.pointer (some ⟨bz,0,none⟩),.bool true])∧∃a cap l,Laid w w' bz 0 77 zeroInt (decVal s.data.toList) a cap l:=by
 have HS:=Hi hs;have HD:=Hi hd;have hd0:=Qd2 hd 0 h0;have q1:((s[0].toNat:Int) == 45)=false:=by rw[beq_eq_false_iff_ne];omega
 have q2:((s[0].toNat:Int) == 43)=false:=by rw[beq_eq_false_iff_ne];omega
 have q3:((s.size:Int) == 0)=false:=by rw[beq_eq_false_iff_ne];omega
 clear hs hd;go_enter Tryz.func51,Tryz.ntmps51;go_wp2;go_loopw [9,10] (fun r i wr=>∃(k:Nat) (a:Option Addr) (cap:Nat) (l:List Nat),k≤s.size∧i=.int .i64 k∧r=.slice a l.length cap∧U32 wr a cap l (decVal (s.data.toList.take k))∧Below w.heap.size w wr) (fun _ i _=>s.size - (intOf i).toNat)
 case atStart=>exact⟨0,none,0,[],by omega,rfl,rfl,⟨Row.nil _ _,by simpa [decVal] using Num.zero _,by simp⟩,Below.refl _ _⟩
 case round=>
  obtain⟨k,a,cap,l,hk,rfl,rfl,hu,hb⟩:=hrel;have HU:=Hi hu;have HB:=Hi hb;clear hu hb;by_cases hlt:k<s.size
  ·
   have hdk:=Qd2 HD.out k hlt;have HT:=Hi (Qd1 s k hlt);obtain⟨d,hd9,hde,hdi⟩:=Qgh s[k] hdk.1 hdk.2;have HDE:=Hi hde;have b0:(0:Int)≤(k:Int):=by omega
   have b1:(k:Int)<(s.size:Int):=by omega
   clear hde;have e48:(48:Int)+(d:Int) - 48=d:=by omega
   have HDEC:=Hi (Qaw _ (HD.out.take k));have hlen:l.length≤4294967296:=by
    have h1:=HU.out.len_dec HDEC.out;have h2:(s.data.toList.take k).length≤k:=by rw[List.length_take];omega
    omega
   clear hdk hd0;go_wp2_with fail;refine(Qbe 10 _ (by decide) (by decide)).mono ?_;rintro e w1 ⟨⟨a1,cap1,r1,rfl,hu1,hr1⟩,hb1⟩;have HU1:=Hi hu1;have HB1:=Hi hb1;clear hu1 hb1;go_wp2_with fail;refine(Qfl a a1 cap cap1 l r1 _ _ _ (HU.out.below HB1.out) HU1.out (by omega)).mono ?_;rintro e w2 ⟨⟨a2,cap2,r2,rfl,hu2⟩,hb2⟩;have hr2:r2.length≤l.length+r1.length+1:=HU.out.len_of HU1.out hu2 (.inl (Nat.le_refl _));have HU2:=Hi hu2;have HB2:=Hi hb2;clear hu2 hb2;go_wp2_with fail;refine(Qbe (d:Int) _ (by omega) (by omega)).mono ?_;rintro e w3 ⟨⟨a3,cap3,r3,rfl,hu3,hr3⟩,hb3⟩;have HU3:=Hi hu3;have HB3:=Hi hb3;clear hu3 hb3;go_wp2_with fail;refine(Qfj a2 a3 cap2 cap3 r2 r3 _ _ _ (HU2.out.below HB3.out) HU3.out (by omega) (by omega)).mono ?_;rintro e w4 ⟨⟨a4,cap4,r4,rfl,hu4⟩,hb4⟩;have HU4:=Hi hu4;have HB4:=Hi hb4;clear hu4 hb4;go_wp2;go_roundw
   case rel=>
    have s1:=HB.out.size;have s2:=HB1.out.size;have s3:=HB2.out.size;have s4:=HB3.out.size;refine⟨k+1,a4,cap4,r4,by omega,by go_num,rfl,?_,(((HB.out.trans (HB1.out.mono (by omega))).trans (HB2.out.mono (by omega))).trans (HB3.out.mono (by omega))).trans (HB4.out.mono (by omega))⟩;have e:decVal (s.data.toList.take (k+1))=decVal (s.data.toList.take k)*(10:Int).toNat+(d:Int).toNat:=by
     rw[HT.out,Qft,HDE.out];simp;omega
    rw[e];exact HU4.out
   case measure=>simp[intOf];omega
  ·
   have hk':k=s.size:=by omega
   subst hk';go_wp2_with fail;refine(Qa7 bz 0 77 zeroInt false a cap l _ (decVal s.data.toList) _ (HS.out.below HB.out HS.out.lt) Tryz.int_zero (by simp[zeroInt]) HU.out ?_).mono ?_
   · rw[show s.data.toList.take s.size=s.data.toList from List.take_of_length_le (by simp)]
     simp
   rintro e w1 ⟨rfl,hl⟩;have HL:=Hi hl;clear hl;go_wp2;go_ret2;obtain⟨_,a',c',l',hl'⟩:=LaidOk.of (Only.of_below HB.out) ⟨rfl,_,_,_,HL.out⟩;exact⟨rfl,a',c',l',hl'⟩
theorem Qlb{w w':World}{base:Nat}{e:TypeId}{size:Nat}{v:Value}{n:Nat}{xs:List Value}(h:w.ownsRow base e size v n xs)(hb:Below w.heap.size w w'):w'.ownsRow base e size v n xs:=by
 refine⟨h.1,?_⟩;rcases h.2 with h1|⟨g,cap,cur,h1,h2,h3,h4⟩
 · exact .inl h1
 ·
  refine .inr ⟨g,cap,cur,h1,h2,?_,h4⟩;have hlt:g<w.heap.size:=by
   apply Classical.byContradiction;intro hc;rw[Array.getElem?_eq_none (by omega)] at h3;cases h3
  rw[hb.block g hlt];exact h3
end Go.Proofs.YtodfmpjhcmapmaaGreatDoor
namespace Go.Proofs.YtodfmpjhcmapmaaGreatDoor
open Go
set_option linter.unusedVariables false
def IsDig(l:List UInt8):Prop:=l≠ []∧AllDigits l
def QForm(t:List UInt8):Prop:=IsDig (Lib.cut t [47]).1∧((Lib.cut t [47]).2.2=true→IsDig (Lib.cut t [47]).2.1∧decVal (Lib.cut t [47]).2.1≠0)
def IsQ(t:List UInt8)(v:Rat):Prop:=(QForm t∧v=mkRat (decVal (Lib.cut t [47]).1:Nat) (if (Lib.cut t [47]).2.2=true then decVal (Lib.cut t [47]).2.1 else 1))∨(¬QForm t∧v=0)
def QOf(l:List UInt8)(q:Rat):Prop:=∃v,IsQ (Lib.trimPrefix l [45]) v∧q=if Lib.hasPrefix l [45]=true then -v else v
theorem IsQ.inj{t:List UInt8}{u v:Rat}(h:IsQ t u)(k:IsQ t v):u=v:=by
 rcases h with ⟨h1,rfl⟩|⟨h1,rfl⟩<;>rcases k with ⟨k1,rfl⟩|⟨k1,rfl⟩
 · rfl
 · exact absurd h1 k1
 · exact absurd k1 h1
 · rfl
theorem QOf.inj{t:List UInt8}{u v:Rat}(h:QOf t u)(k:QOf t v):u=v:=by
 obtain⟨a,ha,rfl⟩:=h;obtain⟨b,hb,rfl⟩:=k;rw[ha.inj hb]
theorem IsQ.ex(t:List UInt8):∃v,IsQ t v:=by
 by_cases h:QForm t
 · exact⟨_,.inl ⟨h,rfl⟩⟩
 · exact⟨_,.inr ⟨h,rfl⟩⟩
theorem QOf.ex(t:List UInt8):∃v,QOf t v:=by
 obtain⟨v,hv⟩:=IsQ.ex (Lib.trimPrefix t [45]);exact⟨_,v,hv,rfl⟩
theorem Fits.mono{q:Rat}{j k:Nat}(h:Fits q j)(hk:j≤k):Fits q k:=
 have:=Nat.pow_le_pow_right (by decide:0<2) hk
 ⟨Nat.lt_of_lt_of_le h.1 this,Nat.lt_of_lt_of_le h.2 this⟩
theorem Fits.zero:Fits 0 1:=⟨by decide,by decide⟩
theorem Fits.mk{a:Int}{b k:Nat}(ha:a.natAbs<2 ^ k)(hb:b<2 ^ k)(hk:0<k):Fits (mkRat a b) k:=by
 by_cases h0:b=0
 ·
  subst h0;rw[Rat.mkRat_zero];exact Fits.zero.mono hk
 constructor
 ·
  rw[Rat.num_mkRat,if_neg h0];refine Nat.lt_of_le_of_lt ?_ ha;exact Int.natAbs_ediv_le_natAbs _ _
 · rw[Rat.den_mkRat,if_neg h0]
   exact Nat.lt_of_le_of_lt (Nat.div_le_self _ _) hb
theorem Fits.neg{q:Rat}{k:Nat}(h:Fits q k):Fits (-q) k:=by
 constructor
 · rw[Rat.neg_num,Int.natAbs_neg];exact h.1
 · rw[Rat.neg_den];exact h.2
theorem Qh8(t:List UInt8):(Lib.cut t [47]).1.length≤t.length:=by
 unfold Lib.cut
 split
 · simp;omega
 · simp
theorem Qh9(t:List UInt8):(Lib.cut t [47]).2.1.length≤t.length:=by
 unfold Lib.cut
 split
 · simp
 · simp
theorem Qdo{l:List UInt8}{n:Nat}(h:AllDigits l)(hl:l.length≤n):decVal l<2 ^ (4*n):=
 Nat.lt_of_lt_of_le (Qaw l h) (Nat.le_trans (Nat.pow_le_pow_right (by decide) hl) (Qfu n))
theorem IsQ.fits{t:List UInt8}{v:Rat}{n:Nat}(h:IsQ t v)(hn:t.length≤n):Fits v (4*n+1):=by
 rcases h with ⟨h,rfl⟩|⟨_,rfl⟩
 ·
  have e:(2:Nat) ^ (4*n)≤2 ^ (4*n+1):=Nat.pow_le_pow_right (by decide) (by omega);have h1:=Qdo h.1.2 (Nat.le_trans (Qh8 t) hn);refine Fits.mk ?_ ?_ (by omega)
  · rw[Int.natAbs_natCast];omega
  ·
   split
   ·
    rename_i hb;have:=Qdo (h.2 hb).1.2 (Nat.le_trans (Qh9 t) hn);omega
   · exact Nat.one_lt_two_pow (by omega)
 · exact Fits.zero.mono (by omega)
theorem Qdp(l p:List UInt8):(Lib.trimPrefix l p).length≤l.length:=by
 unfold Lib.trimPrefix
 split
 · simp
 · simp
theorem QOf.fits{t:List UInt8}{q:Rat}{n:Nat}(h:QOf t q)(hn:t.length≤n):Fits q (4*n+1):=by
 obtain⟨v,hv,rfl⟩:=h;have:=hv.fits (Nat.le_trans (Qdp t [45]) hn)
 split
 · exact this.neg
 · exact this
end Go.Proofs.YtodfmpjhcmapmaaGreatDoor
namespace Go.Proofs.YtodfmpjhcmapmaaGreatDoor
set_option linter.unusedVariables false
theorem Qe4{c:UInt8}{l:List UInt8}{q:Rat}(hl:l= [c])(h1:48≤c.toNat)(h2:c.toNat≤57)(ht:Lib.trimPrefix l [45]=l)(hp:Lib.hasPrefix l [45]=false)(hc:Lib.cut l [47]=(l,[],false))(hq:q=mkRat (decVal l:Nat) 1):QOf l q:=by
 refine⟨q,.inl ⟨⟨?_,?_⟩,?_⟩,by rw[hp];rfl⟩
 ·
  rw[ht,hc,hl];exact⟨by simp,fun d hd=>by
   obtain rfl:d=c:=by simpa using hd
   exact⟨h1,h2⟩⟩
 · rw[ht,hc];intro h;cases h
 · rw[ht,hc];simpa using hq
theorem vq1:QOf [49] 1:=Qe4 rfl (by decide) (by decide) (by decide) (by decide) (by decide) (by decide)
theorem vqe:QOf [] 0:=⟨0,.inr ⟨fun h=>h.1.1 (by decide),rfl⟩,by decide⟩
theorem vq3:QOf [51] 3:=Qe4 rfl (by decide) (by decide) (by decide) (by decide) (by decide) (by decide)
theorem vq4:QOf [52] 4:=Qe4 rfl (by decide) (by decide) (by decide) (by decide) (by decide) (by decide)
end Go.Proofs.YtodfmpjhcmapmaaGreatDoor
