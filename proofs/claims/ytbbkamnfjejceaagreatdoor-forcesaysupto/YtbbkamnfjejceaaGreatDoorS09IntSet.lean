/- rafterbig's Int: Set, Neg, Sign, Cmp, Add, Sub, Mul. -/
import Derived.Test.YtbbkamnfjejceaaGreatDoorS08IntGive
import Derived.Deep.RegionHeld3
namespace Go.Proofs.YtbbkamnfjejceaaGreatDoor
open Go.RowKit
set_option linter.unusedVariables false
theorem U32.drew{w:World}{a:Option Addr}{cap:Nat}{l:List Nat}{n:Nat}(h:U32 w a cap l n):U32 w.drew a cap l n:=h.below (Below.refl _ _).drew
theorem Qfv(X:Int):X=if decide (X<0)=true then -(X.natAbs:Int) else (X.natAbs:Int):=by
 by_cases h:X<0
 · simp[h];omega
 · simp[h];omega
set_option maxHeartbeats 1000000 in
theorem Qdq(bz oz:Nat)(t:TypeId)(C:Array Value)(bx ox:Nat)(X:Int)(a:Option Addr)(cap:Nat)(l:List Nat)(w:World)(hs:SB w bz t C)(hn:NoInt C)(ho:oz+1<C.size)(hx:IntAt w bx ox X a cap l)(hne:bx≠bz):
 Calls Tryz.prog 99 #[.pointer (some ⟨bz,oz,none⟩),.pointer (some ⟨bx,ox,none⟩)] w (LaidOk w bz oz t C X):=by
 have k0:=hx.neg;have k1:=hx.abs;have hlt:=hx.lt;have HS:=Hi hs;have HN:=Hi hn;have HX:=Hi hx.num;clear hs hn hx;go_enter Tryz.func99,Tryz.ntmps99;go_wp2;go_region_held3 (fun w'=>w'.cell? ⟨bx,ox,none⟩=some (.bool (decide (X<0)))∧w'.cell? ⟨bx,ox+1,none⟩=some (.slice a l.length cap)) ((simp [*]))
  (first
    |(go_at_call 160;refine(Qcg a cap l X.natAbs _ ?_).mono ?_;exact HX.out.drew;rintro e w1 ⟨⟨a1,cap1,rfl,hu1⟩,hb1⟩;have c0:=(hb1.cell (p:=⟨bx,ox,none⟩) hlt).trans k0;have c1:=(hb1.cell (p:=⟨bx,ox+1,none⟩) hlt).trans k1;have HU1:=Hi hu1;have HB1:=Hi ((Below.refl w.heap.size w).drew.trans hb1);clear hu1 hb1)
    |(go_at_call 115;refine(Qbi bz oz t C _ a1 cap1 l X.natAbs X _ ?_ HN.out ho HU1.out ?_).mono ?_;exact HS.out.below HB1.out HS.out.lt;exact Qfv X;rintro e w2 ⟨rfl,hl⟩;have d0:=(World.cell?_of_block (a:=⟨bx,ox,none⟩) (hl.only.block bx (Nat.lt_of_lt_of_le hlt HB1.out.size) hne)).trans c0;have d1:=(World.cell?_of_block (a:=⟨bx,ox+1,none⟩) (hl.only.block bx (Nat.lt_of_lt_of_le hlt HB1.out.size) hne)).trans c1;have HL:=Hi hl;clear hl))
 go_wp2;go_ret;exact LaidOk.of (Only.of_below HB1.out) ⟨rfl,_,_,_,HL.out⟩
def sgn(neg:Bool)(n:Nat):Int:=if neg then -(n:Int) else (n:Int)
theorem Qdr(X:Int):sgn (decide (X<0)) X.natAbs=X:=(Qfv X).symm
theorem Qcs(neg:Bool)(n:Nat):(sgn neg n).natAbs=n:=by unfold sgn;split<;>omega
set_option maxHeartbeats 1000000 in
theorem Qfw(xn yn:Bool)(a1 a2:Option Addr)(c1 c2:Nat)(l m:List Nat)(x y:Nat)(w:World)(h1:U32 w a1 c1 l x)(h2:U32 w a2 c2 m y)(hl:l.length<1099511627776)(hm:m.length<1099511627776):
 Calls Tryz.prog 162 #[.bool xn,.slice a1 l.length c1,.bool yn,.slice a2 m.length c2] w fun e w'=>(∃neg a cap r n,e=.returned (.tuple #[.bool neg,.slice a r.length cap])∧U32 w' a cap r n∧sgn neg n=sgn xn x+sgn yn y)∧Below w.heap.size w w':=by
 have H1:=Hi h1;have H2:=Hi h2;clear h1 h2;by_cases hxy:xn=yn
 ·
  subst hxy;have hq:(xn == xn)=true:=by simp
  go_enter Tryz.func162,Tryz.ntmps162;go_wp2_with fail;refine(Qer a1 a2 c1 c2 l m x y _ H1.out H2.out hl hm).mono ?_;rintro e w1 ⟨⟨a,cap,r,rfl,hu⟩,hb⟩;go_wp2;go_ret2;exact⟨⟨xn,a,cap,r,x+y,rfl,hu,by unfold sgn;split<;>omega⟩,hb⟩
 ·
  have hq:(xn == yn)=false:=by simp[hxy]
  by_cases hc:cmp3 x y<0
  ·
   have hlt:=(Qaq x y).1 hc;have HXY:=Hi hxy;have hc':¬(0≤cmp3 x y):=by omega
   clear hxy hc;go_enter Tryz.func162,Tryz.ntmps162;go_wp2_with fail;refine(Qa4 a1 a2 c1 c2 l m x y _ H1.out H2.out).mono ?_;rintro e w1 ⟨rfl,hb1⟩;go_wp2_with fail;refine(Qew a2 a1 c2 c1 m l y x _ (H2.out.below hb1) (H1.out.below hb1) (by omega)).mono ?_;rintro e w2 ⟨⟨a,cap,r,rfl,hu⟩,hb⟩;go_wp2;go_ret2;refine⟨⟨yn,a,cap,r,y - x,rfl,hu,?_⟩,hb1.trans (hb.mono hb1.size)⟩;have:=HXY.out;unfold sgn;cases xn<;>cases yn<;>simp at this ⊢ <;>omega
  ·
   have hle:y≤x:=by have:=(Qaq x y);omega
   have HXY:=Hi hxy;have hc':0≤cmp3 x y:=by omega
   clear hxy hc;go_enter Tryz.func162,Tryz.ntmps162;go_wp2_with fail;refine(Qa4 a1 a2 c1 c2 l m x y _ H1.out H2.out).mono ?_;rintro e w1 ⟨rfl,hb1⟩;go_wp2_with fail;refine(Qew a1 a2 c1 c2 l m x y _ (H1.out.below hb1) (H2.out.below hb1) hle).mono ?_;rintro e w2 ⟨⟨a,cap,r,rfl,hu⟩,hb⟩;go_wp2;go_ret2;refine⟨⟨xn,a,cap,r,x - y,rfl,hu,?_⟩,hb1.trans (hb.mono hb1.size)⟩;have:=HXY.out;unfold sgn;cases xn<;>cases yn<;>simp at this ⊢ <;>omega
theorem Qfx{neg:Bool}{n:Nat}{Z:Int}(h:sgn neg n=Z):Z=if neg=true then -(n:Int) else (n:Int):=by
 rw[←h];unfold sgn;cases neg<;>rfl
theorem Qkm(X Y:Int):sgn (decide (X<0)) X.natAbs+sgn (!decide (Y<0)) Y.natAbs=X - Y:=by
 rw[Qdr];unfold sgn;by_cases h:Y<0
 · simp[h];omega
 · simp[h];omega
theorem Qkn(X Y:Int):X*Y=if (decide (X<0) != decide (Y<0))=true then -((X.natAbs*Y.natAbs:Nat):Int) else ((X.natAbs*Y.natAbs:Nat):Int):=by
 rw[Int.natCast_mul];by_cases h:X<0
 ·
  by_cases k:Y<0
  · rw[if_neg (by simp[h,k]),show ((X.natAbs:Nat):Int)= -X from by omega,show ((Y.natAbs:Nat):Int)= -Y from by omega,Int.neg_mul_neg]
  · rw[if_pos (by simp[h,k]),show ((X.natAbs:Nat):Int)= -X from by omega,show ((Y.natAbs:Nat):Int)=Y from by omega,Int.neg_mul,Int.neg_neg]
 ·
  by_cases k:Y<0
  · rw[if_pos (by simp[h,k]),show ((X.natAbs:Nat):Int)=X from by omega,show ((Y.natAbs:Nat):Int)= -Y from by omega,Int.mul_neg,Int.neg_neg]
  · rw[if_neg (by simp[h,k]),show ((X.natAbs:Nat):Int)=X from by omega,show ((Y.natAbs:Nat):Int)=Y from by omega]
set_option maxHeartbeats 2000000 in
theorem Qko(bz oz:Nat)(t:TypeId)(C:Array Value)(bx ox:Nat)(X:Int)(a:Option Addr)(cap:Nat)(l:List Nat)(bv ov:Nat)(Y:Int)(b:Option Addr)(cap':Nat)(m:List Nat)(w:World)(hs:SB w bz t C)(hn:NoInt C)(ho:oz+1<C.size)(hx:IntAt w bx ox X a cap l)(hy:IntAt w bv ov Y b cap' m)(hne:bx≠bz)(hne':bv≠bz)(hlm:l.length+m.length<1099511627770):
 Calls Tryz.prog 101 #[.pointer (some ⟨bz,oz,none⟩),.pointer (some ⟨bx,ox,none⟩),.pointer (some ⟨bv,ov,none⟩)] w (LaidOk w bz oz t C (X+Y)):=by
 have k0:=hx.neg;have k1:=hx.abs;have j0:=hy.neg;have j1:=hy.abs;have hlt:=hx.lt;have hlt':=hy.lt;have HS:=Hi hs;have HN:=Hi hn;have HX:=Hi hx.num;have HY:=Hi hy.num;clear hs hn hx hy;go_enter Tryz.func101,Tryz.ntmps101;go_wp2;go_region_held3 (fun w'=>w'.cell? ⟨bx,ox,none⟩=some (.bool (decide (X<0)))∧w'.cell? ⟨bx,ox+1,none⟩=some (.slice a l.length cap)∧w'.cell? ⟨bv,ov,none⟩=some (.bool (decide (Y<0)))∧w'.cell? ⟨bv,ov+1,none⟩=some (.slice b m.length cap')) ((simp [*]))
  (first
    |(go_at_call 162;refine(Qfw (decide (X<0)) (decide (Y<0)) a b cap cap' l m X.natAbs Y.natAbs _ ?_ ?_ ?_ ?_).mono ?_;exact HX.out.drew;exact HY.out.drew;omega;omega;rintro e w1 ⟨⟨neg1,a1,cap1,r1,n1,rfl,hu1,hz1⟩,hb1⟩;have HZ1:=Hi hz1;clear hz1;have c0:=(hb1.cell (p:=⟨bx,ox,none⟩) hlt).trans k0;have c1:=(hb1.cell (p:=⟨bx,ox+1,none⟩) hlt).trans k1;have c2:=(hb1.cell (p:=⟨bv,ov,none⟩) hlt').trans j0;have c3:=(hb1.cell (p:=⟨bv,ov+1,none⟩) hlt').trans j1;have HU1:=Hi hu1;have HB1:=Hi ((Below.refl w.heap.size w).drew.trans hb1);clear hu1 hb1)
    |(go_at_call 115;refine(Qbi bz oz t C _ a1 cap1 r1 n1 (X+Y) _ ?_ HN.out ho HU1.out ?_).mono ?_;exact HS.out.below HB1.out HS.out.lt;exact Qfx (HZ1.out.trans (by rw[Qdr,Qdr]));rintro e w2 ⟨rfl,hl⟩;have d0:=(World.cell?_of_block (a:=⟨bx,ox,none⟩) (hl.only.block bx (Nat.lt_of_lt_of_le hlt HB1.out.size) hne)).trans c0;have d1:=(World.cell?_of_block (a:=⟨bx,ox+1,none⟩) (hl.only.block bx (Nat.lt_of_lt_of_le hlt HB1.out.size) hne)).trans c1;have d2:=(World.cell?_of_block (a:=⟨bv,ov,none⟩) (hl.only.block bv (Nat.lt_of_lt_of_le hlt' HB1.out.size) hne')).trans c2;have d3:=(World.cell?_of_block (a:=⟨bv,ov+1,none⟩) (hl.only.block bv (Nat.lt_of_lt_of_le hlt' HB1.out.size) hne')).trans c3;have HL:=Hi hl;clear hl))
 go_wp2;go_ret;exact LaidOk.of (Only.of_below HB1.out) ⟨rfl,_,_,_,HL.out⟩
set_option maxHeartbeats 2000000 in
theorem Qkp(bz oz:Nat)(t:TypeId)(C:Array Value)(bx ox:Nat)(X:Int)(a:Option Addr)(cap:Nat)(l:List Nat)(bv ov:Nat)(Y:Int)(b:Option Addr)(cap':Nat)(m:List Nat)(w:World)(hs:SB w bz t C)(hn:NoInt C)(ho:oz+1<C.size)(hx:IntAt w bx ox X a cap l)(hy:IntAt w bv ov Y b cap' m)(hne:bx≠bz)(hne':bv≠bz)(hlm:l.length+m.length<1099511627770):
 Calls Tryz.prog 158 #[.pointer (some ⟨bz,oz,none⟩),.pointer (some ⟨bx,ox,none⟩),.pointer (some ⟨bv,ov,none⟩)] w (LaidOk w bz oz t C (X - Y)):=by
 have k0:=hx.neg;have k1:=hx.abs;have j0:=hy.neg;have j1:=hy.abs;have hlt:=hx.lt;have hlt':=hy.lt;have HS:=Hi hs;have HN:=Hi hn;have HX:=Hi hx.num;have HY:=Hi hy.num;clear hs hn hx hy;go_enter Tryz.func158,Tryz.ntmps158;go_wp2;go_region_held3 (fun w'=>w'.cell? ⟨bx,ox,none⟩=some (.bool (decide (X<0)))∧w'.cell? ⟨bx,ox+1,none⟩=some (.slice a l.length cap)∧w'.cell? ⟨bv,ov,none⟩=some (.bool (decide (Y<0)))∧w'.cell? ⟨bv,ov+1,none⟩=some (.slice b m.length cap')) ((simp [*]))
  (first
    |(go_at_call 162;refine(Qfw (decide (X<0)) (!decide (Y<0)) a b cap cap' l m X.natAbs Y.natAbs _ ?_ ?_ ?_ ?_).mono ?_;exact HX.out.drew;exact HY.out.drew;omega;omega;rintro e w1 ⟨⟨neg1,a1,cap1,r1,n1,rfl,hu1,hz1⟩,hb1⟩;have HZ1:=Hi hz1;clear hz1;have c0:=(hb1.cell (p:=⟨bx,ox,none⟩) hlt).trans k0;have c1:=(hb1.cell (p:=⟨bx,ox+1,none⟩) hlt).trans k1;have c2:=(hb1.cell (p:=⟨bv,ov,none⟩) hlt').trans j0;have c3:=(hb1.cell (p:=⟨bv,ov+1,none⟩) hlt').trans j1;have HU1:=Hi hu1;have HB1:=Hi ((Below.refl w.heap.size w).drew.trans hb1);clear hu1 hb1)
    |(go_at_call 115;refine(Qbi bz oz t C _ a1 cap1 r1 n1 (X - Y) _ ?_ HN.out ho HU1.out ?_).mono ?_;exact HS.out.below HB1.out HS.out.lt;exact Qfx (HZ1.out.trans (Qkm X Y));rintro e w2 ⟨rfl,hl⟩;have d0:=(World.cell?_of_block (a:=⟨bx,ox,none⟩) (hl.only.block bx (Nat.lt_of_lt_of_le hlt HB1.out.size) hne)).trans c0;have d1:=(World.cell?_of_block (a:=⟨bx,ox+1,none⟩) (hl.only.block bx (Nat.lt_of_lt_of_le hlt HB1.out.size) hne)).trans c1;have d2:=(World.cell?_of_block (a:=⟨bv,ov,none⟩) (hl.only.block bv (Nat.lt_of_lt_of_le hlt' HB1.out.size) hne')).trans c2;have d3:=(World.cell?_of_block (a:=⟨bv,ov+1,none⟩) (hl.only.block bv (Nat.lt_of_lt_of_le hlt' HB1.out.size) hne')).trans c3;have HL:=Hi hl;clear hl))
 go_wp2;go_ret;exact LaidOk.of (Only.of_below HB1.out) ⟨rfl,_,_,_,HL.out⟩
set_option maxHeartbeats 2000000 in
theorem Qkq(bz oz:Nat)(t:TypeId)(C:Array Value)(bx ox:Nat)(X:Int)(a:Option Addr)(cap:Nat)(l:List Nat)(bv ov:Nat)(Y:Int)(b:Option Addr)(cap':Nat)(m:List Nat)(w:World)(hs:SB w bz t C)(hn:NoInt C)(ho:oz+1<C.size)(hx:IntAt w bx ox X a cap l)(hy:IntAt w bv ov Y b cap' m)(hne:bx≠bz)(hne':bv≠bz)(hlm:l.length+m.length<1099511627770):
 Calls Tryz.prog 102 #[.pointer (some ⟨bz,oz,none⟩),.pointer (some ⟨bx,ox,none⟩),.pointer (some ⟨bv,ov,none⟩)] w (LaidOk w bz oz t C (X*Y)):=by
 have k0:=hx.neg;have k1:=hx.abs;have j0:=hy.neg;have j1:=hy.abs;have hlt:=hx.lt;have hlt':=hy.lt;have HS:=Hi hs;have HN:=Hi hn;have HX:=Hi hx.num;have HY:=Hi hy.num;clear hs hn hx hy;go_enter Tryz.func102,Tryz.ntmps102;go_wp2;go_region_held3 (fun w'=>w'.cell? ⟨bx,ox,none⟩=some (.bool (decide (X<0)))∧w'.cell? ⟨bx,ox+1,none⟩=some (.slice a l.length cap)∧w'.cell? ⟨bv,ov,none⟩=some (.bool (decide (Y<0)))∧w'.cell? ⟨bv,ov+1,none⟩=some (.slice b m.length cap')) ((simp [*]))
  (first
    |(go_at_call 113;refine(Qeu a b cap cap' l m X.natAbs Y.natAbs _ ?_ ?_ ?_).mono ?_;exact HX.out.drew;exact HY.out.drew;omega;rintro e w1 ⟨⟨a1,cap1,r1,rfl,hu1⟩,hb1⟩;obtain⟨n1,hn1⟩:∃n1,X.natAbs*Y.natAbs=n1:=⟨_,rfl⟩;rw[hn1] at hu1;have HZ1:=Hi hn1;clear hn1;have c0:=(hb1.cell (p:=⟨bx,ox,none⟩) hlt).trans k0;have c1:=(hb1.cell (p:=⟨bx,ox+1,none⟩) hlt).trans k1;have c2:=(hb1.cell (p:=⟨bv,ov,none⟩) hlt').trans j0;have c3:=(hb1.cell (p:=⟨bv,ov+1,none⟩) hlt').trans j1;have HU1:=Hi hu1;have HB1:=Hi ((Below.refl w.heap.size w).drew.trans hb1);clear hu1 hb1)
    |(go_at_call 115;refine(Qbi bz oz t C _ a1 cap1 r1 n1 (X*Y) _ ?_ HN.out ho HU1.out ?_).mono ?_;exact HS.out.below HB1.out HS.out.lt;exact(by rw[←HZ1.out];exact Qkn X Y);rintro e w2 ⟨rfl,hl⟩;have d0:=(World.cell?_of_block (a:=⟨bx,ox,none⟩) (hl.only.block bx (Nat.lt_of_lt_of_le hlt HB1.out.size) hne)).trans c0;have d1:=(World.cell?_of_block (a:=⟨bx,ox+1,none⟩) (hl.only.block bx (Nat.lt_of_lt_of_le hlt HB1.out.size) hne)).trans c1;have d2:=(World.cell?_of_block (a:=⟨bv,ov,none⟩) (hl.only.block bv (Nat.lt_of_lt_of_le hlt' HB1.out.size) hne')).trans c2;have d3:=(World.cell?_of_block (a:=⟨bv,ov+1,none⟩) (hl.only.block bv (Nat.lt_of_lt_of_le hlt' HB1.out.size) hne')).trans c3;have HL:=Hi hl;clear hl))
 go_wp2;go_ret;exact LaidOk.of (Only.of_below HB1.out) ⟨rfl,_,_,_,HL.out⟩
end Go.Proofs.YtbbkamnfjejceaaGreatDoor
