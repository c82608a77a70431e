/- rafterbig's Rat: norm, where what is below the bar is above 0. -/
import Derived.Test.YtfpcipgoedifaaaGreatDoorK06IntGive
import Derived.Deep.RegionHeld3
namespace Go.Proofs.YtfpcipgoedifaaaGreatDoor
open Go.RowKit
set_option linter.unusedVariables false
theorem U32.drew{w:World}{a:Option Addr}{cap:Nat}{l:List Nat}{n:Nat}(h:U32 w a cap l n):U32 w.drew a cap l n:=h.below bR.drew
theorem Qig(X:Int):X=if decide (X<0)=true then -(X.natAbs:Int) else (X.natAbs:Int):=by
 by_cases h:X<0
 · simp[h];omega
 · simp[h];omega
set_option maxHeartbeats 1000000 in
theorem Qih(bz oz:Nat)(t:TypeId)(C:Array Value)(bx ox:Nat)(X:Int)(a:Option Addr)(cap:Nat)(l:List Nat)(w:World)(hs:SB w bz t C)(hn:NoInt C)(ho:oz+1<C.size)(hx:IntAt w bx ox X a cap l)(hne:bx≠bz):
 Calls Tryz.prog 71 #[.pointer (some ⟨bz,oz,none⟩),.pointer (some ⟨bx,ox,none⟩)] w (LaidOk w bz oz t C X):=by
 have k0:=hx.neg;have k1:=hx.abs;have hlt:=hx.lt;have HS:=Hi hs;have HN:=Hi hn;have HX:=Hi hx.num;clear hs hn hx;go_enter Tryz.func71,Tryz.ntmps71;go_wp2;go_region_held3 (fun w'=>w'.cell? ⟨bx,ox,none⟩=some (.bool (decide (X<0)))/\w'.cell? ⟨bx,ox+1,none⟩=some (.slice a l.length cap)) ((simp [*]))
  (first
    |(go_at_call 110;refine(Qeo a cap l X.natAbs _ ?_).mono ?_;exact HX.out.drew;rintro e w1 ⟨⟨a1,cap1,rfl,hu1⟩,hb1⟩;have c0:=ce hb1 hlt k0;have c1:=ce hb1 hlt k1;have HU1:=Hi hu1;have HB1:=Hi ((Below.refl w.heap.size w).drew.trans hb1);clear hu1 hb1)
    |(go_at_call 69;refine(Qbo bz oz t C _ a1 cap1 l X.natAbs X _ ?_ HN.out ho HU1.out ?_).mono ?_;exact HS.out.below HB1.out HS.out.lt;exact Qig X;rintro e w2 ⟨rfl,hl⟩;have d0:=(World.cell?_of_block (a:=⟨bx,ox,none⟩) (hl.only.block bx (Nat.lt_of_lt_of_le hlt HB1.out.size) hne)).trans c0;have d1:=(World.cell?_of_block (a:=⟨bx,ox+1,none⟩) (hl.only.block bx (Nat.lt_of_lt_of_le hlt HB1.out.size) hne)).trans c1;have HL:=Hi hl;clear hl))
 go_wp2;go_ret;exact LaidOk.of (Only.of_below HB1.out) ⟨rfl,_,_,_,HL.out⟩
def sgn(neg:Bool)(n:Nat):Int:=if neg then -(n:Int) else (n:Int)
theorem Qfd(X:Int):sgn (decide (X<0)) X.natAbs=X:=(Qig X).symm
theorem Qdn(neg:Bool)(n:Nat):(sgn neg n).natAbs=n:=by unfold sgn;split<;>omega
set_option maxHeartbeats 1000000 in
theorem Qii(xn yn:Bool)(a1 a2:Option Addr)(c1 c2:Nat)(l m:List Nat)(x y:Nat)(w:World)(h1:U32 w a1 c1 l x)(h2:U32 w a2 c2 m y)(hl:l.length<1099511627776)(hm:m.length<1099511627776):
 Calls Tryz.prog 81 #[.bool xn,.slice a1 l.length c1,.bool yn,.slice a2 m.length c2] w fun e w'=>(∃neg a cap r n,e=.returned (.tuple #[.bool neg,.slice a r.length cap])/\U32 w' a cap r n/\sgn neg n=sgn xn x+sgn yn y)/\Below w.heap.size w w':=by
 have H1:=Hi h1;have H2:=Hi h2;clear h1 h2;by_cases hxy:xn=yn
 ·
  subst hxy;have hq:(xn == xn)=true:=by simp
  go_enter Tryz.func81,Tryz.ntmps81;go_wp2_with fail;refine(Qgi a1 a2 c1 c2 l m x y _ H1.out H2.out hl hm).mono ?_;rintro e w1 ⟨⟨a,cap,r,rfl,hu⟩,hb⟩;go_wp2;go_ret2;exact⟨⟨xn,a,cap,r,x+y,rfl,hu,by unfold sgn;split<;>omega⟩,hb⟩
 ·
  have hq:(xn == yn)=false:=by simp[hxy]
  by_cases hc:cmp3 x y<0
  ·
   have hlt:=(Qat x y).1 hc;have HXY:=Hi hxy;have hc':¬(0<=cmp3 x y):=by omega
   clear hxy hc;go_enter Tryz.func81,Tryz.ntmps81;go_wp2_with fail;refine(Qa8 a1 a2 c1 c2 l m x y _ H1.out H2.out).mono ?_;rintro e w1 ⟨rfl,hb1⟩;go_wp2_with fail;refine(Qgn a2 a1 c2 c1 m l y x _ (H2.out.below hb1) (H1.out.below hb1) (by omega)).mono ?_;rintro e w2 ⟨⟨a,cap,r,rfl,hu⟩,hb⟩;go_wp2;go_ret2;refine⟨⟨yn,a,cap,r,y - x,rfl,hu,?_⟩,hb1.trans (hb.mono hb1.size)⟩;have:=HXY.out;unfold sgn;cases xn<;>cases yn<;>simp at this ⊢ <;>omega
  ·
   have hle:y<=x:=by have:=(Qat x y);omega
   have HXY:=Hi hxy;have hc':0<=cmp3 x y:=by omega
   clear hxy hc;go_enter Tryz.func81,Tryz.ntmps81;go_wp2_with fail;refine(Qa8 a1 a2 c1 c2 l m x y _ H1.out H2.out).mono ?_;rintro e w1 ⟨rfl,hb1⟩;go_wp2_with fail;refine(Qgn a1 a2 c1 c2 l m x y _ (H1.out.below hb1) (H2.out.below hb1) hle).mono ?_;rintro e w2 ⟨⟨a,cap,r,rfl,hu⟩,hb⟩;go_wp2;go_ret2;refine⟨⟨xn,a,cap,r,x - y,rfl,hu,?_⟩,hb1.trans (hb.mono hb1.size)⟩;have:=HXY.out;unfold sgn;cases xn<;>cases yn<;>simp at this ⊢ <;>omega
theorem Qij{neg:Bool}{n:Nat}{Z:Int}(h:sgn neg n=Z):Z=if neg=true then -(n:Int) else (n:Int):=by
 rw[<-h];unfold sgn;cases neg<;>rfl
theorem Qpc(X Y:Int):sgn (decide (X<0)) X.natAbs+sgn (!decide (Y<0)) Y.natAbs=X - Y:=by
 rw[Qfd];unfold sgn;by_cases h:Y<0
 · simp[h];omega
 · simp[h];omega
theorem Qpd(X Y:Int):X*Y=if (decide (X<0) != decide (Y<0))=true then -((X.natAbs*Y.natAbs:Nat):Int) else ((X.natAbs*Y.natAbs:Nat):Int):=by
 rw[Int.natCast_mul];by_cases h:X<0
 ·
  by_cases k:Y<0
  · rw[if_neg (by simp[h,k]),show ((X.natAbs:Nat):Int)= -X from by omega,show ((Y.natAbs:Nat):Int)= -Y from by omega,Int.neg_mul_neg]
  · rw[if_pos (by simp[h,k]),show ((X.natAbs:Nat):Int)= -X from by omega,show ((Y.natAbs:Nat):Int)=Y from by omega,Int.neg_mul,Int.neg_neg]
 ·
  by_cases k:Y<0
  · rw[if_pos (by simp[h,k]),show ((X.natAbs:Nat):Int)=X from by omega,show ((Y.natAbs:Nat):Int)= -Y from by omega,Int.mul_neg,Int.neg_neg]
  · rw[if_neg (by simp[h,k]),show ((X.natAbs:Nat):Int)=X from by omega,show ((Y.natAbs:Nat):Int)=Y from by omega]
set_option maxHeartbeats 2000000 in
theorem Qpe(bz oz:Nat)(t:TypeId)(C:Array Value)(bx ox:Nat)(X:Int)(a:Option Addr)(cap:Nat)(l:List Nat)(bv ov:Nat)(Y:Int)(b:Option Addr)(cap':Nat)(m:List Nat)(w:World)(hs:SB w bz t C)(hn:NoInt C)(ho:oz+1<C.size)(hx:IntAt w bx ox X a cap l)(hy:IntAt w bv ov Y b cap' m)(hne:bx≠bz)(hne':bv≠bz)(hlm:l.length+m.length<1099511627770):
 Calls Tryz.prog 43 #[.pointer (some ⟨bz,oz,none⟩),.pointer (some ⟨bx,ox,none⟩),.pointer (some ⟨bv,ov,none⟩)] w (LaidOk w bz oz t C (X+Y)):=by
 have k0:=hx.neg;have k1:=hx.abs;have j0:=hy.neg;have j1:=hy.abs;have hlt:=hx.lt;have hlt':=hy.lt;have HS:=Hi hs;have HN:=Hi hn;have HX:=Hi hx.num;have HY:=Hi hy.num;clear hs hn hx hy;go_enter Tryz.func43,Tryz.ntmps43;go_wp2;go_region_held3 (fun w'=>w'.cell? ⟨bx,ox,none⟩=some (.bool (decide (X<0)))/\w'.cell? ⟨bx,ox+1,none⟩=some (.slice a l.length cap)/\w'.cell? ⟨bv,ov,none⟩=some (.bool (decide (Y<0)))/\w'.cell? ⟨bv,ov+1,none⟩=some (.slice b m.length cap')) ((simp [*]))
  (first
    |(go_at_call 81;refine(Qii (decide (X<0)) (decide (Y<0)) a b cap cap' l m X.natAbs Y.natAbs _ ?_ ?_ ?_ ?_).mono ?_;exact HX.out.drew;exact HY.out.drew;omega;omega;rintro e w1 ⟨⟨neg1,a1,cap1,r1,n1,rfl,hu1,hz1⟩,hb1⟩;have HZ1:=Hi hz1;clear hz1;have c0:=ce hb1 hlt k0;have c1:=ce hb1 hlt k1;have c2:=ce hb1 hlt' j0;have c3:=ce hb1 hlt' j1;have HU1:=Hi hu1;have HB1:=Hi ((Below.refl w.heap.size w).drew.trans hb1);clear hu1 hb1)
    |(go_at_call 69;refine(Qbo bz oz t C _ a1 cap1 r1 n1 (X+Y) _ ?_ HN.out ho HU1.out ?_).mono ?_;exact HS.out.below HB1.out HS.out.lt;exact Qij (HZ1.out.trans (by rw[Qfd,Qfd]));rintro e w2 ⟨rfl,hl⟩;have d0:=(World.cell?_of_block (a:=⟨bx,ox,none⟩) (hl.only.block bx (Nat.lt_of_lt_of_le hlt HB1.out.size) hne)).trans c0;have d1:=(World.cell?_of_block (a:=⟨bx,ox+1,none⟩) (hl.only.block bx (Nat.lt_of_lt_of_le hlt HB1.out.size) hne)).trans c1;have d2:=(World.cell?_of_block (a:=⟨bv,ov,none⟩) (hl.only.block bv (Nat.lt_of_lt_of_le hlt' HB1.out.size) hne')).trans c2;have d3:=(World.cell?_of_block (a:=⟨bv,ov+1,none⟩) (hl.only.block bv (Nat.lt_of_lt_of_le hlt' HB1.out.size) hne')).trans c3;have HL:=Hi hl;clear hl))
 go_wp2;go_ret;exact LaidOk.of (Only.of_below HB1.out) ⟨rfl,_,_,_,HL.out⟩
set_option maxHeartbeats 2000000 in
theorem Qpf(bz oz:Nat)(t:TypeId)(C:Array Value)(bx ox:Nat)(X:Int)(a:Option Addr)(cap:Nat)(l:List Nat)(bv ov:Nat)(Y:Int)(b:Option Addr)(cap':Nat)(m:List Nat)(w:World)(hs:SB w bz t C)(hn:NoInt C)(ho:oz+1<C.size)(hx:IntAt w bx ox X a cap l)(hy:IntAt w bv ov Y b cap' m)(hne:bx≠bz)(hne':bv≠bz)(hlm:l.length+m.length<1099511627770):
 Calls Tryz.prog 80 #[.pointer (some ⟨bz,oz,none⟩),.pointer (some ⟨bx,ox,none⟩),.pointer (some ⟨bv,ov,none⟩)] w (LaidOk w bz oz t C (X - Y)):=by
 have k0:=hx.neg;have k1:=hx.abs;have j0:=hy.neg;have j1:=hy.abs;have hlt:=hx.lt;have hlt':=hy.lt;have HS:=Hi hs;have HN:=Hi hn;have HX:=Hi hx.num;have HY:=Hi hy.num;clear hs hn hx hy;go_enter Tryz.func80,Tryz.ntmps80;go_wp2;go_region_held3 (fun w'=>w'.cell? ⟨bx,ox,none⟩=some (.bool (decide (X<0)))/\w'.cell? ⟨bx,ox+1,none⟩=some (.slice a l.length cap)/\w'.cell? ⟨bv,ov,none⟩=some (.bool (decide (Y<0)))/\w'.cell? ⟨bv,ov+1,none⟩=some (.slice b m.length cap')) ((simp [*]))
  (first
    |(go_at_call 81;refine(Qii (decide (X<0)) (!decide (Y<0)) a b cap cap' l m X.natAbs Y.natAbs _ ?_ ?_ ?_ ?_).mono ?_;exact HX.out.drew;exact HY.out.drew;omega;omega;rintro e w1 ⟨⟨neg1,a1,cap1,r1,n1,rfl,hu1,hz1⟩,hb1⟩;have HZ1:=Hi hz1;clear hz1;have c0:=ce hb1 hlt k0;have c1:=ce hb1 hlt k1;have c2:=ce hb1 hlt' j0;have c3:=ce hb1 hlt' j1;have HU1:=Hi hu1;have HB1:=Hi ((Below.refl w.heap.size w).drew.trans hb1);clear hu1 hb1)
    |(go_at_call 69;refine(Qbo bz oz t C _ a1 cap1 r1 n1 (X - Y) _ ?_ HN.out ho HU1.out ?_).mono ?_;exact HS.out.below HB1.out HS.out.lt;exact Qij (HZ1.out.trans (Qpc X Y));rintro e w2 ⟨rfl,hl⟩;have d0:=(World.cell?_of_block (a:=⟨bx,ox,none⟩) (hl.only.block bx (Nat.lt_of_lt_of_le hlt HB1.out.size) hne)).trans c0;have d1:=(World.cell?_of_block (a:=⟨bx,ox+1,none⟩) (hl.only.block bx (Nat.lt_of_lt_of_le hlt HB1.out.size) hne)).trans c1;have d2:=(World.cell?_of_block (a:=⟨bv,ov,none⟩) (hl.only.block bv (Nat.lt_of_lt_of_le hlt' HB1.out.size) hne')).trans c2;have d3:=(World.cell?_of_block (a:=⟨bv,ov+1,none⟩) (hl.only.block bv (Nat.lt_of_lt_of_le hlt' HB1.out.size) hne')).trans c3;have HL:=Hi hl;clear hl))
 go_wp2;go_ret;exact LaidOk.of (Only.of_below HB1.out) ⟨rfl,_,_,_,HL.out⟩
set_option maxHeartbeats 2000000 in
theorem Qpg(bz oz:Nat)(t:TypeId)(C:Array Value)(bx ox:Nat)(X:Int)(a:Option Addr)(cap:Nat)(l:List Nat)(bv ov:Nat)(Y:Int)(b:Option Addr)(cap':Nat)(m:List Nat)(w:World)(hs:SB w bz t C)(hn:NoInt C)(ho:oz+1<C.size)(hx:IntAt w bx ox X a cap l)(hy:IntAt w bv ov Y b cap' m)(hne:bx≠bz)(hne':bv≠bz)(hlm:l.length+m.length<1099511627770):
 Calls Tryz.prog 39 #[.pointer (some ⟨bz,oz,none⟩),.pointer (some ⟨bx,ox,none⟩),.pointer (some ⟨bv,ov,none⟩)] w (LaidOk w bz oz t C (X*Y)):=by
 have k0:=hx.neg;have k1:=hx.abs;have j0:=hy.neg;have j1:=hy.abs;have hlt:=hx.lt;have hlt':=hy.lt;have HS:=Hi hs;have HN:=Hi hn;have HX:=Hi hx.num;have HY:=Hi hy.num;clear hs hn hx hy;go_enter Tryz.func39,Tryz.ntmps39;go_wp2;go_region_held3 (fun w'=>w'.cell? ⟨bx,ox,none⟩=some (.bool (decide (X<0)))/\w'.cell? ⟨bx,ox+1,none⟩=some (.slice a l.length cap)/\w'.cell? ⟨bv,ov,none⟩=some (.bool (decide (Y<0)))/\w'.cell? ⟨bv,ov+1,none⟩=some (.slice b m.length cap')) ((simp [*]))
  (first
    |(go_at_call 67;refine(Qgl a b cap cap' l m X.natAbs Y.natAbs _ ?_ ?_ ?_).mono ?_;exact HX.out.drew;exact HY.out.drew;omega;rintro e w1 ⟨⟨a1,cap1,r1,rfl,hu1⟩,hb1⟩;obtain⟨n1,hn1⟩:=nm (X.natAbs*Y.natAbs);rw[hn1] at hu1;have HZ1:=Hi hn1;clear hn1;have c0:=ce hb1 hlt k0;have c1:=ce hb1 hlt k1;have c2:=ce hb1 hlt' j0;have c3:=ce hb1 hlt' j1;have HU1:=Hi hu1;have HB1:=Hi ((Below.refl w.heap.size w).drew.trans hb1);clear hu1 hb1)
    |(go_at_call 69;refine(Qbo bz oz t C _ a1 cap1 r1 n1 (X*Y) _ ?_ HN.out ho HU1.out ?_).mono ?_;exact HS.out.below HB1.out HS.out.lt;exact(by rw[<-HZ1.out];exact Qpd X Y);rintro e w2 ⟨rfl,hl⟩;have d0:=(World.cell?_of_block (a:=⟨bx,ox,none⟩) (hl.only.block bx (Nat.lt_of_lt_of_le hlt HB1.out.size) hne)).trans c0;have d1:=(World.cell?_of_block (a:=⟨bx,ox+1,none⟩) (hl.only.block bx (Nat.lt_of_lt_of_le hlt HB1.out.size) hne)).trans c1;have d2:=(World.cell?_of_block (a:=⟨bv,ov,none⟩) (hl.only.block bv (Nat.lt_of_lt_of_le hlt' HB1.out.size) hne')).trans c2;have d3:=(World.cell?_of_block (a:=⟨bv,ov+1,none⟩) (hl.only.block bv (Nat.lt_of_lt_of_le hlt' HB1.out.size) hne')).trans c3;have HL:=Hi hl;clear hl))
 go_wp2;go_ret;exact LaidOk.of (Only.of_below HB1.out) ⟨rfl,_,_,_,HL.out⟩
structure RatAt (w:World) (b:Nat) (P D:Int) (a1:Option Addr) (c1:Nat) (l1:List Nat) (a2:Option Addr) (c2:Nat) (l2:List Nat):Prop where
 sb:SB w b 55 #[.bool (decide (P<0)),.slice a1 l1.length c1,.bool (decide (D<0)),.slice a2 l2.length c2]
 num:U32 w a1 c1 l1 P.natAbs
 den:U32 w a2 c2 l2 D.natAbs
theorem Qan(n1 n2:Bool)(a1 a2:Option Addr)(m1 m2 c1 c2:Nat):NoInt #[Value.bool n1,Value.slice a1 m1 c1,Value.bool n2,Value.slice a2 m2 c2]:=by
 intro i k n
 match i with
 |0=>simp
 |1=>simp
 |2=>simp
 |3=>simp
 |i+4=>simp
theorem RatAt.below{w w':World}{b:Nat}{P D:Int}{a1 a2:Option Addr}{c1 c2:Nat}{l1 l2:List Nat}(h:RatAt w b P D a1 c1 l1 a2 c2 l2)(hb:Below w.heap.size w w'):RatAt w' b P D a1 c1 l1 a2 c2 l2:=
 ⟨h.sb.below hb h.sb.lt,h.num.below hb,h.den.below hb⟩
theorem RatAt.drew{w:World}{b:Nat}{P D:Int}{a1 a2:Option Addr}{c1 c2:Nat}{l1 l2:List Nat}(h:RatAt w b P D a1 c1 l1 a2 c2 l2):RatAt w.drew b P D a1 c1 l1 a2 c2 l2:=h.below bR.drew
theorem RatAt.c0{w:World}{b:Nat}{P D:Int}{a1 a2:Option Addr}{c1 c2:Nat}{l1 l2:List Nat}(h:RatAt w b P D a1 c1 l1 a2 c2 l2):w.cell? ⟨b,0,none⟩=some (.bool (decide (P<0))):=by rw[h.sb.cell];rfl
theorem RatAt.c1{w:World}{b:Nat}{P D:Int}{a1 a2:Option Addr}{c1 c2:Nat}{l1 l2:List Nat}(h:RatAt w b P D a1 c1 l1 a2 c2 l2):w.cell? ⟨b,1,none⟩=some (.slice a1 l1.length c1):=by rw[h.sb.cell];rfl
theorem RatAt.c2{w:World}{b:Nat}{P D:Int}{a1 a2:Option Addr}{c1 c2:Nat}{l1 l2:List Nat}(h:RatAt w b P D a1 c1 l1 a2 c2 l2):w.cell? ⟨b,2,none⟩=some (.bool (decide (D<0))):=by rw[h.sb.cell];rfl
theorem RatAt.c3{w:World}{b:Nat}{P D:Int}{a1 a2:Option Addr}{c1 c2:Nat}{l1 l2:List Nat}(h:RatAt w b P D a1 c1 l1 a2 c2 l2):w.cell? ⟨b,3,none⟩=some (.slice a2 l2.length c2):=by rw[h.sb.cell];rfl
theorem RatAt.upper{w:World}{b:Nat}{P D:Int}{a1 a2:Option Addr}{c1 c2:Nat}{l1 l2:List Nat}(h:RatAt w b P D a1 c1 l1 a2 c2 l2):IntAt w b 0 P a1 c1 l1:=⟨h.c0,h.c1,h.num,h.sb.lt⟩
theorem RatAt.lower{w:World}{b:Nat}{P D:Int}{a1 a2:Option Addr}{c1 c2:Nat}{l1 l2:List Nat}(h:RatAt w b P D a1 c1 l1 a2 c2 l2):IntAt w b 2 D a2 c2 l2:=⟨h.c2,h.c3,h.den,h.sb.lt⟩
def RatOk(w:World)(b:Nat)(q:Rat)(e:Ending)(w':World):Prop:=
 e=.returned (.pointer (some ⟨b,0,none⟩))/\Only b w w'/\∃a1 c1 l1 a2 c2 l2,RatAt w' b q.num q.den a1 c1 l1 a2 c2 l2
theorem RatOk.of{w w1 w':World}{b:Nat}{q:Rat}{e:Ending}(h:Only b w w1)(k:RatOk w1 b q e w'):RatOk w b q e w':=⟨k.1,h.trans k.2.1,k.2.2⟩
theorem Qd6{l:List Nat}(h:Num 4294967296 l 1):l= [1]:=h.inj (by decide) ⟨fun d hd=>by simp at hd;omega,.inr (by simp),by simp[val]⟩
set_option maxRecDepth 100000 in
set_option maxHeartbeats 1000000 in
theorem Qr0(b:Nat)(D:Int)(a1 a2:Option Addr)(c1 c2:Nat)(l1 l2:List Nat)(w:World)(h:RatAt w b 0 D a1 c1 l1 a2 c2 l2)(hD:0<D):
 Calls Tryz.prog 72 #[.pointer (some ⟨b,0,none⟩)] w (RatOk w b 0):=by
 have k0:=h.c0;have k1:=h.c1;have k2:=h.c2;have k3:=h.c3;have hD0:decide (D<0)=false:=by simp;omega
 have hP0:decide ((0:Int)<0)=false:=by simp
 rw[hD0] at k2;have q1:((l2.length:Int) == 0)=false:=by
  rw[beq_eq_false_iff_ne];have:=(h.den.num.len_zero (by decide)).2;omega
 have q2:((l1.length:Int) == 0)=true:=by
  have:=(h.num.num.len_zero (by decide)).1 rfl;simp[this]
 have H:=Hi h;clear h hD0;go_enter Tryz.func72,Tryz.ntmps72;go_wp2_with fail;refine(Qie b 2 55 _ 1 _ H.out.sb (Qan _ _ _ _ _ _ _ _) (by simp) (by decide) (by decide)).mono ?_;rintro e w1 ⟨rfl,a,cap,l,hl⟩;go_wp2;go_ret;refine⟨rfl,hl.only,a1,c1,l1,a,cap,l,?_,?_,hl.num⟩
 · have:=hl.sb
   simpa [putInt] using this
 · exact H.out.num.only hl.only H.out.sb (Qan _ _ _ _ _ _ _ _)
set_option maxRecDepth 100000 in
set_option maxHeartbeats 1000000 in
theorem Qr1(b:Nat)(P:Int)(a1 a2:Option Addr)(c1 c2:Nat)(l1 l2:List Nat)(w:World)(h:RatAt w b P 1 a1 c1 l1 a2 c2 l2)(hP:P≠0):
 Calls Tryz.prog 72 #[.pointer (some ⟨b,0,none⟩)] w (RatOk w b (P:Rat)):=by
 have hl2:l2= [1]:=Qd6 h.den.num;subst hl2;have k0:=h.c0;have k1:=h.c1;have k2:=h.c2;have k3:=h.c3;obtain⟨b',o',rfl,hb',hc'⟩:=h.den.row.cell 0 (by simp);have hc':w.cell? ⟨b',o',none⟩=some (.int .u32 1):=by simpa using hc'
 have hD0:decide ((1:Int)<0)=false:=by simp
 rw[hD0] at k2;simp only[List.length_singleton] at k3;have q2:((l1.length:Int) == 0)=false:=by
  rw[beq_eq_false_iff_ne];have:=(h.num.num.len_zero (by decide)).2;omega
 have H:=Hi h;clear h hD0;go_enter Tryz.func72,Tryz.ntmps72;go_wp2;go_ret;exact⟨rfl,Only.refl _ _,_,_,_,_,_,_,H.out⟩
theorem Qjz{P D:Int}(hD:0<D)(hg:Nat.gcd P.natAbs D.natAbs=1):(mkRat P D.natAbs).num=P/\(((mkRat P D.natAbs).den:Nat):Int)=D:=by
 rw[Rat.num_mkRat,Rat.den_mkRat,if_neg (by omega),if_neg (by omega),Nat.gcd_comm,hg];constructor
 · simp
 · simp;omega
theorem Qd7(P:Int)(g:Nat)(hg:0<g)(hd:g ∣ P.natAbs):(P / (g:Int)).natAbs=P.natAbs / g:=by
 rw[Int.natAbs_ediv_of_dvd (Int.ofNat_dvd_left.2 hd),Int.natAbs_natCast]
theorem Qd8(P:Int)(g:Nat)(hg:0<g)(hd:g ∣ P.natAbs):decide (P / (g:Int)<0)=decide (P<0):=by
 apply decide_eq_decide.2;obtain⟨k,hk⟩:=Int.ofNat_dvd_left.2 hd;have hg':(0:Int)<(g:Int):=by omega
 rw[hk,Int.mul_ediv_cancel_left _ (by omega)];constructor
 · intro h
   exact Int.mul_neg_of_pos_of_neg hg' h
 ·
  intro h;apply bC;intro hc;have:=Int.mul_nonneg (Int.le_of_lt hg') (show 0<=k by omega);omega
theorem Qd9{P D:Int}{g:Nat}(hD:0<D)(hg:Nat.gcd P.natAbs D.natAbs=g):(mkRat P D.natAbs).num=P / (g:Int)/\(mkRat P D.natAbs).den=D.natAbs / g:=by
 rw[Rat.num_mkRat,Rat.den_mkRat,if_neg (by omega),if_neg (by omega),Nat.gcd_comm,hg];exact⟨rfl,rfl⟩
theorem Qj0{l:List Nat}{g:Nat}(h:Num 4294967296 l g)(hg:g≠1):((l.length:Int) == 1)=false∨∃d,l= [d]/\d≠1:=by
 by_cases hl:l.length=1
 ·
  right
  match l,hl,h with
  | [d],_,h=>
    refine⟨d,rfl,?_⟩;have:=h.eq;simp[val] at this;omega
 · left;rw[beq_eq_false_iff_ne];omega
set_option maxRecDepth 100000 in
set_option maxHeartbeats 4000000 in
theorem Qr2(b:Nat)(P D:Int)(a1 a2:Option Addr)(c1 c2:Nat)(l1 l2:List Nat)(w:World)(h:RatAt w b P D a1 c1 l1 a2 c2 l2)(hP:P≠0)(hD:0<D)(hD1:D≠1)(hb1:l1.length<1099511627770)(hb2:l2.length<1099511627770):
 Calls Tryz.prog 72 #[.pointer (some ⟨b,0,none⟩)] w (RatOk w b (mkRat P D.natAbs)):=by
 have k0:=h.c0;have k1:=h.c1;have k2:=h.c2;have k3:=h.c3;have hD0:decide (D<0)=false:=by simp;omega
 rw[hD0] at k2;have q1:((l2.length:Int) == 0)=false:=by
  rw[beq_eq_false_iff_ne];have:=(h.den.num.len_zero (by decide)).2;omega
 have q2:((l1.length:Int) == 0)=false:=by
  rw[beq_eq_false_iff_ne];have:=(h.num.num.len_zero (by decide)).2;omega
 by_cases hl:l2.length=1
 ·
  obtain⟨d,rfl⟩:∃d,l2= [d]:=by
   match l2,hl with
   | [d],_=>exact⟨d,rfl⟩
  have hd:d≠1:=by
   have:=h.den.num.eq;simp[val] at this;omega
  obtain⟨b',o',rfl,hb',hc'⟩:=h.den.row.cell 0 (by simp);have hc':w.cell? ⟨b',o',none⟩=some (.int .u32 (d:Int)):=by simpa using hc'
  have hq3:((d:Int) == 1)=false:=by rw[beq_eq_false_iff_ne];omega
  simp only[List.length_singleton] at k3 q1;have H:=Hi h;have HG:=Hi (Qgj a1 (some ⟨b',o',none⟩) c1 c2 l1 ([d]) P.natAbs D.natAbs w.drew h.num.drew h.den.drew (by omega) (by omega));have hlt:=h.sb.lt;clear h hD0;go_enter Tryz.func72,Tryz.ntmps72;go_wp2;go_region_held3 (fun w'=>w'.cell? ⟨b,1,none⟩=some (.slice a1 l1.length c1)/\w'.cell? ⟨b,3,none⟩=some (.slice (some ⟨b',o',none⟩) (1) c2)) ((simp [*]))
   (first
     |(go_at_call 111;refine HG.out.mono ?_;rintro e w1 ⟨⟨ag,cg,rg,rfl,hug⟩,hb1⟩;have d1:=ce hb1 hlt k1;have d3:=ce hb1 hlt k3;have HU:=Hi hug;have HB:=Hi ((Below.refl w.heap.size w).drew.trans hb1);clear hug hb1))
  clear k0 k1 k2 k3 HG hc' hq3;obtain⟨g,hg⟩:=nm (Nat.gcd P.natAbs D.natAbs);have hug:=HU.out;rw[hg] at hug;have HUG:=Hi hug;have HGE:=Hi hg;have hg0:0<g:=by rw[<-hg];exact Nat.gcd_pos_of_pos_right _ (by omega)
  have H1:=H.out.below HB.out;have hgl:rg.length<=([d]).length:=hug.len_mono H.out.den (by rw[<-hg];exact Nat.le_of_dvd (by omega) (Nat.gcd_dvd_right _ _));clear HU;by_cases hg1:g=1
  ·
   subst hg1;have hrg:rg= [1]:=Qd6 hug.num;subst hrg;obtain⟨bg,og,rfl,hbg,hcg⟩:=hug.row.cell 0 (by simp);have hcg:w1.cell? ⟨bg,og,none⟩=some (.int .u32 1):=by simpa using hcg
   clear hug hg H1;go_wp2;go_ret;obtain⟨e1,e2⟩:=Qjz (P:=P) hD HGE.out;refine RatOk.of (Only.of_below HB.out) ⟨rfl,Only.refl _ _,a1,c1,l1,some ⟨b',o',none⟩,c2,[d],?_⟩;rw[e1,e2];exact H.out.below HB.out
  ·
   have hdv1:g ∣ P.natAbs:=by rw[<-hg];exact Nat.gcd_dvd_left _ _
   have HD1:=Hi (Qa9 a1 ag c1 cg l1 rg P.natAbs g w1 H1.num hug hg0 (by omega));rcases Qj0 hug.num hg1 with hq5|⟨dd,rfl,hd1⟩
   ·
    clear hug hg H1;go_wp2_with fail;refine HD1.out.mono ?_;rintro e w2 ⟨⟨aq,cq,rq,ar,cr,rr,rfl,hq,hr⟩,hb2⟩;have H2:=(H.out.below HB.out).below hb2;have d3':=H2.c3;have HQ:=Hi hq;have HB2:=Hi hb2;have HD2:=Hi (Qa9 (some ⟨b',o',none⟩) _ c2 cg ([d]) _ D.natAbs g w2 H2.den (HUG.out.below hb2) hg0 (by omega));clear hq hr hb2 H2;go_wp2_with fail;refine HD2.out.mono ?_;rintro e w3 ⟨⟨as1,cs,rs,at',ct,rt,rfl,hs,ht⟩,hb3⟩;have H3:=((H.out.below HB.out).below HB2.out).below hb3;have f1:=H3.sb.free 1;have f3:=H3.sb.free 3;have f1':=H3.c1;have f3':=H3.c3;have HS:=Hi hs;have HB3:=Hi hb3;have HH3:=Hi H3;clear hs ht hb3 H3;go_wp2;go_ret;have ho:Only b w3 ((w3.setCell ⟨b,1,none⟩ (.slice aq rq.length cq)).setCell ⟨b,3,none⟩ (.slice as1 rs.length cs)):=((Only.refl b w3).setCell _ _).setCell _ _;have hdv2:g ∣ D.natAbs:=by rw[<-HGE.out];exact Nat.gcd_dvd_right _ _
    obtain⟨e1,e2⟩:=Qd9 (P:=P) hD HGE.out;refine RatOk.of (Only.of_below (HB.out.trans ((HB2.out.mono HB.out.size).trans (HB3.out.mono (Nat.le_trans HB.out.size HB2.out.size))))) ⟨rfl,ho,aq,cq,rq,as1,cs,rs,?_,?_,?_⟩
    ·
     have:=(HH3.out.sb.set 1 (.slice aq rq.length cq)).set 3 (.slice as1 rs.length cs);have en:decide ((((mkRat P D.natAbs).den:Nat):Int)<0)=decide (D<0):=by
      apply decide_eq_decide.2;omega
     rw[e1,Qd8 P g hg0 hdv1,en]
     simpa using this
    · rw[e1,Qd7 P g hg0 hdv1]
      exact(HQ.out.below HB3.out).only ho HH3.out.sb (Qan _ _ _ _ _ _ _ _)
    · rw[e2,Int.natAbs_natCast]
      exact HS.out.only ho HH3.out.sb (Qan _ _ _ _ _ _ _ _)
   ·
    obtain⟨bg,og,rfl,hbg,hcg⟩:=hug.row.cell 0 (by simp);have hcg:w1.cell? ⟨bg,og,none⟩=some (.int .u32 (dd:Int)):=by simpa using hcg
    have hq6:((dd:Int) == 1)=false:=by rw[beq_eq_false_iff_ne];omega
    clear hug hg H1;go_wp2_with fail;refine HD1.out.mono ?_;rintro e w2 ⟨⟨aq,cq,rq,ar,cr,rr,rfl,hq,hr⟩,hb2⟩;have H2:=(H.out.below HB.out).below hb2;have d3':=H2.c3;have HQ:=Hi hq;have HB2:=Hi hb2;have HD2:=Hi (Qa9 (some ⟨b',o',none⟩) _ c2 cg ([d]) _ D.natAbs g w2 H2.den (HUG.out.below hb2) hg0 (by omega));clear hq hr hb2 H2;go_wp2_with fail;refine HD2.out.mono ?_;rintro e w3 ⟨⟨as1,cs,rs,at',ct,rt,rfl,hs,ht⟩,hb3⟩;have H3:=((H.out.below HB.out).below HB2.out).below hb3;have f1:=H3.sb.free 1;have f3:=H3.sb.free 3;have f1':=H3.c1;have f3':=H3.c3;have HS:=Hi hs;have HB3:=Hi hb3;have HH3:=Hi H3;clear hs ht hb3 H3;go_wp2;go_ret;have ho:Only b w3 ((w3.setCell ⟨b,1,none⟩ (.slice aq rq.length cq)).setCell ⟨b,3,none⟩ (.slice as1 rs.length cs)):=((Only.refl b w3).setCell _ _).setCell _ _;have hdv2:g ∣ D.natAbs:=by rw[<-HGE.out];exact Nat.gcd_dvd_right _ _
    obtain⟨e1,e2⟩:=Qd9 (P:=P) hD HGE.out;refine RatOk.of (Only.of_below (HB.out.trans ((HB2.out.mono HB.out.size).trans (HB3.out.mono (Nat.le_trans HB.out.size HB2.out.size))))) ⟨rfl,ho,aq,cq,rq,as1,cs,rs,?_,?_,?_⟩
    ·
     have:=(HH3.out.sb.set 1 (.slice aq rq.length cq)).set 3 (.slice as1 rs.length cs);have en:decide ((((mkRat P D.natAbs).den:Nat):Int)<0)=decide (D<0):=by
      apply decide_eq_decide.2;omega
     rw[e1,Qd8 P g hg0 hdv1,en]
     simpa using this
    · rw[e1,Qd7 P g hg0 hdv1]
      exact(HQ.out.below HB3.out).only ho HH3.out.sb (Qan _ _ _ _ _ _ _ _)
    · rw[e2,Int.natAbs_natCast]
      exact HS.out.only ho HH3.out.sb (Qan _ _ _ _ _ _ _ _)
 ·
  have hq3:((l2.length:Int) == 1)=false:=by rw[beq_eq_false_iff_ne];omega
  have H:=Hi h;have HG:=Hi (Qgj a1 (a2) c1 c2 l1 (l2) P.natAbs D.natAbs w.drew h.num.drew h.den.drew (by omega) (by omega));have hlt:=h.sb.lt;clear h hD0;go_enter Tryz.func72,Tryz.ntmps72;go_wp2;go_region_held3 (fun w'=>w'.cell? ⟨b,1,none⟩=some (.slice a1 l1.length c1)/\w'.cell? ⟨b,3,none⟩=some (.slice (a2) (l2.length) c2)) ((simp [*]))
   (first
     |(go_at_call 111;refine HG.out.mono ?_;rintro e w1 ⟨⟨ag,cg,rg,rfl,hug⟩,hb1⟩;have d1:=ce hb1 hlt k1;have d3:=ce hb1 hlt k3;have HU:=Hi hug;have HB:=Hi ((Below.refl w.heap.size w).drew.trans hb1);clear hug hb1))
  clear k0 k1 k2 k3 HG hq3;obtain⟨g,hg⟩:=nm (Nat.gcd P.natAbs D.natAbs);have hug:=HU.out;rw[hg] at hug;have HUG:=Hi hug;have HGE:=Hi hg;have hg0:0<g:=by rw[<-hg];exact Nat.gcd_pos_of_pos_right _ (by omega)
  have H1:=H.out.below HB.out;have hgl:rg.length<=(l2).length:=hug.len_mono H.out.den (by rw[<-hg];exact Nat.le_of_dvd (by omega) (Nat.gcd_dvd_right _ _));clear HU;by_cases hg1:g=1
  ·
   subst hg1;have hrg:rg= [1]:=Qd6 hug.num;subst hrg;obtain⟨bg,og,rfl,hbg,hcg⟩:=hug.row.cell 0 (by simp);have hcg:w1.cell? ⟨bg,og,none⟩=some (.int .u32 1):=by simpa using hcg
   clear hug hg H1;go_wp2;go_ret;obtain⟨e1,e2⟩:=Qjz (P:=P) hD HGE.out;refine RatOk.of (Only.of_below HB.out) ⟨rfl,Only.refl _ _,a1,c1,l1,a2,c2,l2,?_⟩;rw[e1,e2];exact H.out.below HB.out
  ·
   have hdv1:g ∣ P.natAbs:=by rw[<-hg];exact Nat.gcd_dvd_left _ _
   have HD1:=Hi (Qa9 a1 ag c1 cg l1 rg P.natAbs g w1 H1.num hug hg0 (by omega));rcases Qj0 hug.num hg1 with hq5|⟨dd,rfl,hd1⟩
   ·
    clear hug hg H1;go_wp2_with fail;refine HD1.out.mono ?_;rintro e w2 ⟨⟨aq,cq,rq,ar,cr,rr,rfl,hq,hr⟩,hb2⟩;have H2:=(H.out.below HB.out).below hb2;have d3':=H2.c3;have HQ:=Hi hq;have HB2:=Hi hb2;have HD2:=Hi (Qa9 (a2) _ c2 cg (l2) _ D.natAbs g w2 H2.den (HUG.out.below hb2) hg0 (by omega));clear hq hr hb2 H2;go_wp2_with fail;refine HD2.out.mono ?_;rintro e w3 ⟨⟨as1,cs,rs,at',ct,rt,rfl,hs,ht⟩,hb3⟩;have H3:=((H.out.below HB.out).below HB2.out).below hb3;have f1:=H3.sb.free 1;have f3:=H3.sb.free 3;have f1':=H3.c1;have f3':=H3.c3;have HS:=Hi hs;have HB3:=Hi hb3;have HH3:=Hi H3;clear hs ht hb3 H3;go_wp2;go_ret;have ho:Only b w3 ((w3.setCell ⟨b,1,none⟩ (.slice aq rq.length cq)).setCell ⟨b,3,none⟩ (.slice as1 rs.length cs)):=((Only.refl b w3).setCell _ _).setCell _ _;have hdv2:g ∣ D.natAbs:=by rw[<-HGE.out];exact Nat.gcd_dvd_right _ _
    obtain⟨e1,e2⟩:=Qd9 (P:=P) hD HGE.out;refine RatOk.of (Only.of_below (HB.out.trans ((HB2.out.mono HB.out.size).trans (HB3.out.mono (Nat.le_trans HB.out.size HB2.out.size))))) ⟨rfl,ho,aq,cq,rq,as1,cs,rs,?_,?_,?_⟩
    ·
     have:=(HH3.out.sb.set 1 (.slice aq rq.length cq)).set 3 (.slice as1 rs.length cs);have en:decide ((((mkRat P D.natAbs).den:Nat):Int)<0)=decide (D<0):=by
      apply decide_eq_decide.2;omega
     rw[e1,Qd8 P g hg0 hdv1,en]
     simpa using this
    · rw[e1,Qd7 P g hg0 hdv1]
      exact(HQ.out.below HB3.out).only ho HH3.out.sb (Qan _ _ _ _ _ _ _ _)
    · rw[e2,Int.natAbs_natCast]
      exact HS.out.only ho HH3.out.sb (Qan _ _ _ _ _ _ _ _)
   ·
    obtain⟨bg,og,rfl,hbg,hcg⟩:=hug.row.cell 0 (by simp);have hcg:w1.cell? ⟨bg,og,none⟩=some (.int .u32 (dd:Int)):=by simpa using hcg
    have hq6:((dd:Int) == 1)=false:=by rw[beq_eq_false_iff_ne];omega
    clear hug hg H1;go_wp2_with fail;refine HD1.out.mono ?_;rintro e w2 ⟨⟨aq,cq,rq,ar,cr,rr,rfl,hq,hr⟩,hb2⟩;have H2:=(H.out.below HB.out).below hb2;have d3':=H2.c3;have HQ:=Hi hq;have HB2:=Hi hb2;have HD2:=Hi (Qa9 (a2) _ c2 cg (l2) _ D.natAbs g w2 H2.den (HUG.out.below hb2) hg0 (by omega));clear hq hr hb2 H2;go_wp2_with fail;refine HD2.out.mono ?_;rintro e w3 ⟨⟨as1,cs,rs,at',ct,rt,rfl,hs,ht⟩,hb3⟩;have H3:=((H.out.below HB.out).below HB2.out).below hb3;have f1:=H3.sb.free 1;have f3:=H3.sb.free 3;have f1':=H3.c1;have f3':=H3.c3;have HS:=Hi hs;have HB3:=Hi hb3;have HH3:=Hi H3;clear hs ht hb3 H3;go_wp2;go_ret;have ho:Only b w3 ((w3.setCell ⟨b,1,none⟩ (.slice aq rq.length cq)).setCell ⟨b,3,none⟩ (.slice as1 rs.length cs)):=((Only.refl b w3).setCell _ _).setCell _ _;have hdv2:g ∣ D.natAbs:=by rw[<-HGE.out];exact Nat.gcd_dvd_right _ _
    obtain⟨e1,e2⟩:=Qd9 (P:=P) hD HGE.out;refine RatOk.of (Only.of_below (HB.out.trans ((HB2.out.mono HB.out.size).trans (HB3.out.mono (Nat.le_trans HB.out.size HB2.out.size))))) ⟨rfl,ho,aq,cq,rq,as1,cs,rs,?_,?_,?_⟩
    ·
     have:=(HH3.out.sb.set 1 (.slice aq rq.length cq)).set 3 (.slice as1 rs.length cs);have en:decide ((((mkRat P D.natAbs).den:Nat):Int)<0)=decide (D<0):=by
      apply decide_eq_decide.2;omega
     rw[e1,Qd8 P g hg0 hdv1,en]
     simpa using this
    · rw[e1,Qd7 P g hg0 hdv1]
      exact(HQ.out.below HB3.out).only ho HH3.out.sb (Qan _ _ _ _ _ _ _ _)
    · rw[e2,Int.natAbs_natCast]
      exact HS.out.only ho HH3.out.sb (Qan _ _ _ _ _ _ _ _)
end Go.Proofs.YtfpcipgoedifaaaGreatDoor
