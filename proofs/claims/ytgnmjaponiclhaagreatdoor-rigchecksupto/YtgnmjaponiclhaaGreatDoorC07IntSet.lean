import Derived.Test.YtgnmjaponiclhaaGreatDoorC06IntGive
import Derived.Deep.RegionHeld3
namespace Go.Proofs.YtgnmjaponiclhaaGreatDoor
open Go.RowKit
set_option linter.unusedVariables false
theorem U32.drew{w:World}{a:Option Addr}{cap:Nat}{l:List Nat}{n:Nat}(h:U32 w a cap l n):U32 w.drew a cap l n:=h.below (Below.refl _ _).drew
theorem Ql0(X:Int):X=if decide (X<0)=true then -(X.natAbs:Int) else (X.natAbs:Int):=by
 by_cases h:X<0
 · simp[h];omega
 · simp[h];omega
set_option maxHeartbeats 1000000 in
theorem Qgt(bz oz:Nat)(t:TypeId)(C:Array Value)(bx ox:Nat)(X:Int)(a:Option Addr)(cap:Nat)(l:List Nat)(w:World)(hs:SB w bz t C)(hn:NoInt C)(ho:oz+1<C.size)(hx:IntAt w bx ox X a cap l)(hne:bx≠bz):
 Calls Tryz.prog 160 #[.pointer (some ⟨bz,oz,none⟩),.pointer (some ⟨bx,ox,none⟩)] w (LaidOk w bz oz t C X):=by
 have k0:=hx.neg
 have k1:=hx.abs
 have hlt:=hx.lt
 have HS:=Hi hs
 have HN:=Hi hn
 have HX:=Hi hx.num
 clear hs hn hx
 go_enter Tryz.func160,Tryz.ntmps160
 go_wp2
 go_region_held3 (fun w'=>w'.cell? ⟨bx,ox,none⟩=some (.bool (decide (X<0)))∧w'.cell? ⟨bx,ox+1,none⟩=some (.slice a l.length cap)) ((simp [*]))
  (first
    |(go_at_call 226;refine(Qd0 a cap l X.natAbs _ ?_).mono ?_;exact HX.out.drew;rintro e w1 ⟨⟨a1,cap1,rfl,hu1⟩,hb1⟩;have c0:=(hb1.cell (p:=⟨bx,ox,none⟩) hlt).trans k0;have c1:=(hb1.cell (p:=⟨bx,ox+1,none⟩) hlt).trans k1;have HU1:=Hi hu1;have HB1:=Hi ((Below.refl w.heap.size w).drew.trans hb1);clear hu1 hb1)
    |(go_at_call 174;refine(Qcb bz oz t C _ a1 cap1 l X.natAbs X _ ?_ HN.out ho HU1.out ?_).mono ?_;exact HS.out.below HB1.out HS.out.lt;exact Ql0 X;rintro e w2 ⟨rfl,hl⟩;have d0:=(World.cell?_of_block (a:=⟨bx,ox,none⟩) (hl.only.block bx (Nat.lt_of_lt_of_le hlt HB1.out.size) hne)).trans c0;have d1:=(World.cell?_of_block (a:=⟨bx,ox+1,none⟩) (hl.only.block bx (Nat.lt_of_lt_of_le hlt HB1.out.size) hne)).trans c1;have HL:=Hi hl;clear hl))
 go_wp2
 go_ret
 exact LaidOk.of (Only.of_below HB1.out) ⟨rfl,_,_,_,HL.out⟩
def sgn(neg:Bool)(n:Nat):Int:=if neg then -(n:Int) else (n:Int)
theorem Qc7(neg:Bool)(n:Nat):(sgn neg n).natAbs=n:=by unfold sgn;split<;>omega
theorem Ql1(X Y:Int):X*Y=if (decide (X<0) != decide (Y<0))=true then -((X.natAbs*Y.natAbs:Nat):Int) else ((X.natAbs*Y.natAbs:Nat):Int):=by
 rw[Int.natCast_mul]
 by_cases h:X<0
 ·
  by_cases k:Y<0
  · rw[if_neg (by simp[h,k]),show ((X.natAbs:Nat):Int)= -X from by omega,show ((Y.natAbs:Nat):Int)= -Y from by omega,Int.neg_mul_neg]
  · rw[if_pos (by simp[h,k]),show ((X.natAbs:Nat):Int)= -X from by omega,show ((Y.natAbs:Nat):Int)=Y from by omega,Int.neg_mul,Int.neg_neg]
 ·
  by_cases k:Y<0
  · rw[if_pos (by simp[h,k]),show ((X.natAbs:Nat):Int)=X from by omega,show ((Y.natAbs:Nat):Int)= -Y from by omega,Int.mul_neg,Int.neg_neg]
  · rw[if_neg (by simp[h,k]),show ((X.natAbs:Nat):Int)=X from by omega,show ((Y.natAbs:Nat):Int)=Y from by omega]
set_option maxHeartbeats 2000000 in
theorem Ql2(bz oz:Nat)(t:TypeId)(C:Array Value)(bx ox:Nat)(X:Int)(a:Option Addr)(cap:Nat)(l:List Nat)(bv ov:Nat)(Y:Int)(b:Option Addr)(cap':Nat)(m:List Nat)(w:World)(hs:SB w bz t C)(hn:NoInt C)(ho:oz+1<C.size)(hx:IntAt w bx ox X a cap l)(hy:IntAt w bv ov Y b cap' m)(hne:bx≠bz)(hne':bv≠bz)(hlm:l.length+m.length<1099511627770):
 Calls Tryz.prog 136 #[.pointer (some ⟨bz,oz,none⟩),.pointer (some ⟨bx,ox,none⟩),.pointer (some ⟨bv,ov,none⟩)] w (LaidOk w bz oz t C (X*Y)):=by
 have k0:=hx.neg
 have k1:=hx.abs
 have j0:=hy.neg
 have j1:=hy.abs
 have hlt:=hx.lt
 have hlt':=hy.lt
 have HS:=Hi hs
 have HN:=Hi hn
 have HX:=Hi hx.num
 have HY:=Hi hy.num
 clear hs hn hx hy
 go_enter Tryz.func136,Tryz.ntmps136
 go_wp2
 go_region_held3 (fun w'=>w'.cell? ⟨bx,ox,none⟩=some (.bool (decide (X<0)))∧w'.cell? ⟨bx,ox+1,none⟩=some (.slice a l.length cap)∧w'.cell? ⟨bv,ov,none⟩=some (.bool (decide (Y<0)))∧w'.cell? ⟨bv,ov+1,none⟩=some (.slice b m.length cap')) ((simp [*]))
  (first
    |(go_at_call 172;refine(Qf1 a b cap cap' l m X.natAbs Y.natAbs _ ?_ ?_ ?_).mono ?_;exact HX.out.drew;exact HY.out.drew;omega;rintro e w1 ⟨⟨a1,cap1,r1,rfl,hu1⟩,hb1⟩;obtain⟨n1,hn1⟩:∃n1,X.natAbs*Y.natAbs=n1:=⟨_,rfl⟩;rw[hn1] at hu1;have HZ1:=Hi hn1;clear hn1;have c0:=(hb1.cell (p:=⟨bx,ox,none⟩) hlt).trans k0;have c1:=(hb1.cell (p:=⟨bx,ox+1,none⟩) hlt).trans k1;have c2:=(hb1.cell (p:=⟨bv,ov,none⟩) hlt').trans j0;have c3:=(hb1.cell (p:=⟨bv,ov+1,none⟩) hlt').trans j1;have HU1:=Hi hu1;have HB1:=Hi ((Below.refl w.heap.size w).drew.trans hb1);clear hu1 hb1)
    |(go_at_call 174;refine(Qcb bz oz t C _ a1 cap1 r1 n1 (X*Y) _ ?_ HN.out ho HU1.out ?_).mono ?_;exact HS.out.below HB1.out HS.out.lt;exact(by rw[←HZ1.out];exact Ql1 X Y);rintro e w2 ⟨rfl,hl⟩;have d0:=(World.cell?_of_block (a:=⟨bx,ox,none⟩) (hl.only.block bx (Nat.lt_of_lt_of_le hlt HB1.out.size) hne)).trans c0;have d1:=(World.cell?_of_block (a:=⟨bx,ox+1,none⟩) (hl.only.block bx (Nat.lt_of_lt_of_le hlt HB1.out.size) hne)).trans c1;have d2:=(World.cell?_of_block (a:=⟨bv,ov,none⟩) (hl.only.block bv (Nat.lt_of_lt_of_le hlt' HB1.out.size) hne')).trans c2;have d3:=(World.cell?_of_block (a:=⟨bv,ov+1,none⟩) (hl.only.block bv (Nat.lt_of_lt_of_le hlt' HB1.out.size) hne')).trans c3;have HL:=Hi hl;clear hl))
 go_wp2
 go_ret
 exact LaidOk.of (Only.of_below HB1.out) ⟨rfl,_,_,_,HL.out⟩
end Go.Proofs.YtgnmjaponiclhaaGreatDoor
