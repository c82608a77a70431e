/- rafterbig's Rat: norm, where what is below the bar is above 0. -/
import Derived.Test.YtbbkamnfjejceaaGreatDoorR05BigCommon
import Derived.Deep.RegionHeld3
namespace Go.Proofs.YtbbkamnfjejceaaGreatDoor
open Go.RowKit
set_option linter.unusedVariables false
def SB(w:World)(b:Nat)(t:TypeId)(C:Array Value):Prop:=w.heap[b]?=some (.cells C t (0,0))
def NoInt(C:Array Value):Prop:=∀(i:Nat) (k:IntKind) (n:Int),C[i]?≠some (Value.int k n)
theorem SB.lt{w:World}{b:Nat}{t:TypeId}{C:Array Value}(h:SB w b t C):b<w.heap.size:=by
 apply Classical.byContradiction;intro hc;unfold SB at h;rw[Array.getElem?_eq_none (by omega)] at h;cases h
theorem SB.cell{w:World}{b:Nat}{t:TypeId}{C:Array Value}(h:SB w b t C)(i:Nat):w.cell? ⟨b,i,none⟩=C[i]?:=by
 unfold SB at h;simp[World.cell?,h]
theorem SB.free{w:World}{b:Nat}{t:TypeId}{C:Array Value}(h:SB w b t C)(i:Nat):w.frozen? ⟨b,i,none⟩=false:=by
 unfold SB at h;simp[World.frozen?,h]
theorem SB.set{w:World}{b:Nat}{t:TypeId}{C:Array Value}(h:SB w b t C)(i:Nat)(v:Value):SB (w.setCell ⟨b,i,none⟩ v) b t (C.setIfInBounds i v):=by
 unfold SB at h ⊢;simp[World.setCell,Array.getElem?_modify,h]
theorem SB.alloc{w:World}{b:Nat}{t:TypeId}{C:Array Value}(h:SB w b t C)(o:Obj):SB (w.alloc o) b t C:=by
 have:=h.lt;unfold SB at h ⊢;rw[Below.heap_alloc _ _ _ this];exact h
theorem SB.new(w:World)(t:TypeId)(C:Array Value):SB (w.alloc (.cells C t)) w.heap.size t C:=by
 show (w.heap.push _)[w.heap.size]?=_
 simp
theorem SB.below{w w':World}{b B:Nat}{t:TypeId}{C:Array Value}(h:SB w b t C)(hb:Below B w w')(hB:b<B):SB w' b t C:=by
 unfold SB at h ⊢;rw[hb.block b hB];exact h
structure Only (b:Nat) (w w':World):Prop where
 os:w'.os=w.os
 tape:w'.tape=w.tape
 output:w'.output=w.output
 size:w.heap.size≤w'.heap.size
 block:∀k,k<w.heap.size→k≠b→w'.heap[k]?=w.heap[k]?
theorem Only.refl(b:Nat)(w:World):Only b w w:=⟨rfl,rfl,rfl,Nat.le_refl _,fun _ _ _=>rfl⟩
theorem Only.trans{b:Nat}{u v w:World}(h:Only b u v)(k:Only b v w):Only b u w:=
 ⟨k.os.trans h.os,k.tape.trans h.tape,k.output.trans h.output,Nat.le_trans h.size k.size,fun i hi hne=>(k.block i (by have:=h.size;omega) hne).trans (h.block i hi hne)⟩
theorem Only.of_below{b:Nat}{w w':World}(h:Below w.heap.size w w'):Only b w w':=⟨h.os,h.tape,h.output,h.size,fun k hk _=>h.block k hk⟩
theorem Only.setCell{b:Nat}{u w:World}(h:Only b u w)(i:Nat)(v:Value):Only b u (w.setCell ⟨b,i,none⟩ v):=
 ⟨h.os,h.tape,h.output,by have:=h.size;simpa [World.setCell] using this,fun k hk hne=>(Below.heap_setCell _ _ _ _ hne).trans (h.block k hk hne)⟩
theorem Only.drew{b:Nat}{u w:World}(h:Only b u w):Only b u w.drew:=⟨h.os,h.tape,h.output,h.size,h.block⟩
theorem Only.drewN{b:Nat}{u w:World}(h:Only b u w)(n:Nat):Only b u (w.drewN n):=⟨h.os,h.tape,h.output,h.size,h.block⟩
theorem Only.below{b B:Nat}{w w':World}(h:Only b w w')(hB:B≤b)(hw:B≤w.heap.size):Below B w w':=⟨h.os,h.tape,h.output,h.size,fun k hk=>h.block k (by omega) (by omega)⟩
theorem Only.fresh{b:Nat}{u w w':World}(h:Below u.heap.size u w)(k:Only b w w')(hb:u.heap.size≤b):Below u.heap.size u w':=
 h.trans (k.below hb h.size)
theorem SB.only{w w':World}{b c:Nat}{t:TypeId}{C:Array Value}(h:SB w b t C)(k:Only c w w')(hne:b≠c):SB w' b t C:=by
 have:=h.lt;unfold SB at h ⊢;rw[k.block b this hne];exact h
theorem Row.only{k:IntKind}{w w':World}{a:Option Addr}{cap:Nat}{l:List Nat}{b:Nat}{t:TypeId}{C:Array Value}(h:Row k w a cap l)(ho:Only b w w')(hs:SB w b t C)(hn:NoInt C):Row k w' a cap l:=by
 refine⟨h.fit,?_,fun i hi=>?_⟩
 ·
  rcases h.shape with h1|⟨b',off,rfl,h2⟩
  · exact .inl h1
  · exact .inr ⟨b',off,rfl,by have:=ho.size;omega⟩
 ·
  obtain⟨b',off,h1,h2,h3⟩:=h.cell i hi;have hne:b'≠b:=by
   rintro rfl;rw[hs.cell] at h3;exact hn _ _ _ h3
  exact⟨b',off,h1,by have:=ho.size;omega,(World.cell?_of_block (w:=w) (ho.block b' h2 hne)).trans h3⟩
theorem U32.only{w w':World}{a:Option Addr}{cap:Nat}{l:List Nat}{n b:Nat}{t:TypeId}{C:Array Value}(h:U32 w a cap l n)(ho:Only b w w')(hs:SB w b t C)(hn:NoInt C):U32 w' a cap l n:=
 ⟨h.row.only ho hs hn,h.num,h.short⟩
structure IntAt (w:World) (b o:Nat) (z:Int) (a:Option Addr) (cap:Nat) (l:List Nat):Prop where
 neg:w.cell? ⟨b,o,none⟩=some (.bool (decide (z<0)))
 abs:w.cell? ⟨b,o+1,none⟩=some (.slice a l.length cap)
 num:U32 w a cap l z.natAbs
 lt:b<w.heap.size
theorem IntAt.below{w w':World}{b o:Nat}{z:Int}{a:Option Addr}{cap:Nat}{l:List Nat}(h:IntAt w b o z a cap l)(hb:Below w.heap.size w w'):IntAt w' b o z a cap l:=
 ⟨(hb.cell (p:=⟨b,o,none⟩) h.lt).trans h.neg,(hb.cell (p:=⟨b,o+1,none⟩) h.lt).trans h.abs,h.num.below hb,by have:=h.lt;have:=hb.size;omega⟩
def putInt(C:Array Value)(o:Nat)(neg:Bool)(v:Value):Array Value:=(C.setIfInBounds (o+1) v).setIfInBounds o (.bool neg)
structure Laid (w w':World) (b o:Nat) (t:TypeId) (C:Array Value) (z:Int) (a:Option Addr) (cap:Nat) (l:List Nat):Prop where
 sb:SB w' b t (putInt C o (decide (z<0)) (.slice a l.length cap))
 num:U32 w' a cap l z.natAbs
 only:Only b w w'
theorem Laid.at{w w':World}{b o:Nat}{t:TypeId}{C:Array Value}{z:Int}{a:Option Addr}{cap:Nat}{l:List Nat}(h:Laid w w' b o t C z a cap l)(ho:o+1<C.size):IntAt w' b o z a cap l:=by
 refine⟨?_,?_,h.num,h.sb.lt⟩
 · have h2:o<C.size:=by omega
   rw[h.sb.cell];simp[putInt,h2]
 · rw[h.sb.cell];simp[putInt,ho]
theorem Qgy{C:Array Value}{i:Nat}(h:i<C.size):∃v,C[i]?=some v:=⟨C[i],by simp[h]⟩
theorem Ql7(z:Int)(neg:Bool)(n:Nat)(hz:z=if neg then -(n:Int) else (n:Int)):decide (z<0)=(neg && decide (0<n)):=by
 subst hz;cases neg
 · simp
 ·
  by_cases h:0<n
  · simp[h]
  ·
   have:n=0:=by omega
   subst this;simp
set_option maxHeartbeats 400000 in
theorem Qcf(b o:Nat)(t:TypeId)(C:Array Value)(neg:Bool)(a:Option Addr)(cap:Nat)(l:List Nat)(n:Nat)(z:Int)(w:World)(hs:SB w b t C)(hn:NoInt C)(ho:o+1<C.size)(hu:U32 w a cap l n)(hz:z=if neg then -(n:Int) else (n:Int)):
 Calls Tryz.prog 115 #[.pointer (some ⟨b,o,none⟩),.bool neg,.slice a l.length cap] w fun e w'=>e=.returned (.pointer (some ⟨b,o,none⟩))∧Laid w w' b o t C z a cap l:=by
 obtain⟨v0,hv0⟩:=Qgy (C:=C) (i:=o) (by omega);obtain⟨v1,hv1⟩:=Qgy (C:=C) (i:=o+1) ho;have k0:=hs.cell o;have k1:=hs.cell (o+1);rw[hv0] at k0;rw[hv1] at k1;have f0:=hs.free o;have f1:=hs.free (o+1);have hzn:z.natAbs=n:=by rw[hz];split<;>omega
 have hsg:=Ql7 z neg n hz;have hlen:decide (0<n)=decide (0<l.length):=by
  have:=hu.num.len_zero (by decide);apply decide_eq_decide.2;omega
 have HS:=Hi hs;have HZN:=Hi hzn;have HSG:=Hi (hsg.trans (by rw[hlen]));clear hs hzn hsg hlen hz hv0 hv1;cases neg
 ·
  go_enter Tryz.func115,Tryz.ntmps115;go_wp2;go_ret;have ho':Only b w ((w.setCell ⟨b,o+1,none⟩ (.slice a l.length cap)).setCell ⟨b,o,none⟩ (.bool false)):=((Only.refl b w).setCell _ _).setCell _ _;refine⟨rfl,⟨?_,?_,ho'⟩⟩
  · rw[HSG.out];exact(HS.out.set (o+1) _).set o _
  · rw[HZN.out];exact hu.only ho' HS.out hn
 ·
  go_enter Tryz.func115,Tryz.ntmps115;go_wp2;go_ret;have ho':Only b w ((w.setCell ⟨b,o+1,none⟩ (.slice a l.length cap)).setCell ⟨b,o,none⟩ (.bool (decide (0<l.length)))):=((Only.refl b w).setCell _ _).setCell _ _;refine⟨rfl,⟨?_,?_,ho'⟩⟩
  · rw[HSG.out];exact(HS.out.set (o+1) _).set o _
  · rw[HZN.out];exact hu.only ho' HS.out hn
def LaidOk(w:World)(b o:Nat)(t:TypeId)(C:Array Value)(z:Int)(e:Ending)(w':World):Prop:=
 e=.returned (.pointer (some ⟨b,o,none⟩))∧∃a cap l,Laid w w' b o t C z a cap l
theorem LaidOk.of{w w1 w':World}{b o:Nat}{t:TypeId}{C:Array Value}{z:Int}{e:Ending}(h:Only b w w1)(k:LaidOk w1 b o t C z e w'):LaidOk w b o t C z e w':=by
 obtain⟨h1,a,cap,l,h2⟩:=k;exact⟨h1,a,cap,l,⟨h2.sb,h2.num,h.trans h2.only⟩⟩
set_option maxHeartbeats 400000 in
theorem Qgz(b o:Nat)(t:TypeId)(C:Array Value)(z:Int)(w:World)(hs:SB w b t C)(hn:NoInt C)(ho:o+1<C.size)(h0:0≤z)(h1:z<1000000):
 Calls Tryz.prog 116 #[.pointer (some ⟨b,o,none⟩),.int .i64 z] w (LaidOk w b o t C z):=by
 obtain⟨n,rfl⟩:=Int.eq_ofNat_of_zero_le h0;have HS:=Hi hs;have HN:=Hi hn;have hneg:¬((n:Int)<0):=by omega
 clear hs hn h0;go_enter Tryz.func116,Tryz.ntmps116;go_wp2_with fail;refine(Qbg (n:Int) _ (by omega) (by omega)).mono ?_;rintro e w1 ⟨⟨a,cap,l,rfl,hu,_⟩,hb⟩;rw[Int.toNat_natCast] at hu;go_wp2_with fail;refine(Qcf b o t C false a cap l n n w1 (HS.out.below hb HS.out.lt) HN.out ho hu (by simp)).mono ?_;rintro e w2 ⟨rfl,hl⟩;go_wp2;go_ret;exact LaidOk.of (Only.of_below hb) ⟨rfl,_,_,_,hl⟩
theorem Tryz.int_zero:NoInt #[Value.bool false,Value.slice none 0 0]:=by
 intro i k n
 match i with
 |0=>simp
 |1=>simp
 |i+2=>simp
def IntNew(w:World)(z:Int)(e:Ending)(w':World):Prop:=
 (∃b a cap l,e=.returned (.pointer (some ⟨b,0,none⟩))∧w.heap.size≤b∧SB w' b 96 #[.bool (decide (z<0)),.slice a l.length cap]∧U32 w' a cap l z.natAbs)∧Below w.heap.size w w'
set_option maxHeartbeats 400000 in
theorem Qcg(z:Int)(w:World)(h0:0≤z)(h1:z<1000000):
 Calls Tryz.prog 55 #[.int .i64 z] w (IntNew w z):=by
 go_enter Tryz.func55,Tryz.ntmps55;go_wp2_with fail;refine(Qgz w.heap.size 0 96 _ z _ (SB.new w 96 _) Tryz.int_zero (by simp) h0 h1).mono ?_;rintro e w2 ⟨rfl,a,cap,l,hl⟩;go_wp2;go_ret;exact⟨⟨w.heap.size,a,cap,l,rfl,Nat.le_refl _,hl.sb,hl.num⟩,Only.fresh ((Below.refl _ w).alloc (Nat.le_refl _) _) hl.only (Nat.le_refl _)⟩
theorem U32.drew{w:World}{a:Option Addr}{cap:Nat}{l:List Nat}{n:Nat}(h:U32 w a cap l n):U32 w.drew a cap l n:=h.below (Below.refl _ _).drew
theorem Ql8(X:Int):X=if decide (X<0)=true then -(X.natAbs:Int) else (X.natAbs:Int):=by
 by_cases h:X<0
 · simp[h];omega
 · simp[h];omega
set_option maxHeartbeats 1000000 in
theorem Qg1(bz oz:Nat)(t:TypeId)(C:Array Value)(bx ox:Nat)(X:Int)(a:Option Addr)(cap:Nat)(l:List Nat)(w:World)(hs:SB w bz t C)(hn:NoInt C)(ho:oz+1<C.size)(hx:IntAt w bx ox X a cap l)(hne:bx≠bz):
 Calls Tryz.prog 99 #[.pointer (some ⟨bz,oz,none⟩),.pointer (some ⟨bx,ox,none⟩)] w (LaidOk w bz oz t C X):=by
 have k0:=hx.neg;have k1:=hx.abs;have hlt:=hx.lt;have HS:=Hi hs;have HN:=Hi hn;have HX:=Hi hx.num;clear hs hn hx;go_enter Tryz.func99,Tryz.ntmps99;go_wp2;go_region_held3 (fun w'=>w'.cell? ⟨bx,ox,none⟩=some (.bool (decide (X<0)))∧w'.cell? ⟨bx,ox+1,none⟩=some (.slice a l.length cap)) ((simp [*]))
  (first
    |(go_at_call 160;refine(Qea a cap l X.natAbs _ ?_).mono ?_;exact HX.out.drew;rintro e w1 ⟨⟨a1,cap1,rfl,hu1⟩,hb1⟩;have c0:=(hb1.cell (p:=⟨bx,ox,none⟩) hlt).trans k0;have c1:=(hb1.cell (p:=⟨bx,ox+1,none⟩) hlt).trans k1;have HU1:=Hi hu1;have HB1:=Hi ((Below.refl w.heap.size w).drew.trans hb1);clear hu1 hb1)
    |(go_at_call 115;refine(Qcf bz oz t C _ a1 cap1 l X.natAbs X _ ?_ HN.out ho HU1.out ?_).mono ?_;exact HS.out.below HB1.out HS.out.lt;exact Ql8 X;rintro e w2 ⟨rfl,hl⟩;have d0:=(World.cell?_of_block (a:=⟨bx,ox,none⟩) (hl.only.block bx (Nat.lt_of_lt_of_le hlt HB1.out.size) hne)).trans c0;have d1:=(World.cell?_of_block (a:=⟨bx,ox+1,none⟩) (hl.only.block bx (Nat.lt_of_lt_of_le hlt HB1.out.size) hne)).trans c1;have HL:=Hi hl;clear hl))
 go_wp2;go_ret;exact LaidOk.of (Only.of_below HB1.out) ⟨rfl,_,_,_,HL.out⟩
def sgn(neg:Bool)(n:Nat):Int:=if neg then -(n:Int) else (n:Int)
theorem Qdb(neg:Bool)(n:Nat):(sgn neg n).natAbs=n:=by unfold sgn;split<;>omega
theorem Ql9(X Y:Int):X*Y=if (decide (X<0) != decide (Y<0))=true then -((X.natAbs*Y.natAbs:Nat):Int) else ((X.natAbs*Y.natAbs:Nat):Int):=by
 rw[Int.natCast_mul];by_cases h:X<0
 ·
  by_cases k:Y<0
  · rw[if_neg (by simp[h,k]),show ((X.natAbs:Nat):Int)= -X from by omega,show ((Y.natAbs:Nat):Int)= -Y from by omega,Int.neg_mul_neg]
  · rw[if_pos (by simp[h,k]),show ((X.natAbs:Nat):Int)= -X from by omega,show ((Y.natAbs:Nat):Int)=Y from by omega,Int.neg_mul,Int.neg_neg]
 ·
  by_cases k:Y<0
  · rw[if_pos (by simp[h,k]),show ((X.natAbs:Nat):Int)=X from by omega,show ((Y.natAbs:Nat):Int)= -Y from by omega,Int.mul_neg,Int.neg_neg]
  · rw[if_neg (by simp[h,k]),show ((X.natAbs:Nat):Int)=X from by omega,show ((Y.natAbs:Nat):Int)=Y from by omega]
set_option maxHeartbeats 2000000 in
theorem Qma(bz oz:Nat)(t:TypeId)(C:Array Value)(bx ox:Nat)(X:Int)(a:Option Addr)(cap:Nat)(l:List Nat)(bv ov:Nat)(Y:Int)(b:Option Addr)(cap':Nat)(m:List Nat)(w:World)(hs:SB w bz t C)(hn:NoInt C)(ho:oz+1<C.size)(hx:IntAt w bx ox X a cap l)(hy:IntAt w bv ov Y b cap' m)(hne:bx≠bz)(hne':bv≠bz)(hlm:l.length+m.length<1099511627770):
 Calls Tryz.prog 102 #[.pointer (some ⟨bz,oz,none⟩),.pointer (some ⟨bx,ox,none⟩),.pointer (some ⟨bv,ov,none⟩)] w (LaidOk w bz oz t C (X*Y)):=by
 have k0:=hx.neg;have k1:=hx.abs;have j0:=hy.neg;have j1:=hy.abs;have hlt:=hx.lt;have hlt':=hy.lt;have HS:=Hi hs;have HN:=Hi hn;have HX:=Hi hx.num;have HY:=Hi hy.num;clear hs hn hx hy;go_enter Tryz.func102,Tryz.ntmps102;go_wp2;go_region_held3 (fun w'=>w'.cell? ⟨bx,ox,none⟩=some (.bool (decide (X<0)))∧w'.cell? ⟨bx,ox+1,none⟩=some (.slice a l.length cap)∧w'.cell? ⟨bv,ov,none⟩=some (.bool (decide (Y<0)))∧w'.cell? ⟨bv,ov+1,none⟩=some (.slice b m.length cap')) ((simp [*]))
  (first
    |(go_at_call 113;refine(Qf8 a b cap cap' l m X.natAbs Y.natAbs _ ?_ ?_ ?_).mono ?_;exact HX.out.drew;exact HY.out.drew;omega;rintro e w1 ⟨⟨a1,cap1,r1,rfl,hu1⟩,hb1⟩;obtain⟨n1,hn1⟩:∃n1,X.natAbs*Y.natAbs=n1:=⟨_,rfl⟩;rw[hn1] at hu1;have HZ1:=Hi hn1;clear hn1;have c0:=(hb1.cell (p:=⟨bx,ox,none⟩) hlt).trans k0;have c1:=(hb1.cell (p:=⟨bx,ox+1,none⟩) hlt).trans k1;have c2:=(hb1.cell (p:=⟨bv,ov,none⟩) hlt').trans j0;have c3:=(hb1.cell (p:=⟨bv,ov+1,none⟩) hlt').trans j1;have HU1:=Hi hu1;have HB1:=Hi ((Below.refl w.heap.size w).drew.trans hb1);clear hu1 hb1)
    |(go_at_call 115;refine(Qcf bz oz t C _ a1 cap1 r1 n1 (X*Y) _ ?_ HN.out ho HU1.out ?_).mono ?_;exact HS.out.below HB1.out HS.out.lt;exact(by rw[←HZ1.out];exact Ql9 X Y);rintro e w2 ⟨rfl,hl⟩;have d0:=(World.cell?_of_block (a:=⟨bx,ox,none⟩) (hl.only.block bx (Nat.lt_of_lt_of_le hlt HB1.out.size) hne)).trans c0;have d1:=(World.cell?_of_block (a:=⟨bx,ox+1,none⟩) (hl.only.block bx (Nat.lt_of_lt_of_le hlt HB1.out.size) hne)).trans c1;have d2:=(World.cell?_of_block (a:=⟨bv,ov,none⟩) (hl.only.block bv (Nat.lt_of_lt_of_le hlt' HB1.out.size) hne')).trans c2;have d3:=(World.cell?_of_block (a:=⟨bv,ov+1,none⟩) (hl.only.block bv (Nat.lt_of_lt_of_le hlt' HB1.out.size) hne')).trans c3;have HL:=Hi hl;clear hl))
 go_wp2;go_ret;exact LaidOk.of (Only.of_below HB1.out) ⟨rfl,_,_,_,HL.out⟩
structure RatAt (w:World) (b:Nat) (P D:Int) (a1:Option Addr) (c1:Nat) (l1:List Nat) (a2:Option Addr) (c2:Nat) (l2:List Nat):Prop where
 sb:SB w b 98 #[.bool (decide (P<0)),.slice a1 l1.length c1,.bool (decide (D<0)),.slice a2 l2.length c2]
 num:U32 w a1 c1 l1 P.natAbs
 den:U32 w a2 c2 l2 D.natAbs
theorem Qai(n1 n2:Bool)(a1 a2:Option Addr)(m1 m2 c1 c2:Nat):NoInt #[Value.bool n1,Value.slice a1 m1 c1,Value.bool n2,Value.slice a2 m2 c2]:=by
 intro i k n
 match i with
 |0=>simp
 |1=>simp
 |2=>simp
 |3=>simp
 |i+4=>simp
theorem RatAt.below{w w':World}{b:Nat}{P D:Int}{a1 a2:Option Addr}{c1 c2:Nat}{l1 l2:List Nat}(h:RatAt w b P D a1 c1 l1 a2 c2 l2)(hb:Below w.heap.size w w'):RatAt w' b P D a1 c1 l1 a2 c2 l2:=
 ⟨h.sb.below hb h.sb.lt,h.num.below hb,h.den.below hb⟩
theorem RatAt.drew{w:World}{b:Nat}{P D:Int}{a1 a2:Option Addr}{c1 c2:Nat}{l1 l2:List Nat}(h:RatAt w b P D a1 c1 l1 a2 c2 l2):RatAt w.drew b P D a1 c1 l1 a2 c2 l2:=h.below (Below.refl _ _).drew
theorem RatAt.c0{w:World}{b:Nat}{P D:Int}{a1 a2:Option Addr}{c1 c2:Nat}{l1 l2:List Nat}(h:RatAt w b P D a1 c1 l1 a2 c2 l2):w.cell? ⟨b,0,none⟩=some (.bool (decide (P<0))):=by rw[h.sb.cell];rfl
theorem RatAt.c1{w:World}{b:Nat}{P D:Int}{a1 a2:Option Addr}{c1 c2:Nat}{l1 l2:List Nat}(h:RatAt w b P D a1 c1 l1 a2 c2 l2):w.cell? ⟨b,1,none⟩=some (.slice a1 l1.length c1):=by rw[h.sb.cell];rfl
theorem RatAt.c2{w:World}{b:Nat}{P D:Int}{a1 a2:Option Addr}{c1 c2:Nat}{l1 l2:List Nat}(h:RatAt w b P D a1 c1 l1 a2 c2 l2):w.cell? ⟨b,2,none⟩=some (.bool (decide (D<0))):=by rw[h.sb.cell];rfl
theorem RatAt.c3{w:World}{b:Nat}{P D:Int}{a1 a2:Option Addr}{c1 c2:Nat}{l1 l2:List Nat}(h:RatAt w b P D a1 c1 l1 a2 c2 l2):w.cell? ⟨b,3,none⟩=some (.slice a2 l2.length c2):=by rw[h.sb.cell];rfl
theorem RatAt.upper{w:World}{b:Nat}{P D:Int}{a1 a2:Option Addr}{c1 c2:Nat}{l1 l2:List Nat}(h:RatAt w b P D a1 c1 l1 a2 c2 l2):IntAt w b 0 P a1 c1 l1:=⟨h.c0,h.c1,h.num,h.sb.lt⟩
theorem RatAt.lower{w:World}{b:Nat}{P D:Int}{a1 a2:Option Addr}{c1 c2:Nat}{l1 l2:List Nat}(h:RatAt w b P D a1 c1 l1 a2 c2 l2):IntAt w b 2 D a2 c2 l2:=⟨h.c2,h.c3,h.den,h.sb.lt⟩
def RatOk(w:World)(b:Nat)(q:Rat)(e:Ending)(w':World):Prop:=
 e=.returned (.pointer (some ⟨b,0,none⟩))∧Only b w w'∧∃a1 c1 l1 a2 c2 l2,RatAt w' b q.num q.den a1 c1 l1 a2 c2 l2
theorem RatOk.of{w w1 w':World}{b:Nat}{q:Rat}{e:Ending}(h:Only b w w1)(k:RatOk w1 b q e w'):RatOk w b q e w':=⟨k.1,h.trans k.2.1,k.2.2⟩
theorem Qdo{l:List Nat}(h:Num 4294967296 l 1):l= [1]:=h.inj (by decide) ⟨fun d hd=>by simp at hd;omega,.inr (by simp),by simp[val]⟩
set_option maxRecDepth 100000 in
set_option maxHeartbeats 1000000 in
theorem Qop(b:Nat)(D:Int)(a1 a2:Option Addr)(c1 c2:Nat)(l1 l2:List Nat)(w:World)(h:RatAt w b 0 D a1 c1 l1 a2 c2 l2)(hD:0<D):
 Calls Tryz.prog 117 #[.pointer (some ⟨b,0,none⟩)] w (RatOk w b 0):=by
 have k0:=h.c0;have k1:=h.c1;have k2:=h.c2;have k3:=h.c3;have hD0:decide (D<0)=false:=by simp;omega
 have hP0:decide ((0:Int)<0)=false:=by simp
 rw[hD0] at k2;have q1:((l2.length:Int) == 0)=false:=by
  rw[beq_eq_false_iff_ne];have:=(h.den.num.len_zero (by decide)).2;omega
 have q2:((l1.length:Int) == 0)=true:=by
  have:=(h.num.num.len_zero (by decide)).1 rfl;simp[this]
 have H:=Hi h;clear h hD0;go_enter Tryz.func117,Tryz.ntmps117;go_wp2_with fail;refine(Qgz b 2 98 _ 1 _ H.out.sb (Qai _ _ _ _ _ _ _ _) (by simp) (by decide) (by decide)).mono ?_;rintro e w1 ⟨rfl,a,cap,l,hl⟩;go_wp2;go_ret;refine⟨rfl,hl.only,a1,c1,l1,a,cap,l,?_,?_,hl.num⟩
 · have:=hl.sb
   simpa [putInt] using this
 · exact H.out.num.only hl.only H.out.sb (Qai _ _ _ _ _ _ _ _)
set_option maxRecDepth 100000 in
set_option maxHeartbeats 1000000 in
theorem Qoq(b:Nat)(P:Int)(a1 a2:Option Addr)(c1 c2:Nat)(l1 l2:List Nat)(w:World)(h:RatAt w b P 1 a1 c1 l1 a2 c2 l2)(hP:P≠0):
 Calls Tryz.prog 117 #[.pointer (some ⟨b,0,none⟩)] w (RatOk w b (P:Rat)):=by
 have hl2:l2= [1]:=Qdo h.den.num;subst hl2;have k0:=h.c0;have k1:=h.c1;have k2:=h.c2;have k3:=h.c3;obtain⟨b',o',rfl,hb',hc'⟩:=h.den.row.cell 0 (by simp);have hc':w.cell? ⟨b',o',none⟩=some (.int .u32 1):=by simpa using hc'
 have hD0:decide ((1:Int)<0)=false:=by simp
 rw[hD0] at k2;simp only[List.length_singleton] at k3;have q2:((l1.length:Int) == 0)=false:=by
  rw[beq_eq_false_iff_ne];have:=(h.num.num.len_zero (by decide)).2;omega
 have H:=Hi h;clear h hD0;go_enter Tryz.func117,Tryz.ntmps117;go_wp2;go_ret;exact⟨rfl,Only.refl _ _,_,_,_,_,_,_,H.out⟩
theorem Qif{P D:Int}(hD:0<D)(hg:Nat.gcd P.natAbs D.natAbs=1):(mkRat P D.natAbs).num=P∧(((mkRat P D.natAbs).den:Nat):Int)=D:=by
 rw[Rat.num_mkRat,Rat.den_mkRat,if_neg (by omega),if_neg (by omega),Nat.gcd_comm,hg];constructor
 · simp
 · simp;omega
theorem Qdp(P:Int)(g:Nat)(hg:0<g)(hd:g ∣ P.natAbs):(P / (g:Int)).natAbs=P.natAbs / g:=by
 rw[Int.natAbs_ediv_of_dvd (Int.ofNat_dvd_left.2 hd),Int.natAbs_natCast]
theorem Qdq(P:Int)(g:Nat)(hg:0<g)(hd:g ∣ P.natAbs):decide (P / (g:Int)<0)=decide (P<0):=by
 apply decide_eq_decide.2;obtain⟨k,hk⟩:=Int.ofNat_dvd_left.2 hd;have hg':(0:Int)<(g:Int):=by omega
 rw[hk,Int.mul_ediv_cancel_left _ (by omega)];constructor
 · intro h
   exact Int.mul_neg_of_pos_of_neg hg' h
 ·
  intro h;apply Classical.byContradiction;intro hc;have:=Int.mul_nonneg (Int.le_of_lt hg') (show 0≤k by omega);omega
theorem Qdr{P D:Int}{g:Nat}(hD:0<D)(hg:Nat.gcd P.natAbs D.natAbs=g):(mkRat P D.natAbs).num=P / (g:Int)∧(mkRat P D.natAbs).den=D.natAbs / g:=by
 rw[Rat.num_mkRat,Rat.den_mkRat,if_neg (by omega),if_neg (by omega),Nat.gcd_comm,hg];exact⟨rfl,rfl⟩
theorem Qig{l:List Nat}{g:Nat}(h:Num 4294967296 l g)(hg:g≠1):((l.length:Int) == 1)=false∨∃d,l= [d]∧d≠1:=by
 by_cases hl:l.length=1
 ·
  right
  match l,hl,h with
  | [d],_,h=>
    refine⟨d,rfl,?_⟩;have:=h.eq;simp[val] at this;omega
 · left;rw[beq_eq_false_iff_ne];omega
set_option maxRecDepth 100000 in
set_option maxHeartbeats 4000000 in
theorem Qor(b:Nat)(P D:Int)(a1 a2:Option Addr)(c1 c2:Nat)(l1 l2:List Nat)(w:World)(h:RatAt w b P D a1 c1 l1 a2 c2 l2)(hP:P≠0)(hD:0<D)(hD1:D≠1)(hb1:l1.length<1099511627770)(hb2:l2.length<1099511627770):
 Calls Tryz.prog 117 #[.pointer (some ⟨b,0,none⟩)] w (RatOk w b (mkRat P D.natAbs)):=by
 have k0:=h.c0;have k1:=h.c1;have k2:=h.c2;have k3:=h.c3;have hD0:decide (D<0)=false:=by simp;omega
 rw[hD0] at k2;have q1:((l2.length:Int) == 0)=false:=by
  rw[beq_eq_false_iff_ne];have:=(h.den.num.len_zero (by decide)).2;omega
 have q2:((l1.length:Int) == 0)=false:=by
  rw[beq_eq_false_iff_ne];have:=(h.num.num.len_zero (by decide)).2;omega
 by_cases hl:l2.length=1
 ·
  obtain⟨d,rfl⟩:∃d,l2= [d]:=by
   match l2,hl with
   | [d],_=>exact⟨d,rfl⟩
  have hd:d≠1:=by
   have:=h.den.num.eq;simp[val] at this;omega
  obtain⟨b',o',rfl,hb',hc'⟩:=h.den.row.cell 0 (by simp);have hc':w.cell? ⟨b',o',none⟩=some (.int .u32 (d:Int)):=by simpa using hc'
  have hq3:((d:Int) == 1)=false:=by rw[beq_eq_false_iff_ne];omega
  simp only[List.length_singleton] at k3 q1;have H:=Hi h;have HG:=Hi (Qf6 a1 (some ⟨b',o',none⟩) c1 c2 l1 ([d]) P.natAbs D.natAbs w.drew h.num.drew h.den.drew (by omega) (by omega));have hlt:=h.sb.lt;clear h hD0;go_enter Tryz.func117,Tryz.ntmps117;go_wp2;go_region_held3 (fun w'=>w'.cell? ⟨b,1,none⟩=some (.slice a1 l1.length c1)∧w'.cell? ⟨b,3,none⟩=some (.slice (some ⟨b',o',none⟩) (1) c2)) ((simp [*]))
   (first
     |(go_at_call 171;refine HG.out.mono ?_;rintro e w1 ⟨⟨ag,cg,rg,rfl,hug⟩,hb1⟩;have d1:=(hb1.cell (p:=⟨b,1,none⟩) hlt).trans k1;have d3:=(hb1.cell (p:=⟨b,3,none⟩) hlt).trans k3;have HU:=Hi hug;have HB:=Hi ((Below.refl w.heap.size w).drew.trans hb1);clear hug hb1))
  clear k0 k1 k2 k3 HG hc' hq3;obtain⟨g,hg⟩:∃g,Nat.gcd P.natAbs D.natAbs=g:=⟨_,rfl⟩;have hug:=HU.out;rw[hg] at hug;have HUG:=Hi hug;have HGE:=Hi hg;have hg0:0<g:=by rw[←hg];exact Nat.gcd_pos_of_pos_right _ (by omega)
  have H1:=H.out.below HB.out;have hgl:rg.length≤([d]).length:=hug.len_mono H.out.den (by rw[←hg];exact Nat.le_of_dvd (by omega) (Nat.gcd_dvd_right _ _));clear HU;by_cases hg1:g=1
  ·
   subst hg1;have hrg:rg= [1]:=Qdo hug.num;subst hrg;obtain⟨bg,og,rfl,hbg,hcg⟩:=hug.row.cell 0 (by simp);have hcg:w1.cell? ⟨bg,og,none⟩=some (.int .u32 1):=by simpa using hcg
   clear hug hg H1;go_wp2;go_ret;obtain⟨e1,e2⟩:=Qif (P:=P) hD HGE.out;refine RatOk.of (Only.of_below HB.out) ⟨rfl,Only.refl _ _,a1,c1,l1,some ⟨b',o',none⟩,c2,[d],?_⟩;rw[e1,e2];exact H.out.below HB.out
  ·
   have hdv1:g ∣ P.natAbs:=by rw[←hg];exact Nat.gcd_dvd_left _ _
   have HD1:=Hi (Qa4 a1 ag c1 cg l1 rg P.natAbs g w1 H1.num hug hg0 (by omega));rcases Qig hug.num hg1 with hq5|⟨dd,rfl,hd1⟩
   ·
    clear hug hg H1;go_wp2_with fail;refine HD1.out.mono ?_;rintro e w2 ⟨⟨aq,cq,rq,ar,cr,rr,rfl,hq,hr⟩,hb2⟩;have H2:=(H.out.below HB.out).below hb2;have d3':=H2.c3;have HQ:=Hi hq;have HB2:=Hi hb2;have HD2:=Hi (Qa4 (some ⟨b',o',none⟩) _ c2 cg ([d]) _ D.natAbs g w2 H2.den (HUG.out.below hb2) hg0 (by omega));clear hq hr hb2 H2;go_wp2_with fail;refine HD2.out.mono ?_;rintro e w3 ⟨⟨as1,cs,rs,at',ct,rt,rfl,hs,ht⟩,hb3⟩;have H3:=((H.out.below HB.out).below HB2.out).below hb3;have f1:=H3.sb.free 1;have f3:=H3.sb.free 3;have f1':=H3.c1;have f3':=H3.c3;have HS:=Hi hs;have HB3:=Hi hb3;have HH3:=Hi H3;clear hs ht hb3 H3;go_wp2;go_ret;have ho:Only b w3 ((w3.setCell ⟨b,1,none⟩ (.slice aq rq.length cq)).setCell ⟨b,3,none⟩ (.slice as1 rs.length cs)):=((Only.refl b w3).setCell _ _).setCell _ _;have hdv2:g ∣ D.natAbs:=by rw[←HGE.out];exact Nat.gcd_dvd_right _ _
    obtain⟨e1,e2⟩:=Qdr (P:=P) hD HGE.out;refine RatOk.of (Only.of_below (HB.out.trans ((HB2.out.mono HB.out.size).trans (HB3.out.mono (Nat.le_trans HB.out.size HB2.out.size))))) ⟨rfl,ho,aq,cq,rq,as1,cs,rs,?_,?_,?_⟩
    ·
     have:=(HH3.out.sb.set 1 (.slice aq rq.length cq)).set 3 (.slice as1 rs.length cs);have en:decide ((((mkRat P D.natAbs).den:Nat):Int)<0)=decide (D<0):=by
      apply decide_eq_decide.2;omega
     rw[e1,Qdq P g hg0 hdv1,en]
     simpa using this
    · rw[e1,Qdp P g hg0 hdv1]
      exact(HQ.out.below HB3.out).only ho HH3.out.sb (Qai _ _ _ _ _ _ _ _)
    · rw[e2,Int.natAbs_natCast]
      exact HS.out.only ho HH3.out.sb (Qai _ _ _ _ _ _ _ _)
   ·
    obtain⟨bg,og,rfl,hbg,hcg⟩:=hug.row.cell 0 (by simp);have hcg:w1.cell? ⟨bg,og,none⟩=some (.int .u32 (dd:Int)):=by simpa using hcg
    have hq6:((dd:Int) == 1)=false:=by rw[beq_eq_false_iff_ne];omega
    clear hug hg H1;go_wp2_with fail;refine HD1.out.mono ?_;rintro e w2 ⟨⟨aq,cq,rq,ar,cr,rr,rfl,hq,hr⟩,hb2⟩;have H2:=(H.out.below HB.out).below hb2;have d3':=H2.c3;have HQ:=Hi hq;have HB2:=Hi hb2;have HD2:=Hi (Qa4 (some ⟨b',o',none⟩) _ c2 cg ([d]) _ D.natAbs g w2 H2.den (HUG.out.below hb2) hg0 (by omega));clear hq hr hb2 H2;go_wp2_with fail;refine HD2.out.mono ?_;rintro e w3 ⟨⟨as1,cs,rs,at',ct,rt,rfl,hs,ht⟩,hb3⟩;have H3:=((H.out.below HB.out).below HB2.out).below hb3;have f1:=H3.sb.free 1;have f3:=H3.sb.free 3;have f1':=H3.c1;have f3':=H3.c3;have HS:=Hi hs;have HB3:=Hi hb3;have HH3:=Hi H3;clear hs ht hb3 H3;go_wp2;go_ret;have ho:Only b w3 ((w3.setCell ⟨b,1,none⟩ (.slice aq rq.length cq)).setCell ⟨b,3,none⟩ (.slice as1 rs.length cs)):=((Only.refl b w3).setCell _ _).setCell _ _;have hdv2:g ∣ D.natAbs:=by rw[←HGE.out];exact Nat.gcd_dvd_right _ _
    obtain⟨e1,e2⟩:=Qdr (P:=P) hD HGE.out;refine RatOk.of (Only.of_below (HB.out.trans ((HB2.out.mono HB.out.size).trans (HB3.out.mono (Nat.le_trans HB.out.size HB2.out.size))))) ⟨rfl,ho,aq,cq,rq,as1,cs,rs,?_,?_,?_⟩
    ·
     have:=(HH3.out.sb.set 1 (.slice aq rq.length cq)).set 3 (.slice as1 rs.length cs);have en:decide ((((mkRat P D.natAbs).den:Nat):Int)<0)=decide (D<0):=by
      apply decide_eq_decide.2;omega
     rw[e1,Qdq P g hg0 hdv1,en]
     simpa using this
    · rw[e1,Qdp P g hg0 hdv1]
      exact(HQ.out.below HB3.out).only ho HH3.out.sb (Qai _ _ _ _ _ _ _ _)
    · rw[e2,Int.natAbs_natCast]
      exact HS.out.only ho HH3.out.sb (Qai _ _ _ _ _ _ _ _)
 ·
  have hq3:((l2.length:Int) == 1)=false:=by rw[beq_eq_false_iff_ne];omega
  have H:=Hi h;have HG:=Hi (Qf6 a1 (a2) c1 c2 l1 (l2) P.natAbs D.natAbs w.drew h.num.drew h.den.drew (by omega) (by omega));have hlt:=h.sb.lt;clear h hD0;go_enter Tryz.func117,Tryz.ntmps117;go_wp2;go_region_held3 (fun w'=>w'.cell? ⟨b,1,none⟩=some (.slice a1 l1.length c1)∧w'.cell? ⟨b,3,none⟩=some (.slice (a2) (l2.length) c2)) ((simp [*]))
   (first
     |(go_at_call 171;refine HG.out.mono ?_;rintro e w1 ⟨⟨ag,cg,rg,rfl,hug⟩,hb1⟩;have d1:=(hb1.cell (p:=⟨b,1,none⟩) hlt).trans k1;have d3:=(hb1.cell (p:=⟨b,3,none⟩) hlt).trans k3;have HU:=Hi hug;have HB:=Hi ((Below.refl w.heap.size w).drew.trans hb1);clear hug hb1))
  clear k0 k1 k2 k3 HG hq3;obtain⟨g,hg⟩:∃g,Nat.gcd P.natAbs D.natAbs=g:=⟨_,rfl⟩;have hug:=HU.out;rw[hg] at hug;have HUG:=Hi hug;have HGE:=Hi hg;have hg0:0<g:=by rw[←hg];exact Nat.gcd_pos_of_pos_right _ (by omega)
  have H1:=H.out.below HB.out;have hgl:rg.length≤(l2).length:=hug.len_mono H.out.den (by rw[←hg];exact Nat.le_of_dvd (by omega) (Nat.gcd_dvd_right _ _));clear HU;by_cases hg1:g=1
  ·
   subst hg1;have hrg:rg= [1]:=Qdo hug.num;subst hrg;obtain⟨bg,og,rfl,hbg,hcg⟩:=hug.row.cell 0 (by simp);have hcg:w1.cell? ⟨bg,og,none⟩=some (.int .u32 1):=by simpa using hcg
   clear hug hg H1;go_wp2;go_ret;obtain⟨e1,e2⟩:=Qif (P:=P) hD HGE.out;refine RatOk.of (Only.of_below HB.out) ⟨rfl,Only.refl _ _,a1,c1,l1,a2,c2,l2,?_⟩;rw[e1,e2];exact H.out.below HB.out
  ·
   have hdv1:g ∣ P.natAbs:=by rw[←hg];exact Nat.gcd_dvd_left _ _
   have HD1:=Hi (Qa4 a1 ag c1 cg l1 rg P.natAbs g w1 H1.num hug hg0 (by omega));rcases Qig hug.num hg1 with hq5|⟨dd,rfl,hd1⟩
   ·
    clear hug hg H1;go_wp2_with fail;refine HD1.out.mono ?_;rintro e w2 ⟨⟨aq,cq,rq,ar,cr,rr,rfl,hq,hr⟩,hb2⟩;have H2:=(H.out.below HB.out).below hb2;have d3':=H2.c3;have HQ:=Hi hq;have HB2:=Hi hb2;have HD2:=Hi (Qa4 (a2) _ c2 cg (l2) _ D.natAbs g w2 H2.den (HUG.out.below hb2) hg0 (by omega));clear hq hr hb2 H2;go_wp2_with fail;refine HD2.out.mono ?_;rintro e w3 ⟨⟨as1,cs,rs,at',ct,rt,rfl,hs,ht⟩,hb3⟩;have H3:=((H.out.below HB.out).below HB2.out).below hb3;have f1:=H3.sb.free 1;have f3:=H3.sb.free 3;have f1':=H3.c1;have f3':=H3.c3;have HS:=Hi hs;have HB3:=Hi hb3;have HH3:=Hi H3;clear hs ht hb3 H3;go_wp2;go_ret;have ho:Only b w3 ((w3.setCell ⟨b,1,none⟩ (.slice aq rq.length cq)).setCell ⟨b,3,none⟩ (.slice as1 rs.length cs)):=((Only.refl b w3).setCell _ _).setCell _ _;have hdv2:g ∣ D.natAbs:=by rw[←HGE.out];exact Nat.gcd_dvd_right _ _
    obtain⟨e1,e2⟩:=Qdr (P:=P) hD HGE.out;refine RatOk.of (Only.of_below (HB.out.trans ((HB2.out.mono HB.out.size).trans (HB3.out.mono (Nat.le_trans HB.out.size HB2.out.size))))) ⟨rfl,ho,aq,cq,rq,as1,cs,rs,?_,?_,?_⟩
    ·
     have:=(HH3.out.sb.set 1 (.slice aq rq.length cq)).set 3 (.slice as1 rs.length cs);have en:decide ((((mkRat P D.natAbs).den:Nat):Int)<0)=decide (D<0):=by
      apply decide_eq_decide.2;omega
     rw[e1,Qdq P g hg0 hdv1,en]
     simpa using this
    · rw[e1,Qdp P g hg0 hdv1]
      exact(HQ.out.below HB3.out).only ho HH3.out.sb (Qai _ _ _ _ _ _ _ _)
    · rw[e2,Int.natAbs_natCast]
      exact HS.out.only ho HH3.out.sb (Qai _ _ _ _ _ _ _ _)
   ·
    obtain⟨bg,og,rfl,hbg,hcg⟩:=hug.row.cell 0 (by simp);have hcg:w1.cell? ⟨bg,og,none⟩=some (.int .u32 (dd:Int)):=by simpa using hcg
    have hq6:((dd:Int) == 1)=false:=by rw[beq_eq_false_iff_ne];omega
    clear hug hg H1;go_wp2_with fail;refine HD1.out.mono ?_;rintro e w2 ⟨⟨aq,cq,rq,ar,cr,rr,rfl,hq,hr⟩,hb2⟩;have H2:=(H.out.below HB.out).below hb2;have d3':=H2.c3;have HQ:=Hi hq;have HB2:=Hi hb2;have HD2:=Hi (Qa4 (a2) _ c2 cg (l2) _ D.natAbs g w2 H2.den (HUG.out.below hb2) hg0 (by omega));clear hq hr hb2 H2;go_wp2_with fail;refine HD2.out.mono ?_;rintro e w3 ⟨⟨as1,cs,rs,at',ct,rt,rfl,hs,ht⟩,hb3⟩;have H3:=((H.out.below HB.out).below HB2.out).below hb3;have f1:=H3.sb.free 1;have f3:=H3.sb.free 3;have f1':=H3.c1;have f3':=H3.c3;have HS:=Hi hs;have HB3:=Hi hb3;have HH3:=Hi H3;clear hs ht hb3 H3;go_wp2;go_ret;have ho:Only b w3 ((w3.setCell ⟨b,1,none⟩ (.slice aq rq.length cq)).setCell ⟨b,3,none⟩ (.slice as1 rs.length cs)):=((Only.refl b w3).setCell _ _).setCell _ _;have hdv2:g ∣ D.natAbs:=by rw[←HGE.out];exact Nat.gcd_dvd_right _ _
    obtain⟨e1,e2⟩:=Qdr (P:=P) hD HGE.out;refine RatOk.of (Only.of_below (HB.out.trans ((HB2.out.mono HB.out.size).trans (HB3.out.mono (Nat.le_trans HB.out.size HB2.out.size))))) ⟨rfl,ho,aq,cq,rq,as1,cs,rs,?_,?_,?_⟩
    ·
     have:=(HH3.out.sb.set 1 (.slice aq rq.length cq)).set 3 (.slice as1 rs.length cs);have en:decide ((((mkRat P D.natAbs).den:Nat):Int)<0)=decide (D<0):=by
      apply decide_eq_decide.2;omega
     rw[e1,Qdq P g hg0 hdv1,en]
     simpa using this
    · rw[e1,Qdp P g hg0 hdv1]
      exact(HQ.out.below HB3.out).only ho HH3.out.sb (Qai _ _ _ _ _ _ _ _)
    · rw[e2,Int.natAbs_natCast]
      exact HS.out.only ho HH3.out.sb (Qai _ _ _ _ _ _ _ _)
end Go.Proofs.YtbbkamnfjejceaaGreatDoor
