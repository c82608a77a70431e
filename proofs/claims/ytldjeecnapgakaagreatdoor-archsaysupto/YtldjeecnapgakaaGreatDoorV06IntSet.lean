/- rafterbig's Int: Set, Neg, Sign, Cmp, Add, Sub, Mul. -/
import Derived.Test.YtldjeecnapgakaaGreatDoorV05BigCommon
import Derived.Deep.RegionHeld3
namespace Go.Proofs.YtldjeecnapgakaaGreatDoor
open Go.RowKit
open Go.Proofs.Tryz
set_option linter.unusedSimpArgs false
set_option linter.unusedVariables false
set_option maxHeartbeats 8000000
set_option maxRecDepth 1000000
def SB(w:World)(b:Nat)(t:TypeId)(C:Array Value):Prop:=w.heap[b]?=some (.cells C t (0,0))
def NoInt(C:Array Value):Prop:=∀(i:Nat) (k:IntKind) (n:Int),C[i]?≠some (Value.int k n)
theorem SB.lt{w:World}{b:Nat}{t:TypeId}{C:Array Value}(h:SB w b t C):b<w.heap.size:=by
 apply bC;intro hc;unfold SB at h;rw[Array.getElem?_eq_none (by omega)] at h;cases h
theorem SB.cell{w:World}{b:Nat}{t:TypeId}{C:Array Value}(h:SB w b t C)(i:Nat):w.cell? ⟨b,i,none⟩=C[i]?:=by
 unfold SB at h;simp[World.cell?,h]
theorem SB.free{w:World}{b:Nat}{t:TypeId}{C:Array Value}(h:SB w b t C)(i:Nat):w.frozen? ⟨b,i,none⟩=false:=by
 unfold SB at h;simp[World.frozen?,h]
theorem SB.set{w:World}{b:Nat}{t:TypeId}{C:Array Value}(h:SB w b t C)(i:Nat)(v:Value):SB (w.setCell ⟨b,i,none⟩ v) b t (C.setIfInBounds i v):=by
 unfold SB at h ⊢;simp[World.setCell,Array.getElem?_modify,h]
theorem SB.alloc{w:World}{b:Nat}{t:TypeId}{C:Array Value}(h:SB w b t C)(o:Obj):SB (w.alloc o) b t C:=by
 have:=h.lt;unfold SB at h ⊢;rw[Below.heap_alloc _ _ _ this];exact h
theorem SB.new(w:World)(t:TypeId)(C:Array Value):SB (w.alloc (.cells C t)) w.heap.size t C:=by
 show (w.heap.push _)[w.heap.size]?=_
 simp
theorem SB.below{w w':World}{b B:Nat}{t:TypeId}{C:Array Value}(h:SB w b t C)(hb:Below B w w')(hB:b<B):SB w' b t C:=by
 unfold SB at h ⊢;rw[hb.block b hB];exact h
structure Only (b:Nat) (w w':World):Prop where
 os:w'.os=w.os
 tape:w'.tape=w.tape
 output:w'.output=w.output
 size:w.heap.size<=w'.heap.size
 block:∀k,k<w.heap.size->k≠b->w'.heap[k]?=w.heap[k]?
theorem Only.refl(b:Nat)(w:World):Only b w w:=⟨rfl,rfl,rfl,Nat.le_refl _,fun _ _ _=>rfl⟩
theorem Only.trans{b:Nat}{u v w:World}(h:Only b u v)(k:Only b v w):Only b u w:=
 ⟨k.os.trans h.os,k.tape.trans h.tape,k.output.trans h.output,Nat.le_trans h.size k.size,fun i hi hne=>(k.block i (by have:=h.size;omega) hne).trans (h.block i hi hne)⟩
theorem Only.of_below{b:Nat}{w w':World}(h:Below w.heap.size w w'):Only b w w':=⟨h.os,h.tape,h.output,h.size,fun k hk _=>h.block k hk⟩
theorem Only.setCell{b:Nat}{u w:World}(h:Only b u w)(i:Nat)(v:Value):Only b u (w.setCell ⟨b,i,none⟩ v):=
 ⟨h.os,h.tape,h.output,by have:=h.size;simpa [World.setCell] using this,fun k hk hne=>(Below.heap_setCell _ _ _ _ hne).trans (h.block k hk hne)⟩
theorem Only.drew{b:Nat}{u w:World}(h:Only b u w):Only b u w.drew:=⟨h.os,h.tape,h.output,h.size,h.block⟩
theorem Only.drewN{b:Nat}{u w:World}(h:Only b u w)(n:Nat):Only b u (w.drewN n):=⟨h.os,h.tape,h.output,h.size,h.block⟩
theorem Only.below{b B:Nat}{w w':World}(h:Only b w w')(hB:B<=b)(hw:B<=w.heap.size):Below B w w':=⟨h.os,h.tape,h.output,h.size,fun k hk=>h.block k (by omega) (by omega)⟩
theorem Only.fresh{b:Nat}{u w w':World}(h:Below u.heap.size u w)(k:Only b w w')(hb:u.heap.size<=b):Below u.heap.size u w':=
 h.trans (k.below hb h.size)
theorem SB.only{w w':World}{b c:Nat}{t:TypeId}{C:Array Value}(h:SB w b t C)(k:Only c w w')(hne:b≠c):SB w' b t C:=by
 have:=h.lt;unfold SB at h ⊢;rw[k.block b this hne];exact h
theorem Row.only{k:IntKind}{w w':World}{a:Option Addr}{cap:Nat}{l:List Nat}{b:Nat}{t:TypeId}{C:Array Value}(h:Row k w a cap l)(ho:Only b w w')(hs:SB w b t C)(hn:NoInt C):Row k w' a cap l:=by
 refine⟨h.fit,?_,fun i hi=>?_⟩
 .
  rcases h.shape with h1|⟨b',off,rfl,h2⟩
  . exact .inl h1
  . exact .inr ⟨b',off,rfl,by have:=ho.size;omega⟩
 .
  obtain⟨b',off,h1,h2,h3⟩:=h.cell i hi;have hne:b'≠b:=by
   rintro rfl;rw[hs.cell] at h3;exact hn _ _ _ h3
  exact⟨b',off,h1,by have:=ho.size;omega,(World.cell?_of_block (w:=w) (ho.block b' h2 hne)).trans h3⟩
theorem U32.only{w w':World}{a:Option Addr}{cap:Nat}{l:List Nat}{n b:Nat}{t:TypeId}{C:Array Value}(h:U32 w a cap l n)(ho:Only b w w')(hs:SB w b t C)(hn:NoInt C):U32 w' a cap l n:=
 ⟨h.row.only ho hs hn,h.num,h.short⟩
structure IntAt (w:World) (b o:Nat) (z:Int) (a:Option Addr) (cap:Nat) (l:List Nat):Prop where
 neg:w.cell? ⟨b,o,none⟩=some (.bool (decide (z<0)))
 abs:w.cell? ⟨b,o+1,none⟩=some (.slice a l.length cap)
 num:U32 w a cap l z.natAbs
 lt:b<w.heap.size
theorem IntAt.below{w w':World}{b o:Nat}{z:Int}{a:Option Addr}{cap:Nat}{l:List Nat}(h:IntAt w b o z a cap l)(hb:Below w.heap.size w w'):IntAt w' b o z a cap l:=
 ⟨ce hb h.lt h.neg,ce hb h.lt h.abs,h.num.below hb,by have:=h.lt;have:=hb.size;omega⟩
def putInt(C:Array Value)(o:Nat)(neg:Bool)(v:Value):Array Value:=(C.setIfInBounds (o+1) v).setIfInBounds o (.bool neg)
structure Laid (w w':World) (b o:Nat) (t:TypeId) (C:Array Value) (z:Int) (a:Option Addr) (cap:Nat) (l:List Nat):Prop where
 sb:SB w' b t (putInt C o (decide (z<0)) (.slice a l.length cap))
 num:U32 w' a cap l z.natAbs
 only:Only b w w'
theorem Laid.at{w w':World}{b o:Nat}{t:TypeId}{C:Array Value}{z:Int}{a:Option Addr}{cap:Nat}{l:List Nat}(h:Laid w w' b o t C z a cap l)(ho:o+1<C.size):IntAt w' b o z a cap l:=by
 refine⟨?_,?_,h.num,h.sb.lt⟩
 . have h2:o<C.size:=by omega
   rw[h.sb.cell];simp[putInt,h2]
 . rw[h.sb.cell];simp[putInt,ho]
def ZC(w:World)(b:Nat):List Value→Prop
 |[x0]=>w.cell? ⟨b,0,none⟩=some x0∧True
 |[x0,x1]=>w.cell? ⟨b,0,none⟩=some x0∧w.cell? ⟨b,1,none⟩=some x1∧True
 |[x0,x1,x2]=>w.cell? ⟨b,0,none⟩=some x0∧w.cell? ⟨b,1,none⟩=some x1∧w.cell? ⟨b,2,none⟩=some x2∧True
 |[x0,x1,x2,x3]=>w.cell? ⟨b,0,none⟩=some x0∧w.cell? ⟨b,1,none⟩=some x1∧w.cell? ⟨b,2,none⟩=some x2∧w.cell? ⟨b,3,none⟩=some x3∧True
 |[x0,x1,x2,x3,x4]=>w.cell? ⟨b,0,none⟩=some x0∧w.cell? ⟨b,1,none⟩=some x1∧w.cell? ⟨b,2,none⟩=some x2∧w.cell? ⟨b,3,none⟩=some x3∧w.cell? ⟨b,4,none⟩=some x4∧True
 |[x0,x1,x2,x3,x4,x5]=>w.cell? ⟨b,0,none⟩=some x0∧w.cell? ⟨b,1,none⟩=some x1∧w.cell? ⟨b,2,none⟩=some x2∧w.cell? ⟨b,3,none⟩=some x3∧w.cell? ⟨b,4,none⟩=some x4∧w.cell? ⟨b,5,none⟩=some x5∧True
 |_=>True
theorem zc{w:World}{b:Nat}{t:TypeId}{l:List Value}(h:SB w b t l.toArray):ZC w b l:=by
 unfold ZC
 split
 all_goals first|trivial|exact⟨h.cell 0,trivial⟩|exact⟨h.cell 0,h.cell 1,trivial⟩|exact⟨h.cell 0,h.cell 1,h.cell 2,trivial⟩|exact⟨h.cell 0,h.cell 1,h.cell 2,h.cell 3,trivial⟩|exact⟨h.cell 0,h.cell 1,h.cell 2,h.cell 3,h.cell 4,trivial⟩|exact⟨h.cell 0,h.cell 1,h.cell 2,h.cell 3,h.cell 4,h.cell 5,trivial⟩
theorem Ua{w W:World}{o:Obj}(h:w.alloc o=W):O (Below w.heap.size w W):=by rw[<-h];exact(Below.refl _ _).alloc (Nat.le_refl _) _
theorem Ub{w W:World}{o p:Obj}(h:(w.alloc o).alloc p=W):O (Below w.heap.size w W):=by rw[<-h];exact((Below.refl _ _).alloc (Nat.le_refl _) _).alloc (by simp) _
theorem Uc{w W:World}{t:TypeId}{C:Array Value}(h:w.alloc (.cells C t)=W):O (SB W w.heap.size t C):=by rw[<-h];exact SB.new w _ _
theorem Ud{w W:World}{t:TypeId}{C:Array Value}{o:Obj}(h:(w.alloc (.cells C t)).alloc o=W):O (SB W w.heap.size t C):=by rw[<-h];exact(SB.new w _ _).alloc _
theorem Ue{w W:World}{t:TypeId}{C:Array Value}{o:Obj}(h:(w.alloc o).alloc (.cells C t)=W):O (SB W (w.heap.size+1) t C):=Hi (by rw[<-h];have:=SB.new (w.alloc o) t C;simpa using this)
theorem Uf{w W:World}{B:Nat}{t:TypeId}{C:Array Value}(h:w.alloc (.cells C t)=W)(k:w.heap.size=B):O (SB W B t C):=k ▸ Uc h
theorem Ug{w W:World}{B:Nat}{t:TypeId}{C:Array Value}{o:Obj}(h:(w.alloc (.cells C t)).alloc o=W)(k:w.heap.size=B):O (SB W B t C):=k ▸ Ud h
theorem Uh{w W:World}{B:Nat}{t:TypeId}{C:Array Value}{o:Obj}(h:(w.alloc o).alloc (.cells C t)=W)(k:w.heap.size=B):O (SB W (B+1) t C):=k ▸ Ue h
theorem Qhp{C:Array Value}{i:Nat}(h:i<C.size):∃v,C[i]?=some v:=⟨C[i],by simp[h]⟩
theorem Qom(z:Int)(neg:Bool)(n:Nat)(hz:z=if neg then -(n:Int) else (n:Int)):decide (z<0)=(neg && decide (0<n)):=by
 subst hz;cases neg
 . simp
 .
  by_cases h:0<n
  . simp[h]
  .
   have:n=0:=by omega
   subst this;simp
theorem Qbt(b o:Nat)(t:TypeId)(C:Array Value)(neg:Bool)(a:Option Addr)(cap:Nat)(l:List Nat)(n:Nat)(z:Int)(w:World)(hs:SB w b t C)(hn:NoInt C)(ho:o+1<C.size)(hu:U32 w a cap l n)(hz:z=if neg then -(n:Int) else (n:Int)):
 Calls prog 106 #[.pointer (some ⟨b,o,none⟩),.bool neg,.slice a l.length cap] w fun e w'=>e=.returned (.pointer (some ⟨b,o,none⟩))/\Laid w w' b o t C z a cap l:=by
 obtain⟨v0,hv0⟩:=Qhp (C:=C) (i:=o) (by omega);obtain⟨v1,hv1⟩:=Qhp (C:=C) (i:=o+1) ho;have k0:=hs.cell o;have k1:=hs.cell (o+1);rw[hv0] at k0;rw[hv1] at k1;have f0:=hs.free o;have f1:=hs.free (o+1);have hzn:z.natAbs=n:=by rw[hz];split<;>omega
 have hsg:=Qom z neg n hz;have hlen:decide (0<n)=decide (0<l.length):=by
  have:=hu.num.len_zero (by decide);apply decide_eq_decide.2;omega
 obtain⟨HS,HZN,HSG⟩:=Ib hs hzn (hsg.trans (by rw[hlen]));clear hs hzn hsg hlen hz hv0 hv1;cases neg
 .
  go_enter func106,ntmps106;go_wp2;go_ret;have ho':Only b w ((w.setCell ⟨b,o+1,none⟩ (.slice a l.length cap)).setCell ⟨b,o,none⟩ (.bool false)):=((Only.refl b w).setCell _ _).setCell _ _;refine⟨rfl,⟨?_,?_,ho'⟩⟩
  . rw[HSG.o];exact(HS.o.set (o+1) _).set o _
  . rw[HZN.o];exact hu.only ho' HS.o hn
 .
  go_enter func106,ntmps106;go_wp2;go_ret;have ho':Only b w ((w.setCell ⟨b,o+1,none⟩ (.slice a l.length cap)).setCell ⟨b,o,none⟩ (.bool (decide (0<l.length)))):=((Only.refl b w).setCell _ _).setCell _ _;refine⟨rfl,⟨?_,?_,ho'⟩⟩
  . rw[HSG.o];exact(HS.o.set (o+1) _).set o _
  . rw[HZN.o];exact hu.only ho' HS.o hn
def LaidOk(w:World)(b o:Nat)(t:TypeId)(C:Array Value)(z:Int)(e:Ending)(w':World):Prop:=
 e=.returned (.pointer (some ⟨b,o,none⟩))/\∃a cap l,Laid w w' b o t C z a cap l
theorem LaidOk.of{w w1 w':World}{b o:Nat}{t:TypeId}{C:Array Value}{z:Int}{e:Ending}(h:Only b w w1)(k:LaidOk w1 b o t C z e w'):LaidOk w b o t C z e w':=by
 obtain⟨h1,a,cap,l,h2⟩:=k;exact⟨h1,a,cap,l,⟨h2.sb,h2.num,h.trans h2.only⟩⟩
theorem Qew(b o:Nat)(t:TypeId)(C:Array Value)(z:Int)(w:World)(hs:SB w b t C)(hn:NoInt C)(ho:o+1<C.size)(h0:0<=z)(h1:z<1000000):
 Calls prog 107 #[.pointer (some ⟨b,o,none⟩),.int .i64 z] w (LaidOk w b o t C z):=by
 obtain⟨n,rfl⟩:=Int.eq_ofNat_of_zero_le h0;obtain⟨HS,HN⟩:=Ia hs hn;have hneg:¬((n:Int)<0):=by omega
 clear hs hn h0;go_enter func107,ntmps107;go_wp2_with fail;refine(Qbo (n:Int) _ (by omega) (by omega)).mono ?_;rintro e w1 ⟨⟨a,cap,l,rfl,hu,_⟩,hb⟩;rw[Int.toNat_natCast] at hu;go_wp2_with fail;refine(Qbt b o t C false a cap l n n w1 (HS.o.below hb HS.o.lt) HN.o ho hu (by simp)).mono ?_;rintro e w2 ⟨rfl,hl⟩;go_wp2;go_ret;exact LaidOk.of (Only.of_below hb) ⟨rfl,_,_,_,hl⟩
theorem Tryz.int_zero:NoInt #[Value.bool false,Value.slice none 0 0]:=by
 intro i k n
 match i with
 |0=>simp
 |1=>simp
 |i+2=>simp
def IntNew(w:World)(z:Int)(e:Ending)(w':World):Prop:=
 (∃b a cap l,e=.returned (.pointer (some ⟨b,0,none⟩))/\w.heap.size<=b/\SB w' b 99 #[.bool (decide (z<0)),.slice a l.length cap]/\U32 w' a cap l z.natAbs)/\Below w.heap.size w w'
theorem Qbg(z:Int)(w:World)(h0:0<=z)(h1:z<1000000):
 Calls prog 53 #[.int .i64 z] w (IntNew w z):=by
 go_enter func53,ntmps53;go_wp2_with fail;refine(Qew w.heap.size 0 99 _ z _ (SB.new w 99 _) Tryz.int_zero (by simp) h0 h1).mono ?_;rintro e w2 ⟨rfl,a,cap,l,hl⟩;go_wp2;go_ret;exact⟨⟨w.heap.size,a,cap,l,rfl,Nat.le_refl _,hl.sb,hl.num⟩,Only.fresh ((Below.refl _ w).alloc lZ _) hl.only lZ⟩
theorem U32.drew{w:World}{a:Option Addr}{cap:Nat}{l:List Nat}{n:Nat}(h:U32 w a cap l n):U32 w.drew a cap l n:=h.below bR.drew
theorem Qhr(X:Int):X=if decide (X<0)=true then -(X.natAbs:Int) else (X.natAbs:Int):=by
 by_cases h:X<0
 . simp[h];omega
 . simp[h];omega
theorem Qcm(bz oz:Nat)(t:TypeId)(C:Array Value)(bx ox:Nat)(X:Int)(a:Option Addr)(cap:Nat)(l:List Nat)(w:World)(hs:SB w bz t C)(hn:NoInt C)(ho:oz+1<C.size)(hx:IntAt w bx ox X a cap l)(hne:bx≠bz):
 Calls prog 93 #[.pointer (some ⟨bz,oz,none⟩),.pointer (some ⟨bx,ox,none⟩)] w (LaidOk w bz oz t C X):=by
 have k0:=hx.neg;have k1:=hx.abs;have hlt:=hx.lt;obtain⟨HS,HN,HX⟩:=Ib hs hn hx.num;clear hs hn hx;go_enter func93,ntmps93;go_wp2;go_region_held3 (fun w'=>w'.cell? ⟨bx,ox,none⟩=some (.bool (decide (X<0)))/\w'.cell? ⟨bx,ox+1,none⟩=some (.slice a l.length cap)) ((simp [*]))
  (first
    |(go_at_call 132;refine(Qdb a cap l X.natAbs _ ?_).mono ?_;exact HX.o.drew;rintro e w1 ⟨⟨a1,cap1,rfl,hu1⟩,hb1⟩;have c0:=ce hb1 hlt k0;have c1:=ce hb1 hlt k1;have HU1:=Hi hu1;have HB1:=Hi ((Below.refl w.heap.size w).drew.trans hb1);clear hu1 hb1)
    |(go_at_call 106;refine(Qbt bz oz t C _ a1 cap1 l X.natAbs X _ ?_ HN.o ho HU1.o ?_).mono ?_;exact HS.o.below HB1.o HS.o.lt;exact Qhr X;rintro e w2 ⟨rfl,hl⟩;have d0:=(World.cell?_of_block (a:=⟨bx,ox,none⟩) (hl.only.block bx (Nat.lt_of_lt_of_le hlt HB1.o.size) hne)).trans c0;have d1:=(World.cell?_of_block (a:=⟨bx,ox+1,none⟩) (hl.only.block bx (Nat.lt_of_lt_of_le hlt HB1.o.size) hne)).trans c1;have HL:=Hi hl;clear hl))
 go_wp2;go_ret;exact LaidOk.of (Only.of_below HB1.o) ⟨rfl,_,_,_,HL.o⟩
def sgn(neg:Bool)(n:Nat):Int:=if neg then -(n:Int) else (n:Int)
theorem Qex(X:Int):sgn (decide (X<0)) X.natAbs=X:=(Qhr X).symm
theorem Qdn(neg:Bool)(n:Nat):(sgn neg n).natAbs=n:=by unfold sgn;split<;>omega
theorem Qhs(xn yn:Bool)(a1 a2:Option Addr)(c1 c2:Nat)(l m:List Nat)(x y:Nat)(w:World)(h1:U32 w a1 c1 l x)(h2:U32 w a2 c2 m y)(hl:l.length<1099511627776)(hm:m.length<1099511627776):
 Calls prog 144 #[.bool xn,.slice a1 l.length c1,.bool yn,.slice a2 m.length c2] w fun e w'=>(∃neg a cap r n,e=.returned (.tuple #[.bool neg,.slice a r.length cap])/\U32 w' a cap r n/\sgn neg n=sgn xn x+sgn yn y)/\Below w.heap.size w w':=by
 obtain⟨H1,H2⟩:=Ia h1 h2;clear h1 h2;by_cases hxy:xn=yn
 .
  subst hxy;have hq:(xn == xn)=true:=by simp
  go_enter func144,ntmps144;go_wp2_with fail;refine(Qgt a1 a2 c1 c2 l m x y _ H1.o H2.o hl hm).mono ?_;rintro e w1 ⟨⟨a,cap,r,rfl,hu⟩,hb⟩;go_wp2;go_ret2;exact⟨⟨xn,a,cap,r,x+y,rfl,hu,by unfold sgn;split<;>omega⟩,hb⟩
 .
  have hq:(xn == yn)=false:=by simp[hxy]
  by_cases hc:cmp3 x y<0
  .
   have hlt:=(Qav x y).1 hc;have HXY:=Hi hxy;have hc':¬(0<=cmp3 x y):=by omega
   clear hxy hc;go_enter func144,ntmps144;go_wp2_with fail;refine(Qba a1 a2 c1 c2 l m x y _ H1.o H2.o).mono ?_;rintro e w1 ⟨rfl,hb1⟩;go_wp2_with fail;refine(Qgx a2 a1 c2 c1 m l y x _ (H2.o.below hb1) (H1.o.below hb1) (by omega)).mono ?_;rintro e w2 ⟨⟨a,cap,r,rfl,hu⟩,hb⟩;go_wp2;go_ret2;refine⟨⟨yn,a,cap,r,y - x,rfl,hu,?_⟩,hb1.trans (hb.mono hb1.size)⟩;have:=HXY.o;unfold sgn;cases xn<;>cases yn<;>simp at this ⊢ <;>omega
  .
   have hle:y<=x:=by have:=(Qav x y);omega
   have HXY:=Hi hxy;have hc':0<=cmp3 x y:=by omega
   clear hxy hc;go_enter func144,ntmps144;go_wp2_with fail;refine(Qba a1 a2 c1 c2 l m x y _ H1.o H2.o).mono ?_;rintro e w1 ⟨rfl,hb1⟩;go_wp2_with fail;refine(Qgx a1 a2 c1 c2 l m x y _ (H1.o.below hb1) (H2.o.below hb1) hle).mono ?_;rintro e w2 ⟨⟨a,cap,r,rfl,hu⟩,hb⟩;go_wp2;go_ret2;refine⟨⟨xn,a,cap,r,x - y,rfl,hu,?_⟩,hb1.trans (hb.mono hb1.size)⟩;have:=HXY.o;unfold sgn;cases xn<;>cases yn<;>simp at this ⊢ <;>omega
theorem Qht{neg:Bool}{n:Nat}{Z:Int}(h:sgn neg n=Z):Z=if neg=true then -(n:Int) else (n:Int):=by
 rw[<-h];unfold sgn;cases neg<;>rfl
theorem Qon(X Y:Int):sgn (decide (X<0)) X.natAbs+sgn (!decide (Y<0)) Y.natAbs=X - Y:=by
 rw[Qex];unfold sgn;by_cases h:Y<0
 . simp[h];omega
 . simp[h];omega
theorem Qoo(X Y:Int):X*Y=if (decide (X<0) != decide (Y<0))=true then -((X.natAbs*Y.natAbs:Nat):Int) else ((X.natAbs*Y.natAbs:Nat):Int):=by
 rw[Int.natCast_mul];by_cases h:X<0
 .
  by_cases k:Y<0
  . rw[if_neg (by simp[h,k]),show ((X.natAbs:Nat):Int)= -X from by omega,show ((Y.natAbs:Nat):Int)= -Y from by omega,Int.neg_mul_neg]
  . rw[if_pos (by simp[h,k]),show ((X.natAbs:Nat):Int)= -X from by omega,show ((Y.natAbs:Nat):Int)=Y from by omega,Int.neg_mul,Int.neg_neg]
 .
  by_cases k:Y<0
  . rw[if_pos (by simp[h,k]),show ((X.natAbs:Nat):Int)=X from by omega,show ((Y.natAbs:Nat):Int)= -Y from by omega,Int.mul_neg,Int.neg_neg]
  . rw[if_neg (by simp[h,k]),show ((X.natAbs:Nat):Int)=X from by omega,show ((Y.natAbs:Nat):Int)=Y from by omega]
theorem Qop(bz oz:Nat)(t:TypeId)(C:Array Value)(bx ox:Nat)(X:Int)(a:Option Addr)(cap:Nat)(l:List Nat)(bv ov:Nat)(Y:Int)(b:Option Addr)(cap':Nat)(m:List Nat)(w:World)(hs:SB w bz t C)(hn:NoInt C)(ho:oz+1<C.size)(hx:IntAt w bx ox X a cap l)(hy:IntAt w bv ov Y b cap' m)(hne:bx≠bz)(hne':bv≠bz)(hlm:l.length+m.length<1099511627770):
 Calls prog 113 #[.pointer (some ⟨bz,oz,none⟩),.pointer (some ⟨bx,ox,none⟩),.pointer (some ⟨bv,ov,none⟩)] w (LaidOk w bz oz t C (X+Y)):=by
 have k0:=hx.neg;have k1:=hx.abs;have j0:=hy.neg;have j1:=hy.abs;have hlt:=hx.lt;have hlt':=hy.lt;obtain⟨HS,HN,HX,HY⟩:=Ic hs hn hx.num hy.num;clear hs hn hx hy;go_enter func113,ntmps113;go_wp2;go_region_held3 (fun w'=>w'.cell? ⟨bx,ox,none⟩=some (.bool (decide (X<0)))/\w'.cell? ⟨bx,ox+1,none⟩=some (.slice a l.length cap)/\w'.cell? ⟨bv,ov,none⟩=some (.bool (decide (Y<0)))/\w'.cell? ⟨bv,ov+1,none⟩=some (.slice b m.length cap')) ((simp [*]))
  (first
    |(go_at_call 144;refine(Qhs (decide (X<0)) (decide (Y<0)) a b cap cap' l m X.natAbs Y.natAbs _ ?_ ?_ ?_ ?_).mono ?_;exact HX.o.drew;exact HY.o.drew;omega;omega;rintro e w1 ⟨⟨neg1,a1,cap1,r1,n1,rfl,hu1,hz1⟩,hb1⟩;have HZ1:=Hi hz1;clear hz1;have c0:=ce hb1 hlt k0;have c1:=ce hb1 hlt k1;have c2:=ce hb1 hlt' j0;have c3:=ce hb1 hlt' j1;have HU1:=Hi hu1;have HB1:=Hi ((Below.refl w.heap.size w).drew.trans hb1);clear hu1 hb1)
    |(go_at_call 106;refine(Qbt bz oz t C _ a1 cap1 r1 n1 (X+Y) _ ?_ HN.o ho HU1.o ?_).mono ?_;exact HS.o.below HB1.o HS.o.lt;exact Qht (HZ1.o.trans (by rw[Qex,Qex]));rintro e w2 ⟨rfl,hl⟩;have d0:=(World.cell?_of_block (a:=⟨bx,ox,none⟩) (hl.only.block bx (Nat.lt_of_lt_of_le hlt HB1.o.size) hne)).trans c0;have d1:=(World.cell?_of_block (a:=⟨bx,ox+1,none⟩) (hl.only.block bx (Nat.lt_of_lt_of_le hlt HB1.o.size) hne)).trans c1;have d2:=(World.cell?_of_block (a:=⟨bv,ov,none⟩) (hl.only.block bv (Nat.lt_of_lt_of_le hlt' HB1.o.size) hne')).trans c2;have d3:=(World.cell?_of_block (a:=⟨bv,ov+1,none⟩) (hl.only.block bv (Nat.lt_of_lt_of_le hlt' HB1.o.size) hne')).trans c3;have HL:=Hi hl;clear hl))
 go_wp2;go_ret;exact LaidOk.of (Only.of_below HB1.o) ⟨rfl,_,_,_,HL.o⟩
theorem Qoq(bz oz:Nat)(t:TypeId)(C:Array Value)(bx ox:Nat)(X:Int)(a:Option Addr)(cap:Nat)(l:List Nat)(bv ov:Nat)(Y:Int)(b:Option Addr)(cap':Nat)(m:List Nat)(w:World)(hs:SB w bz t C)(hn:NoInt C)(ho:oz+1<C.size)(hx:IntAt w bx ox X a cap l)(hy:IntAt w bv ov Y b cap' m)(hne:bx≠bz)(hne':bv≠bz)(hlm:l.length+m.length<1099511627770):
 Calls prog 112 #[.pointer (some ⟨bz,oz,none⟩),.pointer (some ⟨bx,ox,none⟩),.pointer (some ⟨bv,ov,none⟩)] w (LaidOk w bz oz t C (X - Y)):=by
 have k0:=hx.neg;have k1:=hx.abs;have j0:=hy.neg;have j1:=hy.abs;have hlt:=hx.lt;have hlt':=hy.lt;obtain⟨HS,HN,HX,HY⟩:=Ic hs hn hx.num hy.num;clear hs hn hx hy;go_enter func112,ntmps112;go_wp2;go_region_held3 (fun w'=>w'.cell? ⟨bx,ox,none⟩=some (.bool (decide (X<0)))/\w'.cell? ⟨bx,ox+1,none⟩=some (.slice a l.length cap)/\w'.cell? ⟨bv,ov,none⟩=some (.bool (decide (Y<0)))/\w'.cell? ⟨bv,ov+1,none⟩=some (.slice b m.length cap')) ((simp [*]))
  (first
    |(go_at_call 144;refine(Qhs (decide (X<0)) (!decide (Y<0)) a b cap cap' l m X.natAbs Y.natAbs _ ?_ ?_ ?_ ?_).mono ?_;exact HX.o.drew;exact HY.o.drew;omega;omega;rintro e w1 ⟨⟨neg1,a1,cap1,r1,n1,rfl,hu1,hz1⟩,hb1⟩;have HZ1:=Hi hz1;clear hz1;have c0:=ce hb1 hlt k0;have c1:=ce hb1 hlt k1;have c2:=ce hb1 hlt' j0;have c3:=ce hb1 hlt' j1;have HU1:=Hi hu1;have HB1:=Hi ((Below.refl w.heap.size w).drew.trans hb1);clear hu1 hb1)
    |(go_at_call 106;refine(Qbt bz oz t C _ a1 cap1 r1 n1 (X - Y) _ ?_ HN.o ho HU1.o ?_).mono ?_;exact HS.o.below HB1.o HS.o.lt;exact Qht (HZ1.o.trans (Qon X Y));rintro e w2 ⟨rfl,hl⟩;have d0:=(World.cell?_of_block (a:=⟨bx,ox,none⟩) (hl.only.block bx (Nat.lt_of_lt_of_le hlt HB1.o.size) hne)).trans c0;have d1:=(World.cell?_of_block (a:=⟨bx,ox+1,none⟩) (hl.only.block bx (Nat.lt_of_lt_of_le hlt HB1.o.size) hne)).trans c1;have d2:=(World.cell?_of_block (a:=⟨bv,ov,none⟩) (hl.only.block bv (Nat.lt_of_lt_of_le hlt' HB1.o.size) hne')).trans c2;have d3:=(World.cell?_of_block (a:=⟨bv,ov+1,none⟩) (hl.only.block bv (Nat.lt_of_lt_of_le hlt' HB1.o.size) hne')).trans c3;have HL:=Hi hl;clear hl))
 go_wp2;go_ret;exact LaidOk.of (Only.of_below HB1.o) ⟨rfl,_,_,_,HL.o⟩
theorem Qor(bz oz:Nat)(t:TypeId)(C:Array Value)(bx ox:Nat)(X:Int)(a:Option Addr)(cap:Nat)(l:List Nat)(bv ov:Nat)(Y:Int)(b:Option Addr)(cap':Nat)(m:List Nat)(w:World)(hs:SB w bz t C)(hn:NoInt C)(ho:oz+1<C.size)(hx:IntAt w bx ox X a cap l)(hy:IntAt w bv ov Y b cap' m)(hne:bx≠bz)(hne':bv≠bz)(hlm:l.length+m.length<1099511627770):
 Calls prog 59 #[.pointer (some ⟨bz,oz,none⟩),.pointer (some ⟨bx,ox,none⟩),.pointer (some ⟨bv,ov,none⟩)] w (LaidOk w bz oz t C (X*Y)):=by
 have k0:=hx.neg;have k1:=hx.abs;have j0:=hy.neg;have j1:=hy.abs;have hlt:=hx.lt;have hlt':=hy.lt;obtain⟨HS,HN,HX,HY⟩:=Ic hs hn hx.num hy.num;clear hs hn hx hy;go_enter func59,ntmps59;go_wp2;go_region_held3 (fun w'=>w'.cell? ⟨bx,ox,none⟩=some (.bool (decide (X<0)))/\w'.cell? ⟨bx,ox+1,none⟩=some (.slice a l.length cap)/\w'.cell? ⟨bv,ov,none⟩=some (.bool (decide (Y<0)))/\w'.cell? ⟨bv,ov+1,none⟩=some (.slice b m.length cap')) ((simp [*]))
  (first
    |(go_at_call 104;refine(Qgv a b cap cap' l m X.natAbs Y.natAbs _ ?_ ?_ ?_).mono ?_;exact HX.o.drew;exact HY.o.drew;omega;rintro e w1 ⟨⟨a1,cap1,r1,rfl,hu1⟩,hb1⟩;obtain⟨n1,hn1⟩:=nm (X.natAbs*Y.natAbs);rw[hn1] at hu1;have HZ1:=Hi hn1;clear hn1;have c0:=ce hb1 hlt k0;have c1:=ce hb1 hlt k1;have c2:=ce hb1 hlt' j0;have c3:=ce hb1 hlt' j1;have HU1:=Hi hu1;have HB1:=Hi ((Below.refl w.heap.size w).drew.trans hb1);clear hu1 hb1)
    |(go_at_call 106;refine(Qbt bz oz t C _ a1 cap1 r1 n1 (X*Y) _ ?_ HN.o ho HU1.o ?_).mono ?_;exact HS.o.below HB1.o HS.o.lt;exact(by rw[<-HZ1.o];exact Qoo X Y);rintro e w2 ⟨rfl,hl⟩;have d0:=(World.cell?_of_block (a:=⟨bx,ox,none⟩) (hl.only.block bx (Nat.lt_of_lt_of_le hlt HB1.o.size) hne)).trans c0;have d1:=(World.cell?_of_block (a:=⟨bx,ox+1,none⟩) (hl.only.block bx (Nat.lt_of_lt_of_le hlt HB1.o.size) hne)).trans c1;have d2:=(World.cell?_of_block (a:=⟨bv,ov,none⟩) (hl.only.block bv (Nat.lt_of_lt_of_le hlt' HB1.o.size) hne')).trans c2;have d3:=(World.cell?_of_block (a:=⟨bv,ov+1,none⟩) (hl.only.block bv (Nat.lt_of_lt_of_le hlt' HB1.o.size) hne')).trans c3;have HL:=Hi hl;clear hl))
 go_wp2;go_ret;exact LaidOk.of (Only.of_below HB1.o) ⟨rfl,_,_,_,HL.o⟩
end Go.Proofs.YtldjeecnapgakaaGreatDoor
