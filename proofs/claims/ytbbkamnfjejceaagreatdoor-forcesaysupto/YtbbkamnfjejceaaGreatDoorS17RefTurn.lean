/- rafterref's Turn. -/
import Derived.Test.YtbbkamnfjejceaaGreatDoorS16RefOf
namespace Go.Proofs.YtbbkamnfjejceaaGreatDoor
open Go.RowKit
set_option linter.unusedVariables false
set_option linter.unusedSimpArgs false
theorem RatOk.new{w w':World}{q:Rat}{e:Ending}(h:RatOk (w.alloc (.cells #[.bool false,.slice none 0 0,.bool false,.slice none 0 0] 98)) w.heap.size q e w'):NewRat w q e w':=
 ⟨⟨_,h.1,Nat.le_refl _,h.val⟩,Only.fresh ((Below.refl _ _).alloc (Nat.le_refl _) _) h.2.1 (Nat.le_refl _)⟩
theorem RatVal.alloc{w:World}{b:Nat}{q:Rat}(h:RatVal w b q)(o:Obj):RatVal (w.alloc o) b q:=h.below ((Below.refl _ _).alloc (Nat.le_refl _) _)
set_option maxHeartbeats 400000 in
theorem Qnx(bx bv j k:Nat)(p q:Rat)(w:World)(hx:RatVal w bx p)(hy:RatVal w bv q)(hp:Fits p j)(hq:Fits q k)(hj:j+k<274877906000):
 Calls Tryz.prog 17 #[.pointer (some ⟨bx,0,none⟩),.pointer (some ⟨bv,0,none⟩)] w (NewRat w (p+q)):=by
 have HC:=Hi (Qm8 w.heap.size bx bv j k p q _ (Qbv w) (hx.alloc _) (hy.alloc _) hp hq hj );clear hx hy hp hq hj;go_enter Tryz.func17,Tryz.ntmps17;go_wp2_with fail;refine HC.out.mono ?_;rintro e w1 hok;have HF:=Hi (RatOk.new hok);obtain⟨rfl,hon,hr⟩:=hok;clear hon hr HC;go_wp2;go_ret;exact HF.out
set_option maxHeartbeats 400000 in
theorem Qny(bx bv j k:Nat)(p q:Rat)(w:World)(hx:RatVal w bx p)(hy:RatVal w bv q)(hp:Fits p j)(hq:Fits q k)(hj:j+k<274877906000):
 Calls Tryz.prog 41 #[.pointer (some ⟨bx,0,none⟩),.pointer (some ⟨bv,0,none⟩)] w (NewRat w (p - q)):=by
 have HC:=Hi (Qm9 w.heap.size bx bv j k p q _ (Qbv w) (hx.alloc _) (hy.alloc _) hp hq hj );clear hx hy hp hq hj;go_enter Tryz.func41,Tryz.ntmps41;go_wp2_with fail;refine HC.out.mono ?_;rintro e w1 hok;have HF:=Hi (RatOk.new hok);obtain⟨rfl,hon,hr⟩:=hok;clear hon hr HC;go_wp2;go_ret;exact HF.out
set_option maxHeartbeats 400000 in
theorem Qnz(bx bv j k:Nat)(p q:Rat)(w:World)(hx:RatVal w bx p)(hy:RatVal w bv q)(hp:Fits p j)(hq:Fits q k)(hj:j+k<274877906000):
 Calls Tryz.prog 18 #[.pointer (some ⟨bx,0,none⟩),.pointer (some ⟨bv,0,none⟩)] w (NewRat w (p*q)):=by
 have HC:=Hi (Qnb w.heap.size bx bv j k p q _ (Qbv w) (hx.alloc _) (hy.alloc _) hp hq hj );clear hx hy hp hq hj;go_enter Tryz.func18,Tryz.ntmps18;go_wp2_with fail;refine HC.out.mono ?_;rintro e w1 hok;have HF:=Hi (RatOk.new hok);obtain⟨rfl,hon,hr⟩:=hok;clear hon hr HC;go_wp2;go_ret;exact HF.out
set_option maxHeartbeats 400000 in
theorem Qn0(bx bv j k:Nat)(p q:Rat)(w:World)(hx:RatVal w bx p)(hy:RatVal w bv q)(hp:Fits p j)(hq:Fits q k)(hj:j+k<274877906000)(hq0:0<q.num):
 Calls Tryz.prog 46 #[.pointer (some ⟨bx,0,none⟩),.pointer (some ⟨bv,0,none⟩)] w (NewRat w (p / q)):=by
 have HC:=Hi (Qnc w.heap.size bx bv j k p q _ (Qbv w) (hx.alloc _) (hy.alloc _) hp hq hj hq0);clear hx hy hp hq hj;go_enter Tryz.func46,Tryz.ntmps46;go_wp2_with fail;refine HC.out.mono ?_;rintro e w1 hok;have HF:=Hi (RatOk.new hok);obtain⟨rfl,hon,hr⟩:=hok;clear hon hr HC;go_wp2;go_ret;exact HF.out
set_option maxHeartbeats 400000 in
theorem Qn1(bx j:Nat)(p:Rat)(w:World)(hx:RatVal w bx p)(hp:Fits p j)(hj:j<274877906000):
 Calls Tryz.prog 47 #[.pointer (some ⟨bx,0,none⟩)] w (NewRat w (-p)):=by
 have HC:=Hi (Qed w.heap.size bx j p _ (Qbv w) (hx.alloc _) hp (by omega));clear hx hp hj;go_enter Tryz.func47,Tryz.ntmps47;go_wp2_with fail;refine HC.out.mono ?_;rintro e w1 hok;have HF:=Hi (RatOk.new hok);obtain⟨rfl,hon,hr⟩:=hok;clear hon hr HC;go_wp2;go_ret;exact HF.out
set_option maxHeartbeats 400000 in
theorem ref_N(x:Nat)(w:World)(hx:x<1000000):
 Calls Tryz.prog 40 #[.int .i64 x] w (NewRat w (x:Rat)):=by
 have HC:=Hi (Qnq w.heap.size x _ (Qbv w) hx);go_enter Tryz.func40,Tryz.ntmps40;go_wp2_with fail;refine HC.out.mono ?_;rintro e w1 hok;have HF:=Hi (RatOk.new hok);obtain⟨rfl,hon,hr⟩:=hok;clear hon hr HC;go_wp2;go_ret;exact HF.out
theorem Qbc{a b j k:Nat}(ha:a<2 ^ j)(hb:b<2 ^ k):a*b<2 ^ (j+k):=by rw[Nat.pow_add];exact Nat.mul_lt_mul'' ha hb
theorem Fits.mul{p q:Rat}{j k:Nat}(h:Fits p j)(h':Fits q k)(hj:0<j):Fits (p*q) (j+k):=by
 rw[←Qec];refine Fits.mk ?_ ?_ (by omega)
 · rw[Int.natAbs_mul];exact Qbc h.1 h'.1
 · rw[Int.natAbs_mul];exact Qbc h.2 h'.2
theorem Fits.add{p q:Rat}{j k:Nat}(h:Fits p j)(h':Fits q k):Fits (p+q) (j+k+1):=by
 rw[←Qc1];have e1:=Qbc h.1 h'.2;have e2:=Qbc h'.1 h.2;have e3:(2:Nat) ^ (j+k+1)=2 ^ (j+k)*2:=Nat.pow_succ _ _;rw[Nat.add_comm k j] at e2;refine Fits.mk ?_ ?_ (by omega)
 ·
  have h1:=Int.natAbs_add_le (p.num*(q.den:Int)) (q.num*(p.den:Int));rw[Int.natAbs_mul,Int.natAbs_mul,Int.natAbs_natCast,Int.natAbs_natCast] at h1;omega
 ·
  rw[Int.natAbs_mul,Int.natAbs_natCast,Int.natAbs_natCast];have:=Qbc h.2 h'.2;omega
theorem Fits.sub{p q:Rat}{j k:Nat}(h:Fits p j)(h':Fits q k):Fits (p - q) (j+k+1):=by
 rw[Rat.sub_eq_add_neg];exact h.add h'.neg
theorem Fits.quo{p q:Rat}{j k:Nat}(h:Fits p j)(h':Fits q k)(hj:0<j)(hq:0<q.num):Fits (p / q) (j+k):=by
 rw[←Qha p q hq];refine Fits.mk ?_ ?_ (by omega)
 · rw[Int.natAbs_mul];exact Qbc h.1 h'.2
 · rw[Int.natAbs_mul];exact Qbc h.2 h'.1
structure RBag (w0 w:World) (L:List (Nat × Rat × Nat)):Prop where
 base:Below w0.heap.size w0 w
 glob:∃m,w.cell? ⟨4,0,none⟩=some (.int .i64 m)
 ts:∀t,t∈ L→RatVal w t.1 t.2.1∧Fits t.2.1 t.2.2∧0<t.2.2
theorem RBag.start{w:World}(h:∃m,w.cell? ⟨4,0,none⟩=some (.int .i64 m)):RBag w w []:=⟨Below.refl _ _,h,fun t ht=>by cases ht⟩
theorem RBag.below{w0 w w':World}{L:List (Nat × Rat × Nat)}(h:RBag w0 w L)(hb:Below w.heap.size w w'):RBag w0 w' L:=by
 refine⟨h.base.trans (hb.mono h.base.size),?_,fun t ht=>⟨(h.ts t ht).1.below hb,(h.ts t ht).2⟩⟩;obtain⟨m,hm⟩:=h.glob;exact⟨m,(hb.cell (p:=⟨4,0,none⟩) (World.block_lt_of_cell? _ _ hm)).trans hm⟩
theorem RBag.drew{w0 w:World}{L:List (Nat × Rat × Nat)}(h:RBag w0 w L):RBag w0 w.drew L:=h.below (Below.refl _ _).drew
theorem RBag.alloc{w0 w:World}{L:List (Nat × Rat × Nat)}(h:RBag w0 w L)(o:Obj):RBag w0 (w.alloc o) L:=h.below ((Below.refl _ _).alloc (Nat.le_refl _) _)
theorem RBag.put{w0 w:World}{L:List (Nat × Rat × Nat)}{b k:Nat}{q:Rat}(h:RBag w0 w L)(hv:RatVal w b q)(hf:Fits q k)(hk:0<k):RBag w0 w ((b,q,k) :: L):=
 ⟨h.base,h.glob,fun t ht=>by
   rcases List.mem_cons.1 ht with rfl|ht
   · exact⟨hv,hf,hk⟩
   · exact h.ts t ht⟩
theorem RBag.rebase{w0 w:World}{L:List (Nat × Rat × Nat)}(h:RBag w0 w L):RBag w w L:=⟨Below.refl _ _,h.glob,h.ts⟩
def RNew(w0:World)(L:List (Nat × Rat × Nat))(q:Rat)(k:Nat)(e:Ending)(w':World):Prop:=∃b,e=.returned (.pointer (some ⟨b,0,none⟩))∧RBag w0 w' ((b,q,k) :: L)
theorem RBag.new{w0 w w':World}{L:List (Nat × Rat × Nat)}{q:Rat}{k:Nat}{e:Ending}(h:RBag w0 w L)(hn:NewRat w q e w')(hf:Fits q k)(hk:0<k):RNew w0 L q k e w':=by
 obtain⟨⟨b,he,_,hv⟩,hb⟩:=hn;exact⟨b,he,(h.below hb).put hv hf hk⟩
theorem RBag.add{w0 w:World}{L:List (Nat × Rat × Nat)}{bx bv j k:Nat}{p q:Rat}(h:RBag w0 w L)(hx:(bx,p,j)∈ L)(hy:(bv,q,k)∈ L)(hj:j+k<274877906000):
 Calls Tryz.prog 17 #[.pointer (some ⟨bx,0,none⟩),.pointer (some ⟨bv,0,none⟩)] w (RNew w0 L (p+q) (j+k+1)):=by
 have a:=h.ts _ hx;have b:=h.ts _ hy;exact(Qnx bx bv j k p q w a.1 b.1 a.2.1 b.2.1 hj).mono fun e w' hn=>h.new hn (a.2.1.add b.2.1) (by omega)
theorem RBag.sub{w0 w:World}{L:List (Nat × Rat × Nat)}{bx bv j k:Nat}{p q:Rat}(h:RBag w0 w L)(hx:(bx,p,j)∈ L)(hy:(bv,q,k)∈ L)(hj:j+k<274877906000):
 Calls Tryz.prog 41 #[.pointer (some ⟨bx,0,none⟩),.pointer (some ⟨bv,0,none⟩)] w (RNew w0 L (p - q) (j+k+1)):=by
 have a:=h.ts _ hx;have b:=h.ts _ hy;exact(Qny bx bv j k p q w a.1 b.1 a.2.1 b.2.1 hj).mono fun e w' hn=>h.new hn (a.2.1.sub b.2.1) (by omega)
theorem RBag.mul{w0 w:World}{L:List (Nat × Rat × Nat)}{bx bv j k:Nat}{p q:Rat}(h:RBag w0 w L)(hx:(bx,p,j)∈ L)(hy:(bv,q,k)∈ L)(hj:j+k<274877906000):
 Calls Tryz.prog 18 #[.pointer (some ⟨bx,0,none⟩),.pointer (some ⟨bv,0,none⟩)] w (RNew w0 L (p*q) (j+k)):=by
 have a:=h.ts _ hx;have b:=h.ts _ hy;have hp:0<j:=a.2.2;exact(Qnz bx bv j k p q w a.1 b.1 a.2.1 b.2.1 hj).mono fun e w' hn=>h.new hn (a.2.1.mul b.2.1 hp) (by omega)
theorem RBag.quo{w0 w:World}{L:List (Nat × Rat × Nat)}{bx bv j k:Nat}{p q:Rat}(h:RBag w0 w L)(hx:(bx,p,j)∈ L)(hy:(bv,q,k)∈ L)(hj:j+k<274877906000)(hq:0<q.num):
 Calls Tryz.prog 46 #[.pointer (some ⟨bx,0,none⟩),.pointer (some ⟨bv,0,none⟩)] w (RNew w0 L (p / q) (j+k)):=by
 have a:=h.ts _ hx;have b:=h.ts _ hy;have hp:0<j:=a.2.2;exact(Qn0 bx bv j k p q w a.1 b.1 a.2.1 b.2.1 hj hq).mono fun e w' hn=>h.new hn (a.2.1.quo b.2.1 hp hq) (by omega)
theorem RBag.neg{w0 w:World}{L:List (Nat × Rat × Nat)}{bx j:Nat}{p:Rat}(h:RBag w0 w L)(hx:(bx,p,j)∈ L)(hj:j<274877906000):
 Calls Tryz.prog 47 #[.pointer (some ⟨bx,0,none⟩)] w (RNew w0 L (-p) j):=by
 have a:=h.ts _ hx;exact(Qn1 bx j p w a.1 a.2.1 hj).mono fun e w' hn=>h.new hn a.2.1.neg a.2.2
theorem RBag.nought{w0 w:World}{L:List (Nat × Rat × Nat)}(h:RBag w0 w L):
 Calls Tryz.prog 40 #[.int .i64 0] w (RNew w0 L 0 1):=
 (ref_N 0 w (by decide)).mono fun e w' hn=>h.new hn Fits.zero (by decide)
theorem RBag.of{w0 w:World}{L:List (Nat × Rat × Nat)}{n:Nat}(s:ByteArray)(h:RBag w0 w L)(hs:s.size≤n)(hn:n≤1073741824):
 Calls Tryz.prog 19 #[.string s] w fun e w'=>∃q,QOf s.data.toList q∧RNew w0 L q (4*n+1) e w':=by
 obtain⟨m,hm⟩:=h.glob;refine(Qnw s m w hm (by omega)).mono ?_;rintro e w' ⟨q,hq,hk⟩;exact⟨q,hq,h.new hk (hq.fits (by simpa using hs)) (by omega)⟩
theorem RBag.text{w0 w:World}{L:List (Nat × Rat × Nat)}{bx j:Nat}{p:Rat}(h:RBag w0 w L)(hx:(bx,p,j)∈ L)(hj:j<274877906000):
 Calls Tryz.prog 15 #[.pointer (some ⟨bx,0,none⟩)] w fun e w'=>(∃s,e=.returned (.string s)∧QText s.data.toList p)∧RBag w0 w' L:=by
 have a:=h.ts _ hx;exact(ref_T bx j p w a.1 a.2.1 (by omega)).mono fun e w' hn=>⟨hn.1,h.below hn.2⟩
structure F4 where
 ax:ByteArray
 ay:ByteArray
 wx:ByteArray
 wy:ByteArray
structure FRow (w:World) (a:Option Addr) (cap:Nat) (fs:List F4):Prop where
 fit:fs.length≤cap
 cell:∀i f,fs[i]?=some f→∃b off,a=some ⟨b,off,none⟩∧b<w.heap.size∧w.cell? ⟨b,off+i*4,none⟩=some (.string f.ax)∧w.cell? ⟨b,off+i*4+1,none⟩=some (.string f.ay)∧w.cell? ⟨b,off+i*4+2,none⟩=some (.string f.wx)∧w.cell? ⟨b,off+i*4+3,none⟩=some (.string f.wy)
theorem FRow.below{w w':World}{a:Option Addr}{cap:Nat}{fs:List F4}(h:FRow w a cap fs)(hb:Below w.heap.size w w'):FRow w' a cap fs:=by
 refine⟨h.fit,fun i f hi=>?_⟩;obtain⟨b,off,h1,h2,h3,h4,h5,h6⟩:=h.cell i f hi;exact⟨b,off,h1,by have:=hb.size;omega,(hb.cell (p:=⟨b,off+i*4,none⟩) h2).trans h3,(hb.cell (p:=⟨b,off+i*4+1,none⟩) h2).trans h4,(hb.cell (p:=⟨b,off+i*4+2,none⟩) h2).trans h5,(hb.cell (p:=⟨b,off+i*4+3,none⟩) h2).trans h6⟩
structure Q4 (f:F4) (px py wx wy:Rat):Prop where
 ax:QOf f.ax.data.toList px
 ay:QOf f.ay.data.toList py
 wx:QOf f.wx.data.toList wx
 wy:QOf f.wy.data.toList wy
def Sums.Step(ox oy:Rat)(P:List F4→Rat→Rat→Rat→Prop)(fs:List F4)(x y t px py wx wy:Rat)(f:F4):Prop:=
 P fs x y t→Q4 f px py wx wy→P (fs++ [f]) (x+wx) (y+wy) (t+((px - ox)*wy - (py - oy)*wx))
def Sums(ox oy:Rat)(fs:List F4)(x y t:Rat):Prop:=
 ∀P:List F4→Rat→Rat→Rat→Prop,P [] 0 0 0→(∀(fs:List F4) (x y t px py wx wy:Rat) (f:F4),Sums.Step ox oy P fs x y t px py wx wy f)→P fs x y t
theorem Sums.nil{ox oy:Rat}:Sums ox oy [] 0 0 0:=fun _ h _=>h
theorem Sums.snoc{ox oy:Rat}{fs:List F4}{x y t px py wx wy:Rat}{f:F4}(h:Sums ox oy fs x y t)(k:Q4 f px py wx wy):Sums ox oy (fs++ [f]) (x+wx) (y+wy) (t+((px - ox)*wy - (py - oy)*wx)):=
 fun P h0 h1=>h1 _ _ _ _ _ _ _ _ _ (h P h0 h1) k
theorem Sums.ind{ox oy:Rat}{P:List F4→Rat→Rat→Rat→Prop}{fs:List F4}{x y t:Rat}(h:Sums ox oy fs x y t)(nil:P [] 0 0 0)
 (snoc:∀(fs:List F4) (x y t px py wx wy:Rat) (f:F4),Sums ox oy fs x y t→Q4 f px py wx wy→P fs x y t→P (fs++ [f]) (x+wx) (y+wy) (t+((px - ox)*wy - (py - oy)*wx))):P fs x y t:=
 (h (fun fs x y t=>Sums ox oy fs x y t∧P fs x y t) ⟨Sums.nil,nil⟩ fun _ _ _ _ _ _ _ _ _ hp hq=>⟨hp.1.snoc hq,snoc _ _ _ _ _ _ _ _ _ hp.1 hq hp.2⟩).2
theorem RBag.mono{w0 w1 w:World}{L M:List (Nat × Rat × Nat)}(h:RBag w1 w L)(hb:Below w0.heap.size w0 w1)(hm:∀t,t∈ M→∃k,(t.1,t.2.1,k)∈ L∧k≤t.2.2):RBag w0 w M:=by
 refine⟨hb.trans (h.base.mono hb.size),h.glob,fun t ht=>?_⟩;obtain⟨k,hk,hle⟩:=hm t ht;have:=h.ts _ hk;exact⟨this.1,this.2.1.mono hle,Nat.lt_of_lt_of_le this.2.2 hle⟩
theorem Qej(fs:List F4)(k:Nat)(f:F4)(h:fs[k]?=some f):fs.take (k+1)=fs.take k++ [f]:=by
 obtain⟨hk,rfl⟩:=List.getElem?_eq_some_iff.1 h;exact List.take_succ_eq_append_getElem hk
set_option maxRecDepth 100000 in
set_option maxHeartbeats 4000000 in
theorem Qek(a:Option Addr)(cap n:Nat)(fs:List F4)(sx sy:ByteArray)(ox oy:Rat)(w:World)(hg:∃m,w.cell? ⟨4,0,none⟩=some (.int .i64 m))(hf:FRow w a cap fs)(hl:fs.length≤60)
 (hn:n≤1048576) (hs:∀f,f∈ fs→f.ax.size≤n∧f.ay.size≤n∧f.wx.size≤n∧f.wy.size≤n) (hsx:sx.size≤n) (hsy:sy.size≤n) (hox:QOf sx.data.toList ox) (hoy:QOf sy.data.toList oy):
 Calls Tryz.prog 13 #[.slice a fs.length cap,.agg #[.string sx,.string sy]] w fun e w'=>∃b1 b2 b3 x y t,e=.returned (.tuple #[.pointer (some ⟨b1,0,none⟩),.pointer (some ⟨b2,0,none⟩),.pointer (some ⟨b3,0,none⟩)])∧Sums ox oy fs x y t∧RBag w w' [(b1,x,60*(25*n+20)+1),(b2,y,60*(25*n+20)+1),(b3,t,60*(25*n+20)+1)]:=by
 have HF:=Hi hf;have HB:=Hi (RBag.start hg);have HS:=Hi hs;have HOX:=Hi hox;have HOY:=Hi hoy;clear hf hg hs hox hoy;go_enter Tryz.func13,Tryz.ntmps13;go_wp2_with fail;refine(RBag.nought (HB.out.alloc _).rebase).mono ?_;rintro e w1 ⟨b1,rfl,hb1⟩;have HB1:=Hi hb1;clear hb1;go_wp2_with fail;refine(RBag.nought HB1.out).mono ?_;rintro e w2 ⟨b2,rfl,hb2⟩;have HB2:=Hi hb2;clear hb2;go_wp2_with fail;refine(RBag.nought HB2.out).mono ?_;rintro e w3 ⟨b3,rfl,hb3⟩;have HB3:=Hi hb3;clear hb3;go_wp2_with fail;go_loopw [4,5,6,16] (fun xv yv tv iv wr=>∃(k b1 b2 b3:Nat) (x y t:Rat),k≤fs.length∧iv=.int .i64 k∧xv=.pointer (some ⟨b1,0,none⟩)∧yv=.pointer (some ⟨b2,0,none⟩)∧tv=.pointer (some ⟨b3,0,none⟩)∧Sums ox oy (fs.take k) x y t∧RBag (w.alloc (Obj.cells #[Value.string sx,Value.string sy] 25)) wr [(b1,x,k*(25*n+20)+1),(b2,y,k*(25*n+20)+1),(b3,t,k*(25*n+20)+1)]) (fun _ _ _ iv _=>fs.length - (intOf iv).toNat)
 case atStart=>exact⟨0,b1,b2,b3,0,0,0,by omega,rfl,rfl,rfl,rfl,Sums.nil,by
  refine HB3.out.mono (Below.refl _ _) ?_;intro t ht;simp only[List.mem_cons,List.not_mem_nil,or_false] at ht;rcases ht with rfl|rfl|rfl
  · exact⟨1,by simp,by simp⟩
  · exact⟨1,by simp,by simp⟩
  · exact⟨1,by simp,by simp⟩⟩
 case round=>
  obtain⟨k,b1,b2,b3,x,y,t,hk,rfl,rfl,rfl,rfl,hsum,hbag⟩:=hrel;have HSU:=Hi hsum;have HB:=Hi hbag;clear hsum hbag;by_cases hlt:k<fs.length
  ·
   obtain⟨f,hf⟩:∃f,fs[k]?=some f:=⟨fs[k],List.getElem?_eq_getElem hlt⟩;obtain⟨fb,off,rfl,hfb,c0,c1,c2,c3⟩:=(HF.out.below (((Below.refl _ _).alloc (Nat.le_refl _) _).trans (HB.out.base.mono (by simp)))).cell k f hf;have hz:=HS.out f (List.mem_of_getElem? hf);have hn':n≤1073741824:=by omega
   have HFK:=Hi hf;have HKC:=Hi (show (k+1)*(25*n+20)=k*(25*n+20)+(25*n+20) from Nat.succ_mul _ _);have hKB:k*(25*n+20)≤60*26214420:=Nat.mul_le_mul (by omega) (by omega);go_wp2_with fail;generalize hwR:wr.alloc _=wR;have hsb:SB wR wr.heap.size 29 #[.string f.ax,.string f.ay,.string f.wx,.string f.wy]:=by rw[←hwR];exact SB.new wr _ _
   have hbR:Below wr.heap.size wr wR:=by rw[←hwR];exact(Below.refl _ _).alloc (Nat.le_refl _) _
   have HR:=Hi (HB.out.below hbR).rebase;have HBR:=Hi (HB.out.below hbR).base;have hltR:=hsb.lt;have hltW:w.heap.size<wR.heap.size:=by have:=HB.out.base.size;have:=hbR.size;simp at *;omega
   have HC0:=Hi (hsb.cell 0);have HC1:=Hi (hsb.cell 1);have HC2:=Hi (hsb.cell 2);have HC3:=Hi (hsb.cell 3);have HC4:Hid (wR.cell? ⟨w.heap.size,0,none⟩=some (.string sx)):=Hi ((HBR.out.cell (p:=⟨w.heap.size,0,none⟩) (by simp)).trans ((SB.new w _ _).cell 0));have HC5:Hid (wR.cell? ⟨w.heap.size,1,none⟩=some (.string sy)):=Hi ((HBR.out.cell (p:=⟨w.heap.size,1,none⟩) (by simp)).trans ((SB.new w _ _).cell 1));clear hsb hbR hwR c0 c1 c2 c3;have d0:=(HR.out.base.cell (p:=⟨wr.heap.size,0,none⟩) hltR).trans HC0.out;have d1:=(HR.out.base.cell (p:=⟨wr.heap.size,1,none⟩) hltR).trans HC1.out;have d2:=(HR.out.base.cell (p:=⟨wr.heap.size,2,none⟩) hltR).trans HC2.out;have d3:=(HR.out.base.cell (p:=⟨wr.heap.size,3,none⟩) hltR).trans HC3.out;have d4:=(HR.out.base.cell (p:=⟨w.heap.size,0,none⟩) hltW).trans HC4.out;have d5:=(HR.out.base.cell (p:=⟨w.heap.size,1,none⟩) hltW).trans HC5.out
   obtain⟨KC,hKC⟩:∃KC,k*(25*n+20)=KC:=⟨_,rfl⟩;rw[hKC] at HR HKC hKB;have HKE:=Hi hKC;clear hKC;go_region_held3 (fun w'=>w'.cell? ⟨wr.heap.size,2,none⟩=some (.string f.wx)∧w'.cell? ⟨wr.heap.size,3,none⟩=some (.string f.wy)) ((simp [*])) (first
    |
     (go_at_call_of 19 (Value.string f.wx)
      apply Calls.mono;apply RBag.of (w0:=wR) (n:=n);(focus(first|exact HR.out|exact HR.out.drew));omega;omega;rintro e wn ⟨wx,hq,bq,rfl,hbag⟩;have HWX:=Hi hq;clear HR;have HR:=Hi hbag;clear hq hbag;have d0:=(HR.out.base.cell (p:=⟨wr.heap.size,0,none⟩) hltR).trans HC0.out;have d1:=(HR.out.base.cell (p:=⟨wr.heap.size,1,none⟩) hltR).trans HC1.out;have d2:=(HR.out.base.cell (p:=⟨wr.heap.size,2,none⟩) hltR).trans HC2.out;have d3:=(HR.out.base.cell (p:=⟨wr.heap.size,3,none⟩) hltR).trans HC3.out;have d4:=(HR.out.base.cell (p:=⟨w.heap.size,0,none⟩) hltW).trans HC4.out;have d5:=(HR.out.base.cell (p:=⟨w.heap.size,1,none⟩) hltW).trans HC5.out
      skip)
    |
     (go_at_call_of 19 (Value.string f.wy)
      apply Calls.mono;apply RBag.of (w0:=wR) (n:=n);(focus(first|exact HR.out|exact HR.out.drew));omega;omega;rintro e wn ⟨wy,hq,bq,rfl,hbag⟩;have HWY:=Hi hq;clear HR;have HR:=Hi hbag;clear hq hbag;have d0:=(HR.out.base.cell (p:=⟨wr.heap.size,0,none⟩) hltR).trans HC0.out;have d1:=(HR.out.base.cell (p:=⟨wr.heap.size,1,none⟩) hltR).trans HC1.out;have d2:=(HR.out.base.cell (p:=⟨wr.heap.size,2,none⟩) hltR).trans HC2.out;have d3:=(HR.out.base.cell (p:=⟨wr.heap.size,3,none⟩) hltR).trans HC3.out;have d4:=(HR.out.base.cell (p:=⟨w.heap.size,0,none⟩) hltW).trans HC4.out;have d5:=(HR.out.base.cell (p:=⟨w.heap.size,1,none⟩) hltW).trans HC5.out
      skip)
    )
   go_wp2_with (first
    |
     (go_at_call 17
      apply Calls.mono;apply RBag.add (w0:=wR);(focus(first|exact HR.out|exact HR.out.drew));(focus(repeat(first|exact List.Mem.head _|apply List.Mem.tail)));(focus(repeat(first|exact List.Mem.head _|apply List.Mem.tail)));omega;rintro e wn ⟨bq,rfl,hbag⟩;clear HR;have HR:=Hi hbag;clear hbag;have d0:=(HR.out.base.cell (p:=⟨wr.heap.size,0,none⟩) hltR).trans HC0.out;have d1:=(HR.out.base.cell (p:=⟨wr.heap.size,1,none⟩) hltR).trans HC1.out;have d2:=(HR.out.base.cell (p:=⟨wr.heap.size,2,none⟩) hltR).trans HC2.out;have d3:=(HR.out.base.cell (p:=⟨wr.heap.size,3,none⟩) hltR).trans HC3.out;have d4:=(HR.out.base.cell (p:=⟨w.heap.size,0,none⟩) hltW).trans HC4.out;have d5:=(HR.out.base.cell (p:=⟨w.heap.size,1,none⟩) hltW).trans HC5.out
      skip)
    )
   go_region_held3 (fun w'=>w'.cell? ⟨wr.heap.size,0,none⟩=some (.string f.ax)∧w'.cell? ⟨wr.heap.size,1,none⟩=some (.string f.ay)∧w'.cell? ⟨w.heap.size,0,none⟩=some (.string sx)∧w'.cell? ⟨w.heap.size,1,none⟩=some (.string sy)) ((simp [*])) (first
    |
     (go_at_call_of 19 (Value.string f.ax)
      apply Calls.mono;apply RBag.of (w0:=wR) (n:=n);(focus(first|exact HR.out|exact HR.out.drew));omega;omega;rintro e wn ⟨px,hq,bq,rfl,hbag⟩;have HPX:=Hi hq;clear HR;have HR:=Hi hbag;clear hq hbag;have d0:=(HR.out.base.cell (p:=⟨wr.heap.size,0,none⟩) hltR).trans HC0.out;have d1:=(HR.out.base.cell (p:=⟨wr.heap.size,1,none⟩) hltR).trans HC1.out;have d2:=(HR.out.base.cell (p:=⟨wr.heap.size,2,none⟩) hltR).trans HC2.out;have d3:=(HR.out.base.cell (p:=⟨wr.heap.size,3,none⟩) hltR).trans HC3.out;have d4:=(HR.out.base.cell (p:=⟨w.heap.size,0,none⟩) hltW).trans HC4.out;have d5:=(HR.out.base.cell (p:=⟨w.heap.size,1,none⟩) hltW).trans HC5.out
      skip)
    |
     (go_at_call_of 19 (Value.string f.ay)
      apply Calls.mono;apply RBag.of (w0:=wR) (n:=n);(focus(first|exact HR.out|exact HR.out.drew));omega;omega;rintro e wn ⟨py,hq,bq,rfl,hbag⟩;have HPY:=Hi hq;clear HR;have HR:=Hi hbag;clear hq hbag;have d0:=(HR.out.base.cell (p:=⟨wr.heap.size,0,none⟩) hltR).trans HC0.out;have d1:=(HR.out.base.cell (p:=⟨wr.heap.size,1,none⟩) hltR).trans HC1.out;have d2:=(HR.out.base.cell (p:=⟨wr.heap.size,2,none⟩) hltR).trans HC2.out;have d3:=(HR.out.base.cell (p:=⟨wr.heap.size,3,none⟩) hltR).trans HC3.out;have d4:=(HR.out.base.cell (p:=⟨w.heap.size,0,none⟩) hltW).trans HC4.out;have d5:=(HR.out.base.cell (p:=⟨w.heap.size,1,none⟩) hltW).trans HC5.out
      skip)
    |
     (go_at_call_of 19 (Value.string sx)
      apply Calls.mono;apply RBag.of (w0:=wR) (n:=n);(focus(first|exact HR.out|exact HR.out.drew));omega;omega;rintro e wn ⟨ox1,hq,bq,rfl,hbag⟩;have HOX1:=Hi hq;clear HR;have HR:=Hi hbag;clear hq hbag;have d0:=(HR.out.base.cell (p:=⟨wr.heap.size,0,none⟩) hltR).trans HC0.out;have d1:=(HR.out.base.cell (p:=⟨wr.heap.size,1,none⟩) hltR).trans HC1.out;have d2:=(HR.out.base.cell (p:=⟨wr.heap.size,2,none⟩) hltR).trans HC2.out;have d3:=(HR.out.base.cell (p:=⟨wr.heap.size,3,none⟩) hltR).trans HC3.out;have d4:=(HR.out.base.cell (p:=⟨w.heap.size,0,none⟩) hltW).trans HC4.out;have d5:=(HR.out.base.cell (p:=⟨w.heap.size,1,none⟩) hltW).trans HC5.out
      skip)
    |
     (go_at_call_of 19 (Value.string sy)
      apply Calls.mono;apply RBag.of (w0:=wR) (n:=n);(focus(first|exact HR.out|exact HR.out.drew));omega;omega;rintro e wn ⟨oy1,hq,bq,rfl,hbag⟩;have HOY1:=Hi hq;clear HR;have HR:=Hi hbag;clear hq hbag;have d0:=(HR.out.base.cell (p:=⟨wr.heap.size,0,none⟩) hltR).trans HC0.out;have d1:=(HR.out.base.cell (p:=⟨wr.heap.size,1,none⟩) hltR).trans HC1.out;have d2:=(HR.out.base.cell (p:=⟨wr.heap.size,2,none⟩) hltR).trans HC2.out;have d3:=(HR.out.base.cell (p:=⟨wr.heap.size,3,none⟩) hltR).trans HC3.out;have d4:=(HR.out.base.cell (p:=⟨w.heap.size,0,none⟩) hltW).trans HC4.out;have d5:=(HR.out.base.cell (p:=⟨w.heap.size,1,none⟩) hltW).trans HC5.out
      skip)
    |
     (go_at_call 41
      apply Calls.mono;apply RBag.sub (w0:=wR);(focus(first|exact HR.out|exact HR.out.drew));(focus(repeat(first|exact List.Mem.head _|apply List.Mem.tail)));(focus(repeat(first|exact List.Mem.head _|apply List.Mem.tail)));omega;rintro e wn ⟨bq,rfl,hbag⟩;clear HR;have HR:=Hi hbag;clear hbag;have d0:=(HR.out.base.cell (p:=⟨wr.heap.size,0,none⟩) hltR).trans HC0.out;have d1:=(HR.out.base.cell (p:=⟨wr.heap.size,1,none⟩) hltR).trans HC1.out;have d2:=(HR.out.base.cell (p:=⟨wr.heap.size,2,none⟩) hltR).trans HC2.out;have d3:=(HR.out.base.cell (p:=⟨wr.heap.size,3,none⟩) hltR).trans HC3.out;have d4:=(HR.out.base.cell (p:=⟨w.heap.size,0,none⟩) hltW).trans HC4.out;have d5:=(HR.out.base.cell (p:=⟨w.heap.size,1,none⟩) hltW).trans HC5.out
      skip)
    |
     (go_at_call 18
      apply Calls.mono;apply RBag.mul (w0:=wR);(focus(first|exact HR.out|exact HR.out.drew));(focus(repeat(first|exact List.Mem.head _|apply List.Mem.tail)));(focus(repeat(first|exact List.Mem.head _|apply List.Mem.tail)));omega;rintro e wn ⟨bq,rfl,hbag⟩;clear HR;have HR:=Hi hbag;clear hbag;have d0:=(HR.out.base.cell (p:=⟨wr.heap.size,0,none⟩) hltR).trans HC0.out;have d1:=(HR.out.base.cell (p:=⟨wr.heap.size,1,none⟩) hltR).trans HC1.out;have d2:=(HR.out.base.cell (p:=⟨wr.heap.size,2,none⟩) hltR).trans HC2.out;have d3:=(HR.out.base.cell (p:=⟨wr.heap.size,3,none⟩) hltR).trans HC3.out;have d4:=(HR.out.base.cell (p:=⟨w.heap.size,0,none⟩) hltW).trans HC4.out;have d5:=(HR.out.base.cell (p:=⟨w.heap.size,1,none⟩) hltW).trans HC5.out
      skip)
    |
     (go_at_call 17
      apply Calls.mono;apply RBag.add (w0:=wR);(focus(first|exact HR.out|exact HR.out.drew));(focus(repeat(first|exact List.Mem.head _|apply List.Mem.tail)));(focus(repeat(first|exact List.Mem.head _|apply List.Mem.tail)));omega;rintro e wn ⟨bq,rfl,hbag⟩;clear HR;have HR:=Hi hbag;clear hbag;have d0:=(HR.out.base.cell (p:=⟨wr.heap.size,0,none⟩) hltR).trans HC0.out;have d1:=(HR.out.base.cell (p:=⟨wr.heap.size,1,none⟩) hltR).trans HC1.out;have d2:=(HR.out.base.cell (p:=⟨wr.heap.size,2,none⟩) hltR).trans HC2.out;have d3:=(HR.out.base.cell (p:=⟨wr.heap.size,3,none⟩) hltR).trans HC3.out;have d4:=(HR.out.base.cell (p:=⟨w.heap.size,0,none⟩) hltW).trans HC4.out;have d5:=(HR.out.base.cell (p:=⟨w.heap.size,1,none⟩) hltW).trans HC5.out
      skip)
    )
   go_wp2;go_roundw
   case rel=>
    have e1:=HOX1.out.inj HOX.out;have e2:=HOY1.out.inj HOY.out;subst e1;subst e2;refine⟨k+1,_,_,_,_,_,_,by omega,by go_num,rfl,rfl,rfl,by rw[Qej fs k f HFK.out];exact Sums.snoc HSU.out ⟨HPX.out,HPY.out,HWX.out,HWY.out⟩,?_⟩;refine HR.out.mono HBR.out ?_;have:=HKC.out;rw[this];intro t ht;simp only[List.mem_cons,List.not_mem_nil,or_false] at ht;rcases ht with rfl|rfl|rfl
    · exact⟨KC+1+(4*n+1)+1,by simp,by simp only[];omega⟩
    · exact⟨KC+1+(4*n+1)+1,by simp,by simp only[];omega⟩
    · exact⟨KC+1+(4*n+1+(4*n+1)+1+(4*n+1)+(4*n+1+(4*n+1)+1+(4*n+1))+1)+1,by simp,by simp only[];omega⟩
   case measure=>simp[intOf];omega
  ·
   have hk':k=fs.length:=by omega
   subst hk';go_wp2;go_ret3;refine⟨b1,b2,b3,x,y,t,rfl,by have:=HSU.out;rw[List.take_length] at this;exact this,?_⟩;refine HB.out.mono ((Below.refl _ _).alloc (Nat.le_refl _) _) ?_;have hle:fs.length*(25*n+20)+1≤60*(25*n+20)+1:=Nat.succ_le_succ (Nat.mul_le_mul_right _ hl);intro u hu;simp only[List.mem_cons,List.not_mem_nil,or_false] at hu;rcases hu with rfl|rfl|rfl
   · exact⟨_,by simp,hle⟩
   · exact⟨_,by simp,hle⟩
   · exact⟨_,by simp,hle⟩
end Go.Proofs.YtbbkamnfjejceaaGreatDoor
