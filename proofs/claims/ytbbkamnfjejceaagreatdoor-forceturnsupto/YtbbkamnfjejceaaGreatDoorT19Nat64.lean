/- num's words: natOfWord, trim, isOne, word, compareNats; the library's sums of words. -/
import Derived.Test.YtbbkamnfjejceaaGreatDoorT18RefOf
namespace Go.Proofs.YtbbkamnfjejceaaGreatDoor
open Go.RowKit
set_option linter.unusedVariables false
set_option linter.unusedSimpArgs false
theorem RatOk.new{w w':World}{q:Rat}{e:Ending}(h:RatOk (w.alloc (.cells #[.bool false,.slice none 0 0,.bool false,.slice none 0 0] 98)) w.heap.size q e w'):NewRat w q e w':=
 ⟨⟨_,h.1,Nat.le_refl _,h.val⟩,Only.fresh ((Below.refl _ _).alloc (Nat.le_refl _) _) h.2.1 (Nat.le_refl _)⟩
theorem RatVal.alloc{w:World}{b:Nat}{q:Rat}(h:RatVal w b q)(o:Obj):RatVal (w.alloc o) b q:=h.below ((Below.refl _ _).alloc (Nat.le_refl _) _)
set_option maxHeartbeats 400000 in
theorem Qmp(bx bv j k:Nat)(p q:Rat)(w:World)(hx:RatVal w bx p)(hy:RatVal w bv q)(hp:Fits p j)(hq:Fits q k)(hj:j+k<274877906000):
 Calls Tryz.prog 17 #[.pointer (some ⟨bx,0,none⟩),.pointer (some ⟨bv,0,none⟩)] w (NewRat w (p+q)):=by
 have HC:=Hi (Ql7 w.heap.size bx bv j k p q _ (Qgp w) (hx.alloc _) (hy.alloc _) hp hq hj );clear hx hy hp hq hj;go_enter Tryz.func17,Tryz.ntmps17;go_wp2_with fail;refine HC.out.mono ?_;rintro e w1 hok;have HF:=Hi (RatOk.new hok);obtain⟨rfl,hon,hr⟩:=hok;clear hon hr HC;go_wp2;go_ret;exact HF.out
set_option maxHeartbeats 400000 in
theorem Qmq(bx bv j k:Nat)(p q:Rat)(w:World)(hx:RatVal w bx p)(hy:RatVal w bv q)(hp:Fits p j)(hq:Fits q k)(hj:j+k<274877906000):
 Calls Tryz.prog 18 #[.pointer (some ⟨bx,0,none⟩),.pointer (some ⟨bv,0,none⟩)] w (NewRat w (p*q)):=by
 have HC:=Hi (Ql8 w.heap.size bx bv j k p q _ (Qgp w) (hx.alloc _) (hy.alloc _) hp hq hj );clear hx hy hp hq hj;go_enter Tryz.func18,Tryz.ntmps18;go_wp2_with fail;refine HC.out.mono ?_;rintro e w1 hok;have HF:=Hi (RatOk.new hok);obtain⟨rfl,hon,hr⟩:=hok;clear hon hr HC;go_wp2;go_ret;exact HF.out
theorem Qbr{a b j k:Nat}(ha:a<2 ^ j)(hb:b<2 ^ k):a*b<2 ^ (j+k):=by rw[Nat.pow_add];exact Nat.mul_lt_mul'' ha hb
theorem Fits.mul{p q:Rat}{j k:Nat}(h:Fits p j)(h':Fits q k)(hj:0<j):Fits (p*q) (j+k):=by
 rw[←Qd0];refine Fits.mk ?_ ?_ (by omega)
 · rw[Int.natAbs_mul];exact Qbr h.1 h'.1
 · rw[Int.natAbs_mul];exact Qbr h.2 h'.2
theorem Fits.add{p q:Rat}{j k:Nat}(h:Fits p j)(h':Fits q k):Fits (p+q) (j+k+1):=by
 rw[←Qd1];have e1:=Qbr h.1 h'.2;have e2:=Qbr h'.1 h.2;have e3:(2:Nat) ^ (j+k+1)=2 ^ (j+k)*2:=Nat.pow_succ _ _;rw[Nat.add_comm k j] at e2;refine Fits.mk ?_ ?_ (by omega)
 ·
  have h1:=Int.natAbs_add_le (p.num*(q.den:Int)) (q.num*(p.den:Int));rw[Int.natAbs_mul,Int.natAbs_mul,Int.natAbs_natCast,Int.natAbs_natCast] at h1;omega
 ·
  rw[Int.natAbs_mul,Int.natAbs_natCast,Int.natAbs_natCast];have:=Qbr h.2 h'.2;omega
theorem Fits.sub{p q:Rat}{j k:Nat}(h:Fits p j)(h':Fits q k):Fits (p - q) (j+k+1):=by
 rw[Rat.sub_eq_add_neg];exact h.add h'.neg
structure RBag (w0 w:World) (L:List (Nat × Rat × Nat)):Prop where
 base:Below w0.heap.size w0 w
 glob:∃m,w.cell? ⟨4,0,none⟩=some (.int .i64 m)
 ts:∀t,t∈ L→RatVal w t.1 t.2.1∧Fits t.2.1 t.2.2∧0<t.2.2
theorem RBag.start{w:World}(h:∃m,w.cell? ⟨4,0,none⟩=some (.int .i64 m)):RBag w w []:=⟨Below.refl _ _,h,fun t ht=>by cases ht⟩
theorem RBag.below{w0 w w':World}{L:List (Nat × Rat × Nat)}(h:RBag w0 w L)(hb:Below w.heap.size w w'):RBag w0 w' L:=by
 refine⟨h.base.trans (hb.mono h.base.size),?_,fun t ht=>⟨(h.ts t ht).1.below hb,(h.ts t ht).2⟩⟩;obtain⟨m,hm⟩:=h.glob;exact⟨m,(hb.cell (p:=⟨4,0,none⟩) (World.block_lt_of_cell? _ _ hm)).trans hm⟩
theorem RBag.drew{w0 w:World}{L:List (Nat × Rat × Nat)}(h:RBag w0 w L):RBag w0 w.drew L:=h.below (Below.refl _ _).drew
theorem RBag.put{w0 w:World}{L:List (Nat × Rat × Nat)}{b k:Nat}{q:Rat}(h:RBag w0 w L)(hv:RatVal w b q)(hf:Fits q k)(hk:0<k):RBag w0 w ((b,q,k) :: L):=
 ⟨h.base,h.glob,fun t ht=>by
   rcases List.mem_cons.1 ht with rfl|ht
   · exact⟨hv,hf,hk⟩
   · exact h.ts t ht⟩
def RNew(w0:World)(L:List (Nat × Rat × Nat))(q:Rat)(k:Nat)(e:Ending)(w':World):Prop:=∃b,e=.returned (.pointer (some ⟨b,0,none⟩))∧RBag w0 w' ((b,q,k) :: L)
theorem RBag.new{w0 w w':World}{L:List (Nat × Rat × Nat)}{q:Rat}{k:Nat}{e:Ending}(h:RBag w0 w L)(hn:NewRat w q e w')(hf:Fits q k)(hk:0<k):RNew w0 L q k e w':=by
 obtain⟨⟨b,he,_,hv⟩,hb⟩:=hn;exact⟨b,he,(h.below hb).put hv hf hk⟩
theorem RBag.add{w0 w:World}{L:List (Nat × Rat × Nat)}{bx bv j k:Nat}{p q:Rat}(h:RBag w0 w L)(hx:(bx,p,j)∈ L)(hy:(bv,q,k)∈ L)(hj:j+k<274877906000):
 Calls Tryz.prog 17 #[.pointer (some ⟨bx,0,none⟩),.pointer (some ⟨bv,0,none⟩)] w (RNew w0 L (p+q) (j+k+1)):=by
 have a:=h.ts _ hx;have b:=h.ts _ hy;exact(Qmp bx bv j k p q w a.1 b.1 a.2.1 b.2.1 hj).mono fun e w' hn=>h.new hn (a.2.1.add b.2.1) (by omega)
theorem RBag.mul{w0 w:World}{L:List (Nat × Rat × Nat)}{bx bv j k:Nat}{p q:Rat}(h:RBag w0 w L)(hx:(bx,p,j)∈ L)(hy:(bv,q,k)∈ L)(hj:j+k<274877906000):
 Calls Tryz.prog 18 #[.pointer (some ⟨bx,0,none⟩),.pointer (some ⟨bv,0,none⟩)] w (RNew w0 L (p*q) (j+k)):=by
 have a:=h.ts _ hx;have b:=h.ts _ hy;have hp:0<j:=a.2.2;exact(Qmq bx bv j k p q w a.1 b.1 a.2.1 b.2.1 hj).mono fun e w' hn=>h.new hn (a.2.1.mul b.2.1 hp) (by omega)
theorem RBag.of{w0 w:World}{L:List (Nat × Rat × Nat)}{n:Nat}(s:ByteArray)(h:RBag w0 w L)(hs:s.size≤n)(hn:n≤1073741824):
 Calls Tryz.prog 19 #[.string s] w fun e w'=>∃q,QOf s.data.toList q∧RNew w0 L q (4*n+1) e w':=by
 obtain⟨m,hm⟩:=h.glob;refine(Qmo s m w hm (by omega)).mono ?_;rintro e w' ⟨q,hq,hk⟩;exact⟨q,hq,h.new hk (hq.fits (by simpa using hs)) (by omega)⟩
theorem RBag.sign{w0 w:World}{L:List (Nat × Rat × Nat)}{bx j:Nat}{p:Rat}(h:RBag w0 w L)(hx:(bx,p,j)∈ L):
 Calls Tryz.prog 20 #[.pointer (some ⟨bx,0,none⟩)] w fun e w'=>e=.returned (.int .i64 (sgn3 p.num))∧w'=w:=
 Qme bx p w (h.ts _ hx).1
structure F4 where
 ax:ByteArray
 ay:ByteArray
 wx:ByteArray
 wy:ByteArray
structure FRow (w:World) (a:Option Addr) (cap:Nat) (fs:List F4):Prop where
 fit:fs.length≤cap
 cell:∀i f,fs[i]?=some f→∃b off,a=some ⟨b,off,none⟩∧b<w.heap.size∧w.cell? ⟨b,off+i*4,none⟩=some (.string f.ax)∧w.cell? ⟨b,off+i*4+1,none⟩=some (.string f.ay)∧w.cell? ⟨b,off+i*4+2,none⟩=some (.string f.wx)∧w.cell? ⟨b,off+i*4+3,none⟩=some (.string f.wy)
theorem FRow.below{w w':World}{a:Option Addr}{cap:Nat}{fs:List F4}(h:FRow w a cap fs)(hb:Below w.heap.size w w'):FRow w' a cap fs:=by
 refine⟨h.fit,fun i f hi=>?_⟩;obtain⟨b,off,h1,h2,h3,h4,h5,h6⟩:=h.cell i f hi;exact⟨b,off,h1,by have:=hb.size;omega,(hb.cell (p:=⟨b,off+i*4,none⟩) h2).trans h3,(hb.cell (p:=⟨b,off+i*4+1,none⟩) h2).trans h4,(hb.cell (p:=⟨b,off+i*4+2,none⟩) h2).trans h5,(hb.cell (p:=⟨b,off+i*4+3,none⟩) h2).trans h6⟩
structure Q4 (f:F4) (px py wx wy:Rat):Prop where
 ax:QOf f.ax.data.toList px
 ay:QOf f.ay.data.toList py
 wx:QOf f.wx.data.toList wx
 wy:QOf f.wy.data.toList wy
def Sums.Step(ox oy:Rat)(P:List F4→Rat→Rat→Rat→Prop)(fs:List F4)(x y t px py wx wy:Rat)(f:F4):Prop:=
 P fs x y t→Q4 f px py wx wy→P (fs++ [f]) (x+wx) (y+wy) (t+((px - ox)*wy - (py - oy)*wx))
def Sums(ox oy:Rat)(fs:List F4)(x y t:Rat):Prop:=
 ∀P:List F4→Rat→Rat→Rat→Prop,P [] 0 0 0→(∀(fs:List F4) (x y t px py wx wy:Rat) (f:F4),Sums.Step ox oy P fs x y t px py wx wy f)→P fs x y t
theorem Sums.nil{ox oy:Rat}:Sums ox oy [] 0 0 0:=fun _ h _=>h
theorem Sums.snoc{ox oy:Rat}{fs:List F4}{x y t px py wx wy:Rat}{f:F4}(h:Sums ox oy fs x y t)(k:Q4 f px py wx wy):Sums ox oy (fs++ [f]) (x+wx) (y+wy) (t+((px - ox)*wy - (py - oy)*wx)):=
 fun P h0 h1=>h1 _ _ _ _ _ _ _ _ _ (h P h0 h1) k
theorem Sums.ind{ox oy:Rat}{P:List F4→Rat→Rat→Rat→Prop}{fs:List F4}{x y t:Rat}(h:Sums ox oy fs x y t)(nil:P [] 0 0 0)
 (snoc:∀(fs:List F4) (x y t px py wx wy:Rat) (f:F4),Sums ox oy fs x y t→Q4 f px py wx wy→P fs x y t→P (fs++ [f]) (x+wx) (y+wy) (t+((px - ox)*wy - (py - oy)*wx))):P fs x y t:=
 (h (fun fs x y t=>Sums ox oy fs x y t∧P fs x y t) ⟨Sums.nil,nil⟩ fun _ _ _ _ _ _ _ _ _ hp hq=>⟨hp.1.snoc hq,snoc _ _ _ _ _ _ _ _ _ hp.1 hq hp.2⟩).2
theorem Qgs(fs:List F4)(k:Nat)(f:F4)(h:fs[k]?=some f):fs.take (k+1)=fs.take k++ [f]:=by
 obtain⟨hk,rfl⟩:=List.getElem?_eq_some_iff.1 h;exact List.take_succ_eq_append_getElem hk
theorem QOf.empty:QOf [] 0:=⟨0,.inr ⟨fun h=>h.1.1 rfl,rfl⟩,rfl⟩
theorem Qgr(x:Rat):0≤x*x:=by
 rcases Rat.le_total (a:=0) (b:=x) with h|h
 · exact Rat.mul_nonneg h h
 ·
  have h1:0≤ -x:=by
   have:=Rat.neg_le_neg h
   simpa using this
  have h2:=Rat.mul_nonneg h1 h1
  rwa [Rat.neg_mul,Rat.mul_neg,Rat.neg_neg] at h2
theorem Tryz.sumInfo:(Tryz.prog.info? 34).map (·.size)=some 6:=by kernel_rfl
structure U64 (w:World) (a:Option Addr) (cap:Nat) (l:List Nat) (n:Nat):Prop where
 row:Row .u64 w a cap l
 num:Num 18446744073709551616 l n
 short:l.length≤1099511627776
theorem U64.below{w w':World}{a:Option Addr}{cap:Nat}{l:List Nat}{n:Nat}(h:U64 w a cap l n)(hb:Below w.heap.size w w'):U64 w' a cap l n:=⟨h.row.below hb,h.num,h.short⟩
theorem U64.drew{w:World}{a:Option Addr}{cap:Nat}{l:List Nat}{n:Nat}(h:U64 w a cap l n):U64 w.drew a cap l n:=h.below (Below.refl _ _).drew
theorem U64.nil(w:World):U64 w none 0 [] 0:=⟨Row.nil _ _,Num.zero _,by simp⟩
theorem Qbz(L:Int)(n:Nat)(hL:L=n)(hn:n≤2199023255552)(w:World):
 (Instr.makeSlice 75 (.int .i64 L) (.int .i64 L)).run Tryz.prog w=.ok (.slice (some ⟨w.heap.size,0,none⟩) n n) (w.alloc (.cells (wordCells .u64 (zeros n)) 146)):=by
 subst hL;rw[←Qcs];exact Go.run_make_row' 75 146 (.int .u64 0) 8 Tryz.underlying75 Tryz.info64 rfl .i64 .i64 n (by omega) (by omega) w
theorem add64(x y c:Nat)(hx:x<18446744073709551616)(hy:y<18446744073709551616)(hc:c≤1):∃r d:Nat,r<18446744073709551616∧d≤1∧r+18446744073709551616*d=x+y+c∧
 ∀w,(callFunc 227 #[.int .u64 x,.int .u64 y,.int .u64 c]).run Tryz.prog w=.ok (.value (.tuple #[.int .u64 (r:Int),.int .u64 (d:Int)])) w:=
 ⟨(x+y+c) % 18446744073709551616,(x+y+c) / 18446744073709551616,by omega,by omega,by omega,fun w=>Any7.bits_Add64 Tryz.lays25 x y c hc w⟩
theorem Qb0(x y:Nat)(hx:x<18446744073709551616)(hy:y<18446744073709551616):∃r d:Nat,r<18446744073709551616∧d≤1∧r+18446744073709551616*d=x+y∧
 ∀w,(callFunc 227 #[.int .u64 x,.int .u64 y,.int .u64 0]).run Tryz.prog w=.ok (.value (.tuple #[.int .u64 (r:Int),.int .u64 (d:Int)])) w:=
 add64 x y 0 hx hy (by decide)
theorem sub64(x y c:Nat)(hx:x<18446744073709551616)(hy:y<18446744073709551616)(hc:c≤1):∃r d:Nat,r<18446744073709551616∧d≤1∧r+c+y=x+18446744073709551616*d∧
 ∀w,(callFunc 228 #[.int .u64 x,.int .u64 y,.int .u64 c]).run Tryz.prog w=.ok (.value (.tuple #[.int .u64 (r:Int),.int .u64 (d:Int)])) w:=by
 refine⟨(x+18446744073709551616 - y - c) % 18446744073709551616,if x<y+c then 1 else 0,by omega,by split<;>omega,by split<;>omega,fun w=>Any7.bits_Sub64 Tryz.lays26 x y c hc w⟩
theorem Qfo(x y:Nat)(hx:x<18446744073709551616)(hy:y<18446744073709551616):∃r d:Nat,r<18446744073709551616∧d≤1∧r+y=x+18446744073709551616*d∧
 ∀w,(callFunc 228 #[.int .u64 x,.int .u64 y,.int .u64 0]).run Tryz.prog w=.ok (.value (.tuple #[.int .u64 (r:Int),.int .u64 (d:Int)])) w:=
 sub64 x y 0 hx hy (by decide)
theorem mul64(x y:Nat)(hx:x<18446744073709551616)(hy:y<18446744073709551616):∃h l:Nat,h<18446744073709551616∧l<18446744073709551616∧l+18446744073709551616*h=x*y∧
 ∀w,Calls Tryz.prog 229 #[.int .u64 x,.int .u64 y] w fun e w'=>e=.returned (.tuple #[.int .u64 (h:Int),.int .u64 (l:Int)])∧w'=w:=by
 refine⟨x*y / 18446744073709551616,x*y % 18446744073709551616,?_,Nat.mod_lt _ (by decide),Nat.mod_add_div _ _,fun w=>Any.bits_Mul64 Tryz.lays264 x y hx hy w⟩;rw[Nat.div_lt_iff_lt_mul (by decide)];exact Nat.mul_lt_mul'' hx hy
set_option maxHeartbeats 400000 in
theorem Qbc(a:Option Addr)(cap:Nat)(l:List Nat)(i:Nat)(w:World)(h:Row .u64 w a cap l)(hl:l.length≤1099511627776)(hi:i≤2199023255552):
 Calls Tryz.prog 201 #[.slice a l.length cap,.int .i64 i] w fun e w'=>e=.returned (.int .u64 ((l.getD i 0:Nat):Int))∧w'=w:=by
 by_cases hlt:i<l.length
 ·
  obtain⟨b,off,rfl,hb,hc⟩:=h.cell i hlt;obtain⟨d,hd⟩:∃d,l.getD i 0=d:=⟨_,rfl⟩;rw[hd] at hc;rw[hd];clear hd h;go_enter Tryz.func201,Tryz.ntmps201;go_wp2;go_ret;exact⟨rfl,rfl⟩
 ·
  rw[Qa8 l i (by omega)];clear h;go_enter Tryz.func201,Tryz.ntmps201;go_wp2;go_ret;exact⟨rfl,rfl⟩
theorem Qkg(l:List Nat)(k:Nat)(hk:k≤l.length)(h:k=0∨l.getD (k - 1) 0≠0):Trim (l.take k):=by
 rcases h with rfl|h
 · left;simp
 ·
  by_cases h0:k=0
  · left;subst h0;simp
  ·
   right;rw[List.length_take,Nat.min_eq_left hk,List.getD_eq_getElem?_getD,List.getElem?_take_of_lt (by omega),←List.getD_eq_getElem?_getD];exact h
theorem Qkh(l:List Nat)(k:Nat)(hk:k<l.length)(h:l.getD k 0=0):val 18446744073709551616 (l.take (k+1))=val 18446744073709551616 (l.take k):=by
 rw[Qbi _ l k hk,h];simp
set_option maxHeartbeats 400000 in
theorem Qdr(a:Option Addr)(cap:Nat)(l:List Nat)(w:World)(h:Row .u64 w a cap l)(hl:l.length≤1099511627776):
 Calls Tryz.prog 194 #[.slice a l.length cap] w fun e w'=>(∃k,k≤l.length∧e=.returned (.slice a k cap)∧val 18446744073709551616 (l.take k)=val 18446744073709551616 l∧Trim (l.take k))∧w'=w:=by
 have hcap:=h.fit;go_enter Tryz.func194,Tryz.ntmps194;go_wp2;go_loop [3] (fun n=>∃k:Nat,k≤l.length∧n=.int .i64 k∧val 18446744073709551616 (l.take k)=val 18446744073709551616 l) (fun n=>(intOf n).toNat)
 case atStart=>exact⟨l.length,Nat.le_refl _,rfl,by rw[List.take_length]⟩
 case round=>
  obtain⟨k,hk,rfl,hv⟩:=hrel;have HV:Hid (val 18446744073709551616 (l.take k)=val 18446744073709551616 l):=hv;clear hv;by_cases h0:k=0
  ·
   subst h0;rcases h.shape with ⟨rfl,rfl⟩|⟨b,off,rfl,hb⟩
   all_goals
    go_wp2;go_ret;exact⟨⟨0,by omega,by simp,HV.out,.inl (by simp)⟩,rfl⟩
  ·
   obtain⟨b,off,rfl,hb,hc⟩:=h.cell (k - 1) (by omega);obtain⟨j,rfl⟩:∃j,k=j+1:=⟨k - 1,by omega⟩;simp only[Nat.add_sub_cancel] at hc;obtain⟨d,hd⟩:∃d,l.getD j 0=d:=⟨_,rfl⟩;rw[hd] at hc;have HD:Hid (l.getD j 0=d):=hd;clear hd;by_cases hz:d=0
   ·
    subst hz;go_wp2;go_round
    case rel=>exact⟨j,by omega,by go_num,(Qkh l j (by omega) HD.out).symm.trans HV.out⟩
    case measure=>simp[intOf]
   ·
    have hz':((d:Int) == 0)=false:=by simp;omega
    go_wp2;go_ret;exact⟨⟨j+1,hk,by simp,HV.out,Qkg l (j+1) hk (.inr (by rw[Nat.add_sub_cancel,HD.out];exact hz))⟩,rfl⟩
theorem Qb1(g n cap x:Nat)(rs:List Nat)(w:World)(h:Blk .u64 146 w g rs)(hl:rs.length=n)(hs:Small 18446744073709551616 rs)(hc:n≤cap)(hn:n≤1099511627776)(hx:val 18446744073709551616 rs=x):
 Calls Tryz.prog 194 #[.slice (some ⟨g,0,none⟩) n cap] w fun e w'=>(∃r,e=.returned (.slice (some ⟨g,0,none⟩) r.length cap)∧U64 w (some ⟨g,0,none⟩) cap r x)∧w'=w:=by
 have hR:=h.row n (by omega) cap hc;rw[List.take_of_length_le (by omega)] at hR;have hT:=Qdr (some ⟨g,0,none⟩) cap rs w hR (by omega);rw[hl] at hT;refine hT.mono ?_;rintro e w1 ⟨⟨q,hq,rfl,hqv,hqt⟩,rfl⟩;have hql:(rs.take q).length=q:=by rw[List.length_take];omega
 exact⟨⟨rs.take q,by rw[hql],hR.take q (by omega),⟨hs.take q,hqt,hqv.trans hx⟩,by rw[hql];omega⟩,rfl⟩
theorem Qki{l:List Nat}(h:Num 18446744073709551616 l 1):l= [1]:=h.inj (by decide) ⟨fun d hd=>by simp at hd;omega,.inr (by simp),by simp[val]⟩
set_option maxHeartbeats 400000 in
theorem Qb2(a:Option Addr)(cap:Nat)(l:List Nat)(n:Nat)(w:World)(h:U64 w a cap l n):
 Calls Tryz.prog 188 #[.slice a l.length cap] w fun e w'=>e=.returned (.bool (decide (n=1)))∧w'=w:=by
 have hs:=h.short;by_cases h1:l.length=1
 ·
  obtain⟨b,off,rfl,hb,hc⟩:=h.row.cell 0 (by omega);obtain⟨d,hd⟩:∃d,l.getD 0 0=d:=⟨_,rfl⟩;rw[hd] at hc;have hn:n=d:=by
   rw[←h.num.eq]
   match l,h1 with
   | [x],_=>simp at hd;simp[val,hd]
  subst hn;rw[Nat.add_zero] at hc;by_cases hd1:n=1
  ·
   subst hd1;clear h hd;go_enter Tryz.func188,Tryz.ntmps188;go_wp2;go_ret;exact⟨rfl,rfl⟩
  ·
   have q1:((n:Int) == 1)=false:=by rw[beq_eq_false_iff_ne];omega
   rw[show decide (n=1)=false by simpa using hd1];clear h hd hd1;go_enter Tryz.func188,Tryz.ntmps188;go_wp2;go_ret;exact⟨by simp[q1],rfl⟩
 ·
  have hn1:n≠1:=fun hc=>h1 (by subst hc;rw[Qki h.num];rfl)
  have q1:((l.length:Int) == 1)=false:=by rw[beq_eq_false_iff_ne];omega
  rw[show decide (n=1)=false by simpa using hn1];clear h h1 hn1;go_enter Tryz.func188,Tryz.ntmps188;go_wp2;go_ret;exact⟨rfl,rfl⟩
end Go.Proofs.YtbbkamnfjejceaaGreatDoor
