import Derived.Test.YtkkadnoecklepaaGreatDoorG04RefOf
namespace Go.Proofs.YtkkadnoecklepaaGreatDoor
open Go.RowKit
open Go.Proofs.Tryz
set_option linter.unusedSimpArgs false
set_option linter.unusedVariables false
set_option maxHeartbeats 8000000
set_option maxRecDepth 1000000
theorem RatOk.new{w a:Vz}{q:Rat}{e:Ending}(h:RatOk (w.alloc (.cells #[.bool false,.slice none 0 0,.bool false,.slice none 0 0] 123)) w.heap.size q e a):NewRat w q e a:=
 ⟨⟨_,h.1,Nat.le_refl _,h.val⟩,Only.fresh (bR.alloc lZ _) h.2.1 lZ⟩
theorem RatVal.alloc{w:Vz}{b:Nat}{q:Rat}(h:RatVal w b q)(o:Obj):RatVal (w.alloc o) b q:=h.below (bR.alloc lZ _)
theorem Qky(b c j k:Nat)(p q:Rat)(w:Vz)(f:RatVal w b p)(g:RatVal w c q)(h:Fits p j)(i:Fits q k)(l:j+k<274877906000):
 Calls prog 32 #[.pointer (some ⟨b,0,none⟩),.pointer (some ⟨c,0,none⟩)] w (NewRat w (p+q)):=by
 have m:=Hi (Qgi w.heap.size b c j k p q _ (Qgo w) (f.alloc _) (g.alloc _) h i l );clear f g h i l;go_enter func32,ntmps32;go_wp2_with fail;refine m.o.mono ?_;rintro e w1 a;have n:=Hi (RatOk.new a);obtain⟨rfl,d,r⟩:=a;clear d r m;go_wp2;go_ret;exact n.o
theorem Qkz(b c j k:Nat)(p q:Rat)(w:Vz)(f:RatVal w b p)(g:RatVal w c q)(h:Fits p j)(i:Fits q k)(l:j+k<274877906000):
 Calls prog 34 #[.pointer (some ⟨b,0,none⟩),.pointer (some ⟨c,0,none⟩)] w (NewRat w (p*q)):=by
 have m:=Hi (Qst w.heap.size b c j k p q _ (Qgo w) (f.alloc _) (g.alloc _) h i l );clear f g h i l;go_enter func34,ntmps34;go_wp2_with fail;refine m.o.mono ?_;rintro e w1 a;have n:=Hi (RatOk.new a);obtain⟨rfl,d,r⟩:=a;clear d r m;go_wp2;go_ret;exact n.o
theorem ref_N(x:Nat)(w:Vz)(d:x<1000000):
 Calls prog 35 #[.int .i64 x] w (NewRat w (x:Rat)):=by
 have c:=Hi (Qs7 w.heap.size x _ (Qgo w) d);go_enter func35,ntmps35;go_wp2_with fail;refine c.o.mono ?_;rintro e w1 a;have f:=Hi (RatOk.new a);obtain⟨rfl,b,g⟩:=a;clear b g c;go_wp2;go_ret;exact f.o
theorem Qci{a b j k:Nat}(c:a<2 ^ j)(d:b<2 ^ k):a*b<2 ^ (j+k):=by rw[Nat.pow_add];exact Nat.mul_lt_mul'' c d
theorem Fits.mul{p q:Rat}{j k:Nat}(h:Fits p j)(a:Fits q k)(b:0<j):Fits (p*q) (j+k):=by
 rw[<-Qgj];refine Fits.mk ?_ ?_ (by omega)
 . rw[Int.natAbs_mul];exact Qci h.1 a.1
 . rw[Int.natAbs_mul];exact Qci h.2 a.2
theorem Fits.add{p q:Rat}{j k:Nat}(h:Fits p j)(a:Fits q k):Fits (p+q) (j+k+1):=by
 rw[<-Qgk];have d:=Qci h.1 a.2;have b:=Qci a.1 h.2;have e:(2:Nat) ^ (j+k+1)=2 ^ (j+k)*2:=Nat.pow_succ _ _;rw[Nat.add_comm k j] at b;refine Fits.mk ?_ ?_ (by omega)
 .
  have c:=Int.natAbs_add_le (p.num*(q.den:Int)) (q.num*(p.den:Int));rw[Int.natAbs_mul,Int.natAbs_mul,Int.natAbs_natCast,Int.natAbs_natCast] at c;omega
 .
  rw[Int.natAbs_mul,Int.natAbs_natCast,Int.natAbs_natCast];have:=Qci h.2 a.2;omega
theorem Fits.sub{p q:Rat}{j k:Nat}(h:Fits p j)(a:Fits q k):Fits (p - q) (j+k+1):=by
 rw[Rat.sub_eq_add_neg];exact h.add a.neg
structure RBag (w0 w:Vz) (L:List (Nat × Rat × Nat)):Prop where
 base:Bl w0 w
 glob:∃m,w.cell? ⟨4,0,none⟩=some (.int .i64 m)
 ts:∀t,t∈ L->RatVal w t.1 t.2.1/\Fits t.2.1 t.2.2/\0<t.2.2
theorem RBag.start{w:Vz}(h:∃m,w.cell? ⟨4,0,none⟩=some (.int .i64 m)):RBag w w []:=⟨Below.refl _ _,h,fun t a=>by cases a⟩
theorem RBag.below{w0 w b:Vz}{L:List (Nat × Rat × Nat)}(h:RBag w0 w L)(a:Bl w b):RBag w0 b L:=by
 refine⟨h.base.trans (a.mono h.base.size),?_,fun t c=>⟨(h.ts t c).1.below a,(h.ts t c).2⟩⟩;obtain⟨m,d⟩:=h.glob;exact⟨m,ce a (World.block_lt_of_cell? _ _ d) d⟩
theorem RBag.drew{w0 w:Vz}{L:List (Nat × Rat × Nat)}(h:RBag w0 w L):RBag w0 w.drew L:=h.below bR.drew
theorem RBag.alloc{w0 w:Vz}{L:List (Nat × Rat × Nat)}(h:RBag w0 w L)(o:Obj):RBag w0 (w.alloc o) L:=h.below (bR.alloc lZ _)
theorem RBag.put{w0 w:Vz}{L:List (Nat × Rat × Nat)}{b k:Nat}{q:Rat}(h:RBag w0 w L)(c:RatVal w b q)(d:Fits q k)(hk:0<k):RBag w0 w ((b,q,k) :: L):=
 ⟨h.base,h.glob,fun t a=>by
   rcases List.mem_cons.1 a with rfl|a
   . exact⟨c,d,hk⟩
   . exact h.ts t a⟩
theorem RBag.rebase{w0 w:Vz}{L:List (Nat × Rat × Nat)}(h:RBag w0 w L):RBag w w L:=⟨Below.refl _ _,h.glob,h.ts⟩
def RNew(w0:Vz)(L:List (Nat × Rat × Nat))(q:Rat)(k:Nat)(e:Ending)(w':Vz):Prop:=∃b,e=.returned (.pointer (some ⟨b,0,none⟩))/\RBag w0 w' ((b,q,k) :: L)
theorem RBag.new{w0 w a:Vz}{L:List (Nat × Rat × Nat)}{q:Rat}{k:Nat}{e:Ending}(h:RBag w0 w L)(c:NewRat w q e a)(d:Fits q k)(hk:0<k):RNew w0 L q k e a:=by
 obtain⟨⟨b,f,_,g⟩,i⟩:=c;exact⟨b,f,(h.below i).put g d hk⟩
theorem RBag.add{w0 w:Vz}{L:List (Nat × Rat × Nat)}{c d j k:Nat}{p q:Rat}(h:RBag w0 w L)(f:(c,p,j)∈ L)(g:(d,q,k)∈ L)(i:j+k<274877906000):
 Calls prog 32 #[.pointer (some ⟨c,0,none⟩),.pointer (some ⟨d,0,none⟩)] w (RNew w0 L (p+q) (j+k+1)):=by
 have a:=h.ts _ f;have b:=h.ts _ g;exact(Qky c d j k p q w a.1 b.1 a.2.1 b.2.1 i).mono fun e m l=>h.new l (a.2.1.add b.2.1) (by omega)
theorem RBag.nought{w0 w:Vz}{L:List (Nat × Rat × Nat)}(h:RBag w0 w L):
 Calls prog 35 #[.int .i64 0] w (RNew w0 L 0 1):=
 (ref_N 0 w (by decide)).mono fun e b a=>h.new a Fits.zero (by decide)
theorem RBag.of{w0 w:Vz}{L:List (Nat × Rat × Nat)}{n:Nat}(s:Vs)(h:RBag w0 w L)(c:s.size<=n)(f:n<=1073741824):
 Calls prog 36 #[.string s] w fun e a=>∃q,QOf s.data.toList q/\RNew w0 L q (4*n+1) e a:=by
 obtain⟨m,d⟩:=h.glob;refine(Qkx s m w d (by omega)).mono ?_;rintro e a ⟨q,b,hk⟩;exact⟨q,b,h.new hk (b.fits (by simpa using c)) (by omega)⟩
theorem RBag.sign{w0 w:Vz}{L:List (Nat × Rat × Nat)}{a j:Nat}{p:Rat}(h:RBag w0 w L)(b:(a,p,j)∈ L):
 Calls prog 68 #[.pointer (some ⟨a,0,none⟩)] w fun e c=>e=.returned (.int .i64 (sgn3 p.num))/\c=w:=
 Qsz a p w (h.ts _ b).1
theorem QOf.empty:QOf [] 0:=⟨0,.inr ⟨fun h=>h.1.1 rfl,rfl⟩,rfl⟩
theorem SB.other{w:Vz}{b g:Nat}{t:Vr}{C:Vw}(h:SB w b t C)(a:b≠g)(i:Nat)(v:Value):SB (w.setCell ⟨g,i,none⟩ v) b t C:=by
 unfold SB at h ⊢;rw[Below.heap_setCell _ _ _ _ a];exact h
theorem Row.only32{w k:Vz}{a:Vx}{d:Nat}{l:Vy}{c:Nat}(h:Row .u32 w a d l)(f:Only c w k)(p:∀(i:Nat) (n:Int),w.cell? ⟨c,i,none⟩≠some (.int .u32 n)):Row .u32 k a d l:=by
 refine⟨h.fit,?_,fun i q=>?_⟩
 .
  rcases h.shape with g|⟨e,b,rfl,m⟩
  . exact .inl g
  . exact .inr ⟨e,b,rfl,by have:=f.size;omega⟩
 .
  obtain⟨e,b,g,m,o⟩:=h.cell i q;have j:e≠c:=by
   rintro rfl;exact p _ _ o
  exact⟨e,b,g,by have:=f.size;omega,(World.cell?_of_block (w:=w) (f.block e m j)).trans o⟩
theorem RatVal.only32{w j:Vz}{b c:Nat}{q:Rat}{t:Vr}{C:Vw}(h:RatVal w b q)(e:Only c w j)(f:SB w c t C)(k:t≠123)(l:∀(i:Nat) (n:Int),C[i]?≠some (.int .u32 n)):RatVal j b q:=by
 obtain⟨D,m,c1,o,p,c2,r,h,s⟩:=h;have g:b≠c:=by
  rintro rfl;have a:=h.sb;unfold SB at a f;rw[f] at a;injection a with a
  injection a with _ u _
  exact k u
 have d:∀(i:Nat) (n:Int),w.cell? ⟨c,i,none⟩≠some (.int .u32 n):=fun i n=>by rw[f.cell];exact l i n
 exact⟨D,m,c1,o,p,c2,r,⟨h.sb.only e g,⟨h.num.row.only32 e d,h.num.num,h.num.short⟩,⟨h.den.row.only32 e d,h.den.num,h.den.short⟩⟩,s⟩
structure U64 (w:Vz) (a:Vx) (cap:Nat) (l:Vy) (n:Nat):Prop where
 row:Row .u64 w a cap l
 num:Num 18446744073709551616 l n
 short:l.length<=1099511627776
theorem U64.below{w c:Vz}{a:Vx}{b:Nat}{l:Vy}{n:Nat}(h:U64 w a b l n)(d:Bl w c):U64 c a b l n:=⟨h.row.below d,h.num,h.short⟩
theorem U64.drew{w:Vz}{a:Vx}{b:Nat}{l:Vy}{n:Nat}(h:U64 w a b l n):U64 w.drew a b l n:=h.below bR.drew
theorem U64.nil(w:Vz):U64 w none 0 [] 0:=⟨Row.nil _ _,Num.zero _,by simp⟩
theorem Qcx(L:Int)(n:Nat)(a:L=n)(b:n<=2199023255552)(w:Vz):
 (Instr.makeSlice 105 (.int .i64 L) (.int .i64 L)).run prog w=.ok (.slice (some ⟨w.heap.size,0,none⟩) n n) (w.alloc (.cells (wordCells .u64 (zeros n)) 190)):=by
 subst a;rw[<-Qd6];exact Go.run_make_row' 105 190 (.int .u64 0) 8 underlying105 Tryz.info64 rfl .i64 .i64 n (by omega) (by omega) w
theorem add64(x y c:Nat)(b:x<18446744073709551616)(e:y<18446744073709551616)(a:c<=1):∃r d:Nat,r<18446744073709551616/\d<=1/\r+18446744073709551616*d=x+y+c/\
 ∀w,(callFunc 223 #[.int .u64 x,.int .u64 y,.int .u64 c]).run prog w=.ok (.value (.tuple #[.int .u64 (r:Int),.int .u64 (d:Int)])) w:=
 ⟨(x+y+c) % 18446744073709551616,(x+y+c) / 18446744073709551616,by omega,by omega,by omega,fun w=>Any7.bits_Add64 Tryz.lays25 x y c a w⟩
theorem Qcy(x y:Nat)(a:x<18446744073709551616)(b:y<18446744073709551616):∃r d:Nat,r<18446744073709551616/\d<=1/\r+18446744073709551616*d=x+y/\
 ∀w,(callFunc 223 #[.int .u64 x,.int .u64 y,.int .u64 0]).run prog w=.ok (.value (.tuple #[.int .u64 (r:Int),.int .u64 (d:Int)])) w:=
 add64 x y 0 a b (by decide)
theorem sub64(x y c:Nat)(b:x<18446744073709551616)(e:y<18446744073709551616)(a:c<=1):∃r d:Nat,r<18446744073709551616/\d<=1/\r+c+y=x+18446744073709551616*d/\
 ∀w,(callFunc 225 #[.int .u64 x,.int .u64 y,.int .u64 c]).run prog w=.ok (.value (.tuple #[.int .u64 (r:Int),.int .u64 (d:Int)])) w:=by
 refine⟨(x+18446744073709551616 - y - c) % 18446744073709551616,if x<y+c then 1 else 0,by omega,by split<;>omega,by split<;>omega,fun w=>Any7.bits_Sub64 Tryz.lays26 x y c a w⟩
theorem Qjq(x y:Nat)(a:x<18446744073709551616)(b:y<18446744073709551616):∃r d:Nat,r<18446744073709551616/\d<=1/\r+y=x+18446744073709551616*d/\
 ∀w,(callFunc 225 #[.int .u64 x,.int .u64 y,.int .u64 0]).run prog w=.ok (.value (.tuple #[.int .u64 (r:Int),.int .u64 (d:Int)])) w:=
 sub64 x y 0 a b (by decide)
theorem mul64(x y:Nat)(a:x<18446744073709551616)(b:y<18446744073709551616):∃h l:Nat,h<18446744073709551616/\l<18446744073709551616/\l+18446744073709551616*h=x*y/\
 ∀w,Calls prog 226 #[.int .u64 x,.int .u64 y] w fun e c=>e=.returned (.tuple #[.int .u64 (h:Int),.int .u64 (l:Int)])/\c=w:=by
 refine⟨x*y / 18446744073709551616,x*y % 18446744073709551616,?_,Nat.mod_lt _ (by decide),Nat.mod_add_div _ _,fun w=>Any.bits_Mul64 Tryz.lays264 x y a b w⟩;rw[Nat.div_lt_iff_lt_mul (by decide)];exact Nat.mul_lt_mul'' a b
theorem Qby(a:Vx)(c:Nat)(l:Vy)(i:Nat)(w:Vz)(h:Row .u64 w a c l)(hl:l.length<=1099511627776)(n:i<=2199023255552):
 Calls prog 224 #[.slice a l.length c,.int .i64 i] w fun e j=>e=.returned (.int .u64 ((l.getD i 0:Nat):Int))/\j=w:=by
 by_cases f:i<l.length
 .
  obtain⟨b,k,rfl,o,m⟩:=h.cell i f;obtain⟨d,g⟩:=nm (l.getD i 0);rw[g] at m;rw[g];clear g h;go_enter func224,ntmps224;go_wp2;go_ret;exact⟨rfl,rfl⟩
 .
  rw[Qbp l i (by omega)];clear h;go_enter func224,ntmps224;go_wp2;go_ret;exact⟨rfl,rfl⟩
theorem Qqx(l:Vy)(k:Nat)(hk:k<=l.length)(h:k=0∨l.getD (k - 1) 0≠0):Trim (l.take k):=by
 rcases h with rfl|h
 . left;simp
 .
  by_cases a:k=0
  . left;subst a;simp
  .
   right;rw[List.length_take,Nat.min_eq_left hk,List.getD_eq_getElem?_getD,List.getElem?_take_of_lt (by omega),<-List.getD_eq_getElem?_getD];exact h
theorem Qqy(l:Vy)(k:Nat)(hk:k<l.length)(h:l.getD k 0=0):val 18446744073709551616 (l.take (k+1))=val 18446744073709551616 (l.take k):=by
 rw[Qb5 _ l k hk,h];simp
theorem Qf5(a:Vx)(c:Nat)(l:Vy)(w:Vz)(h:Row .u64 w a c l)(hl:l.length<=1099511627776):
 Calls prog 187 #[.slice a l.length c] w fun e t=>(∃k,k<=l.length/\e=.returned (.slice a k c)/\val 18446744073709551616 (l.take k)=val 18446744073709551616 l/\Trim (l.take k))/\t=w:=by
 have m:=h.fit;go_enter func187,ntmps187;go_wp2;go_loop [3] (fun n=>∃k:Nat,k<=l.length/\n=.int .i64 k/\val 18446744073709551616 (l.take k)=val 18446744073709551616 l) (fun n=>(intOf n).toNat)
 case atStart=>exact⟨l.length,Nat.le_refl _,rfl,by rw[List.take_length]⟩
 case round=>
  obtain⟨k,hk,rfl,p⟩:=hrel;have f:O (val 18446744073709551616 (l.take k)=val 18446744073709551616 l):=p;clear p;by_cases u:k=0
  .
   subst u;rcases h.shape with ⟨rfl,rfl⟩|⟨b,g,rfl,v⟩
   all_goals
    go_wp2;go_ret;exact⟨⟨0,by omega,by simp,f.o,.inl (by simp)⟩,rfl⟩
  .
   obtain⟨b,g,rfl,v,q⟩:=h.cell (k - 1) (by omega);obtain⟨j,rfl⟩:∃j,k=j+1:=⟨k - 1,by omega⟩;simp only[Nat.add_sub_cancel] at q;obtain⟨d,i⟩:=nm (l.getD j 0);rw[i] at q;have r:O (l.getD j 0=d):=i;clear i;by_cases s:d=0
   .
    subst s;go_wp2;go_round
    case rel=>exact⟨j,by omega,by go_num,(Qqy l j (by omega) r.o).symm.trans f.o⟩
    case measure=>simp[intOf]
   .
    have x:((d:Int) == 0)=false:=by simp;omega
    go_wp2;go_ret;exact⟨⟨j+1,hk,by simp,f.o,Qqx l (j+1) hk (.inr (by rw[Nat.add_sub_cancel,r.o];exact s))⟩,rfl⟩
theorem Qcz(g n a x:Nat)(rs:Vy)(w:Vz)(h:Blk .u64 190 w g rs)(hl:rs.length=n)(j:Small 18446744073709551616 rs)(k:n<=a)(o:n<=1099511627776)(l:val 18446744073709551616 rs=x):
 Calls prog 187 #[.slice (some ⟨g,0,none⟩) n a] w fun e m=>(∃r,e=.returned (.slice (some ⟨g,0,none⟩) r.length a)/\U64 w (some ⟨g,0,none⟩) a r x)/\m=w:=by
 have c:=h.row n (by omega) a k;rw[List.take_of_length_le (by omega)] at c;have i:=Qf5 (some ⟨g,0,none⟩) a rs w c (by omega);rw[hl] at i;refine i.mono ?_;rintro e w1 ⟨⟨q,p,rfl,d,f⟩,rfl⟩;have b:(rs.take q).length=q:=by rw[List.length_take];omega
 exact⟨⟨rs.take q,by rw[b],c.take q (by omega),⟨j.take q,f,d.trans l⟩,by rw[b];omega⟩,rfl⟩
theorem Qqz{l:Vy}(h:Num 18446744073709551616 l 1):l= [1]:=h.inj (by decide) ⟨fun d a=>by simp at a;omega,.inr (by simp),by simp[val]⟩
theorem Qc0(a:Vx)(f:Nat)(l:Vy)(n:Nat)(w:Vz)(h:U64 w a f l n):
 Calls prog 172 #[.slice a l.length f] w fun e o=>e=.returned (.bool (decide (n=1)))/\o=w:=by
 have r:=h.short;by_cases k:l.length=1
 .
  obtain⟨b,p,rfl,s,j⟩:=h.row.cell 0 (by omega);obtain⟨d,g⟩:=nm (l.getD 0 0);rw[g] at j;have q:n=d:=by
   rw[<-h.num.eq]
   match l,k with
   | [x],_=>simp at g;simp[val,g]
  subst q;rw[Nat.add_zero] at j;by_cases c:n=1
  .
   subst c;clear h g;go_enter func172,ntmps172;go_wp2;go_ret;exact⟨rfl,rfl⟩
  .
   have m:((n:Int) == 1)=false:=by rw[beq_eq_false_iff_ne];omega
   rw[show decide (n=1)=false by simpa using c];clear h g c;go_enter func172,ntmps172;go_wp2;go_ret;exact⟨by simp[m],rfl⟩
 .
  have i:n≠1:=fun j=>k (by subst j;rw[Qqz h.num];rfl)
  have m:((l.length:Int) == 1)=false:=by rw[beq_eq_false_iff_ne];omega
  rw[show decide (n=1)=false by simpa using i];clear h k i;go_enter func172,ntmps172;go_wp2;go_ret;exact⟨rfl,rfl⟩
theorem Qc1(G H:Vx)(c1 c2:Nat)(l m:Vy)(x y:Nat)(w:Vz)(a:U64 w G c1 l x)(c:U64 w H c2 m y):
 Calls prog 176 #[.slice G l.length c1,.slice H m.length c2] w fun e M=>e=.returned (.int .i64 (cmp3 x y))/\Below w.heap.size w M:=by
 have R:=a.short;have S:=c.short;by_cases f:l.length<m.length
 .
  have u:((l.length:Int) != (m.length:Int))=true:=by rw[bne_iff_ne];omega
  have v:cmp3 x y= -1:=Qcr (by rw[<-a.num.eq,<-c.num.eq];exact Qau (by omega) a.num.small c.num.trim f);have A:O (cmp3 x y= -1):=v;clear v a c;go_enter func176,ntmps176;go_wp2;go_ret;exact⟨by rw[A.o];rfl,Below.refl _ _⟩
 by_cases n:m.length<l.length
 .
  have u:((l.length:Int) != (m.length:Int))=true:=by rw[bne_iff_ne];omega
  have v:cmp3 x y=1:=Qdi (by rw[<-a.num.eq,<-c.num.eq];exact Qau (by omega) c.num.small a.num.trim n);have A:O (cmp3 x y=1):=v;clear v a c;go_enter func176,ntmps176;go_wp2;go_ret;exact⟨by rw[A.o];rfl,Below.refl _ _⟩
 have p:m.length=l.length:=by omega
 have I:O (m.length=l.length):=p;rw[p];have u:((l.length:Int) != (l.length:Int))=false:=by simp
 clear f n p;go_enter func176,ntmps176;go_wp2;go_loopw [5] (fun i wr=>∃k:Nat,k<=l.length/\i=.int .i64 ((k:Int) - 1)/\l.drop k=m.drop k/\Below w.heap.size w wr) (fun i _=>(intOf i+1).toNat)
 case atStart=>exact⟨l.length,Nat.le_refl _,rfl,by rw[List.drop_of_length_le lZ,List.drop_of_length_le (by rw[I.o];exact Nat.le_refl _)],Below.refl _ _⟩
 case round=>
  obtain⟨k,hk,rfl,s,t⟩:=hrel;have z:O (l.drop k=m.drop k):=s;clear s;by_cases N:k=0
  .
   subst N;go_wp2;go_ret;exact⟨by rw[Qhs (by rw[<-a.num.eq,<-c.num.eq];have:=z.o;simp at this;rw[this])];rfl,t⟩
  .
   obtain⟨j,rfl⟩:∃j,k=j+1:=⟨k - 1,by omega⟩;have g:j<l.length:=by omega
   have h:j<m.length:=by have:=I.o;omega
   obtain⟨b,P,rfl,B,q⟩:=a.row.cell j g;obtain⟨T,J,rfl,C,r⟩:=c.row.cell j h;obtain⟨d,s⟩:=nm (l.getD j 0);obtain⟨e,D⟩:=nm (m.getD j 0);rw[s] at q;rw[D] at r;have K:=ce t B q;have L:=ce t C r;have E:O (l.getD j 0=d):=s;have F:O (m.getD j 0=e):=D;clear s D q r;have Q:((j+1:Nat):Int) - 1=(j:Int):=by omega
   rw[Q];by_cases f:d<e
   .
    go_wp2;go_region
    all_goals
     go_wp2;go_ret;exact⟨by rw[Qcr (by rw[<-a.num.eq,<-c.num.eq];exact Qdj (by omega) a.num.small j g h z.o (by rw[E.o,F.o];exact f))];rfl,t.drew⟩
   by_cases n:e<d
   .
    go_wp2;go_region
    all_goals
     go_wp2;go_region
    all_goals
     go_wp2;go_ret;exact⟨by rw[Qdi (by rw[<-a.num.eq,<-c.num.eq];exact Qdj (by omega) c.num.small j h g z.o.symm (by rw[E.o,F.o];omega))];rfl,t.drew.drew⟩
   .
    go_wp2;go_region
    all_goals
     go_wp2;go_region
    all_goals
     go_wp2;go_roundw
     case rel=>exact⟨j,by omega,by go_num,Qht g h z.o (E.o.trans ((show d=e by omega).trans F.o.symm)),t.drew.drew⟩
     case measure=>simp[intOf]
theorem Qq0(k c d e r a:Nat)(rs l m:Vy)(hk:k<rs.length)(b:l.getD k 0=d)(f:m.getD k 0=e)(g:r+18446744073709551616*a=d+e+c)
 (h:val 18446744073709551616 (rs.take k)+18446744073709551616 ^ k*c=val 18446744073709551616 (l.take k)+val 18446744073709551616 (m.take k)):
 val 18446744073709551616 ((rs.set k r).take (k+1))+18446744073709551616 ^ (k+1)*a=val 18446744073709551616 (l.take (k+1))+val 18446744073709551616 (m.take (k+1)):=by
 rw[take_set _ _ _ hk,Qal,List.length_take,Nat.min_eq_left (by omega),Qae,Qae,b,f,Nat.pow_succ];have i:18446744073709551616 ^ k*(r+18446744073709551616*a)=18446744073709551616 ^ k*(d+e+c):=by rw[g]
 rw[Nat.mul_add,Nat.mul_add,Nat.mul_add,<-Nat.mul_assoc] at i;omega
theorem Qq1(D E:Vx)(c1 c2:Nat)(l m:Vy)(x y:Nat)(w:Vz)(X:U64 w D c1 l x)(Y:U64 w E c2 m y)(hl:l.length<1099511627776)(hm:m.length<1099511627776):
 Calls prog 184 #[.slice D l.length c1,.slice E m.length c2] w fun e Z=>(∃a s r,e=.returned (.slice a r.length s)/\U64 Z a s r (x+y))/\Below w.heap.size w Z:=by
 obtain⟨n,hn,F,G⟩:∃n,max l.length m.length=n/\l.length<=n/\m.length<=n:=⟨_,rfl,by omega,by omega⟩;have aa:max (l.length:Int) (m.length:Int)=(n:Int):=by omega
 have H:∀w,(Instr.makeSlice 105 (.int .i64 ((n:Int)+1)) (.int .i64 ((n:Int)+1))).run prog w=.ok (.slice (some ⟨w.heap.size,0,none⟩) (n+1) (n+1)) (w.alloc (.cells (wordCells .u64 (zeros (n+1))) 190)):=
  fun w=>Qcx _ (n+1) (by omega) (by omega) w
 have ab:n<1099511627776:=by omega
 obtain⟨I,J⟩:=Ia X Y;clear X Y hn;go_enter func184,ntmps184;go_wp2;clear H;go_loopw [7,18] (fun c i wr=>∃(k q:Nat) (rs:Vy),k<=n/\q<=1/\c=.int .u64 q/\i=.int .i64 k/\Blk .u64 190 wr w.heap.size rs/\rs.length=n+1/\Small 18446744073709551616 rs/\
  val 18446744073709551616 (rs.take k)+18446744073709551616 ^ k*q=val 18446744073709551616 (l.take k)+val 18446744073709551616 (m.take k)/\Below w.heap.size w wr) (fun _ i _=>n - (intOf i).toNat)
 case atStart=>exact⟨0,0,zeros (n+1),by omega,by omega,rfl,rfl,Blk.new _ _ _ _,Qah _,Qaq _ _ (by omega),by simp[val],bR.alloc lZ _⟩
 case round=>
  obtain⟨k,c,rs,hk,hc,rfl,rfl,hB,g,t,hv,hb⟩:=hrel;obtain⟨HV,b,HB,u,f⟩:=Id hv g hB t hb;clear hv t hb;by_cases ad:k<n
  .
   obtain⟨d,B⟩:=nm (l.getD k 0);obtain⟨e,C⟩:=nm (m.getD k 0);have K:d<18446744073709551616:=by rw[<-B];exact I.o.num.small.getD (by omega) k
   have L:e<18446744073709551616:=by rw[<-C];exact J.o.num.small.getD (by omega) k
   obtain⟨r,q,hr,M,v,h⟩:=add64 d e c K L hc;obtain⟨z,A⟩:=nm (rs.getD k 0);have g1:=hB.free k;have N:=hB.cell k (by omega);rw[A] at N;obtain⟨j,p⟩:=Ia (Qby D c1 l k wr (I.o.row.below f.o) (by omega) (by omega)) (Qby E c2 m k wr (J.o.row.below f.o) (by omega) (by omega));rw[B] at j;rw[C] at p;obtain⟨O,P,Q⟩:=Ib B C v;clear B C A hB g v;go_wp2_with fail;refine j.o.mono ?_;rintro R w1 ⟨rfl,S⟩;subst S;go_wp2_with fail;refine p.o.mono ?_;rintro R w2 ⟨rfl,T⟩;subst T;clear j p;go_wp2_with (simp only[h]);go_roundw
   case rel=>exact⟨k+1,q,rs.set k r,by omega,M,rfl,by go_num,HB.o.set k _,by rw[List.length_set];exact b.o,u.o.set k hr,Qq0 k c d e r q rs l m (by have:=b.o;omega) O.o P.o Q.o HV.o,f.o.setCell lZ _⟩
   case measure=>simp[intOf];omega
  .
   obtain⟨z,A⟩:=nm (rs.getD n 0);have g1:=hB.free n;have N:=hB.cell n (by omega);rw[A] at N;clear A hB g;go_wp2_with fail;have U:(rs.set n c).length=n+1:=by rw[List.length_set];exact b.o
   have V:Blk .u64 190 (wr.setCell ⟨w.heap.size,n,none⟩ (.int .u64 (c:Int))) w.heap.size (rs.set n c):=HB.o.set n c;have W:val 18446744073709551616 (rs.set n c)=x+y:=by
    rw[Qe9 _ _ _ _ b.o];have R:k=n:=by omega
    have e2:=HV.o;rw[R,Qa5 _ l _ F,Qa5 _ m _ G,I.o.num.eq,J.o.num.eq] at e2;omega
   refine(Qcz w.heap.size (n+1) (n+1) (x+y) (rs.set n c) _ V U (u.o.set _ (by omega)) lZ (by omega) W).mono ?_;rintro e w1 ⟨⟨r,rfl,hu⟩,rfl⟩;go_wp2;go_ret;exact⟨⟨_,_,r,rfl,hu⟩,f.o.setCell lZ _⟩
theorem Qq2(a1 L:Vx)(c1 c2:Nat)(l m:Vy)(x y:Nat)(w:Vz)(t:U64 w a1 c1 l x)(u:U64 w L c2 m y)(ab:y<=x):
 Calls prog 185 #[.slice a1 l.length c1,.slice L m.length c2] w fun e I=>(∃a v r,e=.returned (.slice a r.length v)/\U64 I a v r (x - y))/\Below w.heap.size w I:=by
 have s1:=t.short;have s2:=u.short;have M:m.length<=l.length:=by
  apply bC;intro hc;have:=Qau (B:=18446744073709551616) (by decide) t.num.small u.num.trim (by omega);rw[t.num.eq,u.num.eq] at this;omega
 have N:∀w,(Instr.makeSlice 105 (.int .i64 (l.length:Int)) (.int .i64 (l.length:Int))).run prog w=.ok (.slice (some ⟨w.heap.size,0,none⟩) l.length l.length) (w.alloc (.cells (wordCells .u64 (zeros l.length)) 190)):=
  fun w=>Qcx _ l.length rfl (by omega) w
 obtain⟨O,P⟩:=Ia t u;clear t u;go_enter func185,ntmps185;go_wp2;clear N;go_loopw [7,14] (fun c i wr=>∃(k s:Nat) (rs:Vy),k<=l.length/\s<=1/\c=.int .u64 s/\i=.int .i64 k/\Blk .u64 190 wr w.heap.size rs/\rs.length=l.length/\Small 18446744073709551616 rs/\
  val 18446744073709551616 (rs.take k)+val 18446744073709551616 (m.take k)=val 18446744073709551616 (l.take k)+18446744073709551616 ^ k*s/\Below w.heap.size w wr) (fun _ i _=>l.length - (intOf i).toNat)
 case atStart=>exact⟨0,0,zeros l.length,by omega,by omega,rfl,rfl,Blk.new _ _ _ _,Qah _,Qaq _ _ (by omega),by simp[val],bR.alloc lZ _⟩
 case round=>
  obtain⟨k,c,rs,hk,hc,rfl,rfl,hB,A,C,hv,hb⟩:=hrel;obtain⟨HV,f,HB,n,g⟩:=Id hv A hB C hb;clear hv C hb;by_cases Q:k<l.length
  .
   obtain⟨b,D,rfl,E,j⟩:=O.o.row.cell k Q;obtain⟨d,J⟩:=nm (l.getD k 0);obtain⟨e,K⟩:=nm (m.getD k 0);have R:d<18446744073709551616:=by rw[<-J];exact O.o.num.small.getD (by omega) k
   have S:e<18446744073709551616:=by rw[<-K];exact P.o.num.small.getD (by omega) k
   rw[J] at j;have aa:=ce g.o E j;obtain⟨r,s,hr,T,F,q⟩:=sub64 d e c R S hc;obtain⟨z,hz⟩:=nm (rs.getD k 0);have g1:=hB.free k;have g2:=hB.cell k (by omega);rw[hz] at g2;have G:=Hi (Qby L c2 m k wr.drew (P.o.row.below g.o.drew) (by omega) (by omega));rw[K] at G;obtain⟨U,V,W⟩:=Ib J K F;have i0:(0:Int)<=(k:Int):=by omega
   have i1:(k:Int)<(l.length:Int):=by omega
   have ad:=(((g.o.setCell (p:=⟨w.heap.size,k,none⟩) lZ (.int .u64 (r:Int))).drew).cell (p:=⟨b,D+k,none⟩) E).trans j;clear J K hz hB A F j;go_wp2_with fail;go_region_held3 (fun I=>I.cell? ⟨b,D+k,none⟩=some (.int .u64 d)) ((simp [*])) (first
    |(
     go_at_call 224;refine G.o.mono ?_;rintro e1 w2 ⟨rfl,X⟩
     subst X)
    |simp only[q])
   go_wp2;go_roundw
   case rel=>exact⟨k+1,s,rs.set k r,by omega,T,rfl,by go_num,(HB.o.set k _).drew,by rw[List.length_set];exact f.o,n.o.set k hr,Qfa _ k c d e r s rs l m (by have:=f.o;omega) U.o V.o W.o HV.o,(g.o.setCell lZ _).drew⟩
   case measure=>simp[intOf];omega
  .
   have e1:k=l.length:=by omega
   go_wp2_with fail;have Y:val 18446744073709551616 rs=x - y:=by
    have e2:=HV.o;have H:=Qab (B:=18446744073709551616) (by decide) n.o;rw[f.o] at H;rw[e1,List.take_of_length_le (by have:=f.o;omega),Qa5 _ m _ M,List.take_length,O.o.num.eq,P.o.num.eq] at e2;have Z:c=0:=by
     rcases Nat.eq_zero_or_pos c with h|h
     . exact h
     .
      have:c=1:=by omega
      subst this;omega
    subst Z;omega
   refine(Qcz w.heap.size l.length l.length (x - y) rs _ HB.o f.o n.o lZ (by omega) Y).mono ?_;rintro e w1 ⟨⟨r,rfl,hu⟩,rfl⟩;go_wp2;go_ret;exact⟨⟨_,_,r,rfl,hu⟩,g.o⟩
structure RowDone (w w':Vz) (g off n:Nat) (rs rs':Vy):Prop where
 blk:Blk .u64 190 w' g rs'
 len:rs'.length=rs.length
 small:Small 18446744073709551616 rs'
 only:Only g w w'
 o:∀p,p<off∨off+n<=p->rs'.getD p 0=rs.getD p 0
theorem Row.onlyG{k:IntKind}{w n:Vz}{a:Vx}{d:Nat}{l:Vy}{g:Nat}(h:Row k w a d l)(j:Only g w n)(m:∀b c,a=some ⟨b,c,none⟩->b≠g):Row k n a d l:=by
 refine⟨h.fit,?_,fun i p=>?_⟩
 .
  rcases h.shape with f|⟨e,c,rfl,o⟩
  . exact .inl f
  . exact .inr ⟨e,c,rfl,by have:=j.size;omega⟩
 . obtain⟨e,c,f,o,q⟩:=h.cell i p
   exact⟨e,c,f,by have:=j.size;omega,(World.cell?_of_block (w:=w) (j.block e o (m e c f))).trans q⟩
theorem U64.onlyG{w f:Vz}{a:Vx}{c:Nat}{l:Vy}{n g:Nat}(h:U64 w a c l n)(i:Only g w f)(d:∀b e,a=some ⟨b,e,none⟩->b≠g):U64 f a c l n:=⟨h.row.onlyG i d,h.num,h.short⟩
theorem Qf7{rs b:Vy}{a j x:Nat}(h:∀p,p<a∨a+j<=p->b.getD p 0=rs.getD p 0):∀p,p<a∨a+(j+1)<=p->(b.set (a+j) x).getD p 0=rs.getD p 0:=by
 intro p c;rw[getD_set_ne _ _ _ _ (by omega)];exact h p (by omega)
theorem Qj1(B p a c over b t R:Nat)(rs:Vy)(d:p<rs.length)(e:rs.getD p 0=a)(f:c+B*b=a+t+over)(h:val B rs+B ^ p*over=R):
 val B (rs.set p c)+B ^ (p+1)*b=R+B ^ p*t:=by
 have g:=Qbe B rs p c d;rw[e] at g;have i:B ^ p*(c+B*b)=B ^ p*(a+t+over):=by rw[f]
 rw[Nat.mul_add,Nat.mul_add,Nat.mul_add,<-Nat.mul_assoc] at i;rw[Nat.pow_succ];omega
theorem Qrs(B p a d c b t R S:Nat)(rs:Vy)(e:p<rs.length)(f:rs.getD p 0=a)(g:d+t+c=a+B*b)(h:val B rs+S=R+B ^ p*c):
 val B (rs.set p d)+(S+B ^ p*t)=R+B ^ (p+1)*b:=by
 have i:=Qbe B rs p d e;rw[f] at i;have j:B ^ p*(d+t+c)=B ^ p*(a+B*b):=by rw[g]
 rw[Nat.mul_add,Nat.mul_add,Nat.mul_add,<-Nat.mul_assoc] at j;rw[Nat.pow_succ];omega
theorem Qf8{v d over:Nat}(a:v<18446744073709551616)(b:d<18446744073709551616):v*d<=18446744073709551615*18446744073709551615:=Nat.mul_le_mul (by omega) (by omega)
theorem Qf9(B a j d:Nat)(m:Vy):B ^ a*(d*val B (m.take (j+1)))=B ^ a*(d*val B (m.take j))+B ^ (a+j)*(m.getD j 0*d):=by
 rw[Qae,Nat.mul_add,Nat.mul_add,Nat.pow_add]
 congr 1
 rw[Nat.mul_assoc,Nat.mul_comm (m.getD j 0) d,<-Nat.mul_assoc d,Nat.mul_comm d (B ^ j),Nat.mul_assoc]
theorem Qrt(g a r:Nat)(rs:Vy)(F:Vx)(c2:Nat)(m:Vy)(d:Nat)(w:Vz)(hB:Blk .u64 190 w g rs)(s:Small 18446744073709551616 rs)(hm:Row .u64 w F c2 m)(t:Small 18446744073709551616 m)(ag:m.length<=1099511627776)(hd:d<18446744073709551616)
 (aa:a+m.length<=rs.length) (ab:m.length<=r) (u:∀b o,F=some ⟨b,o,none⟩->b≠g):
 Calls prog 186 #[.slice (some ⟨g,a,none⟩) m.length r,.slice F m.length c2,.int .u64 d] w fun e w'=>∃over x,e=.returned (.int .u64 ((over:Nat):Int))/\over<18446744073709551616/\RowDone w w' g a m.length rs x/\val 18446744073709551616 x+18446744073709551616 ^ (a+m.length)*over=val 18446744073709551616 rs+18446744073709551616 ^ a*(d*val 18446744073709551616 m):=by
 obtain⟨G,H,HM,I,J⟩:=Id hB s hm t u;clear hB s hm t u;go_enter func186,ntmps186;go_wp2;go_loopw [7,19] (fun o i wr=>∃(k over:Nat) (n:Vy),k<=m.length/\over<18446744073709551616/\o=.int .u64 over/\i=.int .i64 k/\RowDone w wr g a k rs n/\val 18446744073709551616 n+18446744073709551616 ^ (a+k)*over=val 18446744073709551616 rs+18446744073709551616 ^ a*(d*val 18446744073709551616 (m.take k))) (fun _ i _=>m.length - (intOf i).toNat)
 case atStart=>exact⟨0,0,rs,by omega,by omega,rfl,rfl,⟨G.o,rfl,H.o,Only.refl _ _,fun _ _=>rfl⟩,by simp[val]⟩
 case round=>
  obtain⟨k,over,n,hk,y,rfl,rfl,q,p⟩:=hrel;obtain⟨c,HV⟩:=Ia q p;clear p;by_cases K:k<m.length
  .
   obtain⟨b,o,rfl,ah,L⟩:=(HM.o.onlyG c.o.only J.o).cell k K;obtain⟨v,p⟩:=nm (m.getD k 0);rw[p] at L;have A:v<18446744073709551616:=by rw[<-p];exact I.o.getD (by omega) k
   obtain⟨z,E⟩:=nm (n.getD (a+k) 0);have M:z<18446744073709551616:=by rw[<-E];exact c.o.small.getD (by omega) _
   have g1:=q.blk.free (a+k);have g2:=q.blk.cell (a+k) (by rw[q.len];omega);rw[E] at g2;obtain⟨h,l,hh,hl,N,B⟩:=mul64 v d A hd;obtain⟨l',c1,O,ad,P,Q⟩:=Qcy l over hl y;obtain⟨R,f,S,ae,T,U⟩:=Qcy z l' M O;have C:=Qf8 (over:=over) A hd;have j:R+18446744073709551616*(h+c1+f)=z+v*d+over:=by omega
   have V:h+c1+f<18446744073709551616:=by omega
   have af:h+c1<18446744073709551616:=by omega
   obtain⟨W,D,X,Y⟩:=Ic B j p E;clear q p E B j N P T C;go_wp2_with (first|(go_at_call 226;refine(W.o _).mono ?_;rintro e w2 ⟨rfl,Z⟩;subst Z)|simp only[Q]|simp only[U]);go_roundw
   case rel=>
    refine⟨k+1,h+c1+f,n.set (a+k) R,by omega,V,by go_num,by go_num,⟨c.o.blk.set _ _,by rw[List.length_set];exact c.o.len,c.o.small.set _ S,c.o.only.setCell _ _,Qf7 c.o.o⟩,?_⟩;have h1:=Qj1 18446744073709551616 (a+k) z R over (h+c1+f) (v*d) _ n (by rw[c.o.len];omega) Y.o (by rw[D.o]) HV.o;rw[Nat.add_assoc] at h1;rw[h1,Qf9,X.o];omega
   case measure=>simp[intOf];omega
  .
   have e1:k=m.length:=by omega
   subst e1;clear q;go_wp2;go_ret;exact⟨over,n,rfl,y,c.o,by have:=HV.o;rw[List.take_length] at this;exact this⟩
theorem Qru(g a r:Nat)(rs:Vy)(F:Vx)(c2:Nat)(m:Vy)(d:Nat)(w:Vz)(hB:Blk .u64 190 w g rs)(s:Small 18446744073709551616 rs)(hm:Row .u64 w F c2 m)(t:Small 18446744073709551616 m)(ag:m.length<=1099511627776)(hd:d<18446744073709551616)
 (aa:a+m.length<=rs.length) (ab:m.length<=r) (u:∀b o,F=some ⟨b,o,none⟩->b≠g):
 Calls prog 247 #[.slice (some ⟨g,a,none⟩) m.length r,.slice F m.length c2,.int .u64 d] w fun e w'=>∃over x,e=.returned (.int .u64 ((over:Nat):Int))/\over<18446744073709551616/\RowDone w w' g a m.length rs x/\val 18446744073709551616 x+18446744073709551616 ^ a*(d*val 18446744073709551616 m)=val 18446744073709551616 rs+18446744073709551616 ^ (a+m.length)*over:=by
 obtain⟨G,H,HM,I,J⟩:=Id hB s hm t u;clear hB s hm t u;go_enter func247,ntmps247;go_wp2;go_loopw [7,19] (fun o i wr=>∃(k over:Nat) (n:Vy),k<=m.length/\over<18446744073709551616/\o=.int .u64 over/\i=.int .i64 k/\RowDone w wr g a k rs n/\val 18446744073709551616 n+18446744073709551616 ^ a*(d*val 18446744073709551616 (m.take k))=val 18446744073709551616 rs+18446744073709551616 ^ (a+k)*over) (fun _ i _=>m.length - (intOf i).toNat)
 case atStart=>exact⟨0,0,rs,by omega,by omega,rfl,rfl,⟨G.o,rfl,H.o,Only.refl _ _,fun _ _=>rfl⟩,by simp[val]⟩
 case round=>
  obtain⟨k,over,n,hk,y,rfl,rfl,q,p⟩:=hrel;obtain⟨c,HV⟩:=Ia q p;clear p;by_cases K:k<m.length
  .
   obtain⟨b,o,rfl,ah,L⟩:=(HM.o.onlyG c.o.only J.o).cell k K;obtain⟨v,p⟩:=nm (m.getD k 0);rw[p] at L;have A:v<18446744073709551616:=by rw[<-p];exact I.o.getD (by omega) k
   obtain⟨z,E⟩:=nm (n.getD (a+k) 0);have M:z<18446744073709551616:=by rw[<-E];exact c.o.small.getD (by omega) _
   have g1:=q.blk.free (a+k);have g2:=q.blk.cell (a+k) (by rw[q.len];omega);rw[E] at g2;obtain⟨h,l,hh,hl,N,B⟩:=mul64 v d A hd;obtain⟨l',c1,O,ad,P,Q⟩:=Qcy l over hl y;obtain⟨R,f,S,ae,T,U⟩:=Qjq z l' M O;have C:=Qf8 (over:=over) A hd;have j:R+v*d+over=z+18446744073709551616*(h+c1+f):=by omega
   have V:h+c1+f<18446744073709551616:=by omega
   have af:h+c1<18446744073709551616:=by omega
   obtain⟨W,D,X,Y⟩:=Ic B j p E;clear q p E B j N P T C;go_wp2_with (first|(go_at_call 226;refine(W.o _).mono ?_;rintro e w2 ⟨rfl,Z⟩;subst Z)|simp only[Q]|simp only[U]);go_roundw
   case rel=>
    refine⟨k+1,h+c1+f,n.set (a+k) R,by omega,V,by go_num,by go_num,⟨c.o.blk.set _ _,by rw[List.length_set];exact c.o.len,c.o.small.set _ S,c.o.only.setCell _ _,Qf7 c.o.o⟩,?_⟩;have h1:=Qrs 18446744073709551616 (a+k) z R over (h+c1+f) (v*d) _ _ n (by rw[c.o.len];omega) Y.o D.o HV.o;rw[Nat.add_assoc a] at h1;rw[Qf9,X.o];exact h1
   case measure=>simp[intOf];omega
  .
   have e1:k=m.length:=by omega
   subst e1;clear q;go_wp2;go_ret;exact⟨over,n,rfl,y,c.o,by have:=HV.o;rw[List.take_length] at this;exact this⟩
theorem Qrv(g a j:Nat)(rs:Vy)(A:Vx)(c2:Nat)(m:Vy)(w:Vz)(hB:Blk .u64 190 w g rs)(l:Small 18446744073709551616 rs)(N:Row .u64 w A c2 m)(n:Small 18446744073709551616 m)(T:m.length<=1099511627776)
 (O:a+m.length<=rs.length) (P:m.length<=j) (p:∀b o,A=some ⟨b,o,none⟩->b≠g):
 Calls prog 248 #[.slice (some ⟨g,a,none⟩) m.length j,.slice A m.length c2] w fun e U=>∃over q,e=.returned (.int .u64 ((over:Nat):Int))/\over<=1/\RowDone w U g a m.length rs q/\val 18446744073709551616 q+18446744073709551616 ^ (a+m.length)*over=val 18446744073709551616 rs+18446744073709551616 ^ a*(1*val 18446744073709551616 m):=by
 obtain⟨B,C,V,D,E⟩:=Id hB l N n p;clear hB l N n p;go_enter func248,ntmps248;go_wp2;go_loopw [5,14] (fun o i wr=>∃(k over:Nat) (d:Vy),k<=m.length/\over<=1/\o=.int .u64 over/\i=.int .i64 k/\RowDone w wr g a k rs d/\val 18446744073709551616 d+18446744073709551616 ^ (a+k)*over=val 18446744073709551616 rs+18446744073709551616 ^ a*(1*val 18446744073709551616 (m.take k))) (fun _ i _=>m.length - (intOf i).toNat)
 case atStart=>exact⟨0,0,rs,by omega,by omega,rfl,rfl,⟨B.o,rfl,C.o,Only.refl _ _,fun _ _=>rfl⟩,by simp[val]⟩
 case round=>
  obtain⟨k,over,d,hk,r,rfl,rfl,h,f⟩:=hrel;obtain⟨c,Q⟩:=Ia h f;clear f;by_cases F:k<m.length
  .
   obtain⟨b,o,rfl,W,G⟩:=(V.o.onlyG c.o.only E.o).cell k F;obtain⟨v,f⟩:=nm (m.getD k 0);rw[f] at G;have H:v<18446744073709551616:=by rw[<-f];exact D.o.getD (by omega) k
   obtain⟨z,y⟩:=nm (d.getD (a+k) 0);have I:z<18446744073709551616:=by rw[<-y];exact c.o.small.getD (by omega) _
   have Z:=h.blk.free (a+k);have X:=h.blk.cell (a+k) (by rw[h.len];omega);rw[y] at X;obtain⟨R,s,J,t,u,K⟩:=add64 z v over I H r;obtain⟨x,L,M⟩:=Ib u f y;clear h f y u;go_wp2_with (simp only[K]);go_roundw
   case rel=>
    refine⟨k+1,s,d.set (a+k) R,by omega,t,by go_num,by go_num,⟨c.o.blk.set _ _,by rw[List.length_set];exact c.o.len,c.o.small.set _ J,c.o.only.setCell _ _,Qf7 c.o.o⟩,?_⟩;have S:=Qj1 18446744073709551616 (a+k) z R over s (v*1) _ d (by rw[c.o.len];omega) M.o (by rw[x.o];omega) Q.o;rw[Nat.add_assoc] at S;rw[S,Qf9,L.o];omega
   case measure=>simp[intOf];omega
  .
   have Y:k=m.length:=by omega
   subst Y;clear h;go_wp2;go_ret;exact⟨over,d,rfl,r,c.o,by have:=Q.o;rw[List.take_length] at this;exact this⟩
theorem Qj0(N F:Vx)(c1 c2:Nat)(l m:Vy)(x y:Nat)(w:Vz)(C:U64 w N c1 l x)(D:U64 w F c2 m y)(ab:l.length+m.length<=1099511627776):
 Calls prog 128 #[.slice N l.length c1,.slice F m.length c2] w fun e X=>(∃a G r,e=.returned (.slice a r.length G)/\U64 X a G r (x*y))/\Below w.heap.size w X:=by
 obtain⟨O,E⟩:=Ia C D;by_cases H:l.length=0
 .
  have hx:x=0:=(C.num.len_zero (by decide)).2 H;have Y:((l.length:Int) == 0)=true:=by simp[H]
  subst hx;clear C D;go_enter func128,ntmps128;go_wp2;go_ret;exact⟨⟨none,0,[],rfl,by rw[Nat.zero_mul];exact U64.nil _⟩,Below.refl _ _⟩
 by_cases I:m.length=0
 .
  have hy:y=0:=(D.num.len_zero (by decide)).2 I;have Y:((l.length:Int) == 0)=false:=by rw[beq_eq_false_iff_ne];omega
  have q2:((m.length:Int) == 0)=true:=by simp[I]
  subst hy;clear C D;go_enter func128,ntmps128;go_wp2;go_ret;exact⟨⟨none,0,[],rfl,by rw[Nat.mul_zero];exact U64.nil _⟩,Below.refl _ _⟩
 have Y:((l.length:Int) == 0)=false:=by rw[beq_eq_false_iff_ne];omega
 have q2:((m.length:Int) == 0)=false:=by rw[beq_eq_false_iff_ne];omega
 obtain⟨g,j⟩:=Ia (Qc0 N c1 l x w C) (Qc0 F c2 m y w D);clear C D;by_cases z:x=1
 .
  rw[show decide (x=1)=true by simpa using z] at g;go_enter func128,ntmps128;go_wp2_with fail;refine g.o.mono ?_;rintro e w1 ⟨rfl,f⟩;subst f;clear g j;go_wp2;go_ret;exact⟨⟨F,c2,m,rfl,by rw[z,Nat.one_mul];exact E.o⟩,Below.refl _ _⟩
 rw[show decide (x=1)=false by simpa using z] at g;by_cases A:y=1
 .
  rw[show decide (y=1)=true by simpa using A] at j;go_enter func128,ntmps128;go_wp2_with fail;refine g.o.mono ?_;rintro e w1 ⟨rfl,f⟩;subst f;go_wp2_with fail;refine j.o.mono ?_;rintro e w1 ⟨rfl,f⟩;subst f;clear g j;go_wp2;go_ret;exact⟨⟨N,c1,l,rfl,by rw[A,Nat.mul_one];exact O.o⟩,Below.refl _ _⟩
 rw[show decide (y=1)=false by simpa using A] at j;have Q:∀w,(Instr.makeSlice 105 (.int .i64 ((l.length:Int)+(m.length:Int))) (.int .i64 ((l.length:Int)+(m.length:Int)))).run prog w=.ok (.slice (some ⟨w.heap.size,0,none⟩) (l.length+m.length) (l.length+m.length)) (w.alloc (.cells (wordCells .u64 (zeros (l.length+m.length))) 190)):=
  fun w=>Qcx _ (l.length+m.length) (by omega) (by omega) w
 go_enter func128,ntmps128;go_wp2_with fail;refine g.o.mono ?_;rintro e w1 ⟨rfl,f⟩;subst f;go_wp2_with fail;refine j.o.mono ?_;rintro e w ⟨rfl,f⟩;subst f;clear g j;go_wp2;clear Q;go_loopw [30] (fun i wr=>∃(k:Nat) (rs:Vy),k<=l.length/\i=.int .i64 k/\Blk .u64 190 wr w.heap.size rs/\rs.length=l.length+m.length/\Small 18446744073709551616 rs/\val 18446744073709551616 rs=val 18446744073709551616 (l.take k)*y/\(∀p,k+m.length<=p->rs.getD p 0=0)/\Below w.heap.size w wr) (fun i _=>l.length - (intOf i).toNat)
 case atStart=>exact⟨0,zeros (l.length+m.length),by omega,rfl,Blk.new _ _ _ _,Qah _,Qaq _ _ (by omega),by rw[Qd5];simp[val],fun p _=>Qbx _ _,bR.alloc lZ _⟩
 case round=>
  obtain⟨k,rs,hk,rfl,hB,J,K,Z,hz,hb⟩:=hrel;obtain⟨HB,s,L,HV,HZ,n⟩:=Ie hB J K Z hz hb;clear hB J K Z hz hb;by_cases R:k<l.length
  .
   obtain⟨b,ad,rfl,ae,S⟩:=(O.o.row.below n.o).cell k R;obtain⟨d,P⟩:=nm (l.getD k 0);rw[P] at S;have T:d<18446744073709551616:=by rw[<-P];exact O.o.num.small.getD (by omega) k
   have HD:=Hi P;have HC:=Hi (Qrt w.heap.size k (l.length+m.length - k) rs F c2 m d wr HB.o L.o (E.o.row.below n.o) E.o.num.small E.o.short T (by have:=s.o;omega) (by omega) (fun b o t=>by
    rcases E.o.row.shape with ⟨h,_⟩|⟨b',o',h,aa⟩
    . rw[h] at t;cases t
    .
     rw[h] at t;obtain⟨rfl,rfl⟩:b'=b/\o'=o:=by simpa using t
     omega))
   clear P;go_wp2_with fail;refine HC.o.mono ?_;rintro e w2 ⟨over,u,rfl,U,c,v⟩;have g1:=c.blk.free (k+m.length);have g2:=c.blk.cell (k+m.length) (by rw[c.len,s.o];omega);have B:u.getD (k+m.length) 0=0:=by rw[c.o _ (.inr lZ)];exact HZ.o _ lZ
   rw[B] at g2;obtain⟨q,V,W⟩:=Ib c v B;clear c v B HC;go_wp2;go_roundw
   case rel=>
    have M:u.length=l.length+m.length:=by rw[q.o.len];exact s.o
    refine⟨k+1,u.set (k+m.length) over,by omega,by go_num,q.o.blk.set _ _,by rw[List.length_set];exact M,q.o.small.set _ U,?_,?_,(n.o.trans (q.o.only.below lZ n.o.size)).setCell lZ _⟩
    .
     have h3:=Qbe 18446744073709551616 u (k+m.length) over (by omega);rw[W.o,Nat.mul_zero,Nat.add_zero] at h3;rw[h3,V.o,HV.o,Qae,HD.o,E.o.num.eq,Nat.add_mul,Nat.mul_assoc]
    .
     intro p hp;rw[getD_set_ne _ _ _ _ (by omega),q.o.o p (.inr (by omega))];exact HZ.o p (by omega)
   case measure=>simp[intOf];omega
  .
   have e1:k=l.length:=by omega
   go_wp2_with fail;refine(Qcz w.heap.size (l.length+m.length) (l.length+m.length) (x*y) rs _ HB.o s.o L.o lZ (by omega) (by rw[HV.o,e1,List.take_length,O.o.num.eq])).mono ?_;rintro e w1 ⟨⟨r,rfl,hu⟩,rfl⟩;go_wp2;go_ret;exact⟨⟨_,_,r,rfl,hu⟩,n.o⟩
theorem Qax{a b u n1 q r Y:Nat}(c:Y=4294967296*a+b)(d:q*a+r=u):q*b≤4294967296*r+n1↔q*Y≤4294967296*u+n1:=by
 have e:q*Y=4294967296*(q*a)+q*b:=by rw[c,Nat.mul_add,Nat.mul_left_comm]
 generalize q*a=A at*;generalize q*b=T at*;omega
theorem Qdm{a b u n1 Y:Nat}(e:Y=4294967296*a+b)(f:n1<4294967296)(g:0<a):(4294967296*u+n1) / Y≤u / a:=by
 have c:(4294967296*u+n1) / Y≤(4294967296*u+n1) / (4294967296*a):=Nat.div_le_div_left (by omega) (by omega);rw[←Nat.div_div_eq_div_mul] at c;have d:(4294967296*u+n1) / 4294967296=u:=by omega
 rw[d] at c;exact c
theorem Qaf{u n1 Y:Nat}(a:u<Y)(b:n1<4294967296):(4294967296*u+n1) / Y<4294967296:=by
 rw[Nat.div_lt_iff_lt_mul (by omega)];omega
theorem Qay{u n1 q Y:Nat}(a:0<Y)(b:q*Y≤4294967296*u+n1)(c:(4294967296*u+n1) / Y≤q):(4294967296*u+n1) / Y=q:=
 Nat.le_antisymm c ((Nat.le_div_iff_mul_le a).2 b)
theorem Qdn{u n1 q Y:Nat}(a:0<Y)(b:¬q*Y≤4294967296*u+n1):(4294967296*u+n1) / Y<q:=by
 rw[Nat.div_lt_iff_lt_mul a];omega
theorem Qbg{a b u q r Y:Nat}(e:Y=4294967296*a+b)(f:b<4294967296)(g:u<Y)(h:q*a+r=u)(i:4294967296≤r)(j:0<a):q<4294967296∧q*b≤4294967295*4294967295:=by
 have c:q*a<4294967296*a:=by omega
 have d:q<4294967296:=Nat.lt_of_mul_lt_mul_right c;exact⟨d,Nat.mul_le_mul (by omega) (by omega)⟩
theorem Qbq{s:Nat}(a:s≤64):2 ^ s*2 ^ (64 - s)=18446744073709551616:=by
 rw[←Nat.pow_add,show s+(64 - s)=64 by omega]
theorem low64{lo s:Nat}(b:s≤64):lo*2 ^ s=18446744073709551616*(lo / 2 ^ (64 - s))+lo*2 ^ s % 18446744073709551616:=by
 have a:=Nat.div_add_mod (lo*2 ^ s) 18446744073709551616;have c:lo*2 ^ s / 18446744073709551616=lo / 2 ^ (64 - s):=by
  rw[←Qbq b,Nat.mul_comm lo,Nat.mul_div_mul_left _ _ (Nat.two_pow_pos s)]
 rw[c] at a;exact a.symm
theorem Qff{lo s:Nat}(a:s≤64)(hl:lo<18446744073709551616):lo / 2 ^ (64 - s)<2 ^ s:=by
 rw[Nat.div_lt_iff_lt_mul (Nat.two_pow_pos _),Qbq a];exact hl
end Go.Proofs.YtkkadnoecklepaaGreatDoor
