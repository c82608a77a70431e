/- num's compareNats, addNats, subtractNats. -/
import Derived.Test.YtfpcipgoedifaaaGreatDoorK10RefOf
namespace Go.Proofs.YtfpcipgoedifaaaGreatDoor
open Go.RowKit
set_option linter.unusedVariables false
set_option linter.unusedSimpArgs false
theorem RatOk.new{w w':World}{q:Rat}{e:Ending}(h:RatOk (w.alloc (.cells #[.bool false,.slice none 0 0,.bool false,.slice none 0 0] 55)) w.heap.size q e w'):NewRat w q e w':=
 ⟨⟨_,h.1,Nat.le_refl _,h.val⟩,Only.fresh (bR.alloc lZ _) h.2.1 lZ⟩
theorem RatVal.alloc{w:World}{b:Nat}{q:Rat}(h:RatVal w b q)(o:Obj):RatVal (w.alloc o) b q:=h.below (bR.alloc lZ _)
set_option maxHeartbeats 400000 in
theorem Qsr(bx bv j k:Nat)(p q:Rat)(w:World)(hx:RatVal w bx p)(hy:RatVal w bv q)(hp:Fits p j)(hq:Fits q k)(hj:j+k<274877906000):
 Calls Tryz.prog 17 #[.pointer (some ⟨bx,0,none⟩),.pointer (some ⟨bv,0,none⟩)] w (NewRat w (p+q)):=by
 have HC:=Hi (Qjv w.heap.size bx bv j k p q _ (Qf0 w) (hx.alloc _) (hy.alloc _) hp hq hj );clear hx hy hp hq hj;go_enter Tryz.func17,Tryz.ntmps17;go_wp2_with fail;refine HC.out.mono ?_;rintro e w1 hok;have HF:=Hi (RatOk.new hok);obtain⟨rfl,hon,hr⟩:=hok;clear hon hr HC;go_wp2;go_ret;exact HF.out
set_option maxHeartbeats 400000 in
theorem Qss(bx bv j k:Nat)(p q:Rat)(w:World)(hx:RatVal w bx p)(hy:RatVal w bv q)(hp:Fits p j)(hq:Fits q k)(hj:j+k<274877906000):
 Calls Tryz.prog 14 #[.pointer (some ⟨bx,0,none⟩),.pointer (some ⟨bv,0,none⟩)] w (NewRat w (p - q)):=by
 have HC:=Hi (Qrr w.heap.size bx bv j k p q _ (Qf0 w) (hx.alloc _) (hy.alloc _) hp hq hj );clear hx hy hp hq hj;go_enter Tryz.func14,Tryz.ntmps14;go_wp2_with fail;refine HC.out.mono ?_;rintro e w1 hok;have HF:=Hi (RatOk.new hok);obtain⟨rfl,hon,hr⟩:=hok;clear hon hr HC;go_wp2;go_ret;exact HF.out
set_option maxHeartbeats 400000 in
theorem Qst(bx bv j k:Nat)(p q:Rat)(w:World)(hx:RatVal w bx p)(hy:RatVal w bv q)(hp:Fits p j)(hq:Fits q k)(hj:j+k<274877906000):
 Calls Tryz.prog 16 #[.pointer (some ⟨bx,0,none⟩),.pointer (some ⟨bv,0,none⟩)] w (NewRat w (p*q)):=by
 have HC:=Hi (Qrz w.heap.size bx bv j k p q _ (Qf0 w) (hx.alloc _) (hy.alloc _) hp hq hj );clear hx hy hp hq hj;go_enter Tryz.func16,Tryz.ntmps16;go_wp2_with fail;refine HC.out.mono ?_;rintro e w1 hok;have HF:=Hi (RatOk.new hok);obtain⟨rfl,hon,hr⟩:=hok;clear hon hr HC;go_wp2;go_ret;exact HF.out
theorem Qca{a b j k:Nat}(ha:a<2 ^ j)(hb:b<2 ^ k):a*b<2 ^ (j+k):=by rw[Nat.pow_add];exact Nat.mul_lt_mul'' ha hb
theorem Fits.mul{p q:Rat}{j k:Nat}(h:Fits p j)(h':Fits q k)(hj:0<j):Fits (p*q) (j+k):=by
 rw[<-Qfx];refine Fits.mk ?_ ?_ (by omega)
 · rw[Int.natAbs_mul];exact Qca h.1 h'.1
 · rw[Int.natAbs_mul];exact Qca h.2 h'.2
theorem Fits.add{p q:Rat}{j k:Nat}(h:Fits p j)(h':Fits q k):Fits (p+q) (j+k+1):=by
 rw[<-Qd5];have e1:=Qca h.1 h'.2;have e2:=Qca h'.1 h.2;have e3:(2:Nat) ^ (j+k+1)=2 ^ (j+k)*2:=Nat.pow_succ _ _;rw[Nat.add_comm k j] at e2;refine Fits.mk ?_ ?_ (by omega)
 ·
  have h1:=Int.natAbs_add_le (p.num*(q.den:Int)) (q.num*(p.den:Int));rw[Int.natAbs_mul,Int.natAbs_mul,Int.natAbs_natCast,Int.natAbs_natCast] at h1;omega
 ·
  rw[Int.natAbs_mul,Int.natAbs_natCast,Int.natAbs_natCast];have:=Qca h.2 h'.2;omega
theorem Fits.sub{p q:Rat}{j k:Nat}(h:Fits p j)(h':Fits q k):Fits (p - q) (j+k+1):=by
 rw[Rat.sub_eq_add_neg];exact h.add h'.neg
structure RBag (w0 w:World) (L:List (Nat × Rat × Nat)):Prop where
 base:Below w0.heap.size w0 w
 glob:∃m,w.cell? ⟨0,0,none⟩=some (.int .i64 m)
 ts:∀t,t∈ L->RatVal w t.1 t.2.1/\Fits t.2.1 t.2.2/\0<t.2.2
theorem RBag.start{w:World}(h:∃m,w.cell? ⟨0,0,none⟩=some (.int .i64 m)):RBag w w []:=⟨Below.refl _ _,h,fun t ht=>by cases ht⟩
theorem RBag.below{w0 w w':World}{L:List (Nat × Rat × Nat)}(h:RBag w0 w L)(hb:Below w.heap.size w w'):RBag w0 w' L:=by
 refine⟨h.base.trans (hb.mono h.base.size),?_,fun t ht=>⟨(h.ts t ht).1.below hb,(h.ts t ht).2⟩⟩;obtain⟨m,hm⟩:=h.glob;exact⟨m,ce hb (World.block_lt_of_cell? _ _ hm) hm⟩
theorem RBag.drew{w0 w:World}{L:List (Nat × Rat × Nat)}(h:RBag w0 w L):RBag w0 w.drew L:=h.below bR.drew
theorem RBag.put{w0 w:World}{L:List (Nat × Rat × Nat)}{b k:Nat}{q:Rat}(h:RBag w0 w L)(hv:RatVal w b q)(hf:Fits q k)(hk:0<k):RBag w0 w ((b,q,k) :: L):=
 ⟨h.base,h.glob,fun t ht=>by
   rcases List.mem_cons.1 ht with rfl|ht
   · exact⟨hv,hf,hk⟩
   · exact h.ts t ht⟩
def RNew(w0:World)(L:List (Nat × Rat × Nat))(q:Rat)(k:Nat)(e:Ending)(w':World):Prop:=∃b,e=.returned (.pointer (some ⟨b,0,none⟩))/\RBag w0 w' ((b,q,k) :: L)
theorem RBag.new{w0 w w':World}{L:List (Nat × Rat × Nat)}{q:Rat}{k:Nat}{e:Ending}(h:RBag w0 w L)(hn:NewRat w q e w')(hf:Fits q k)(hk:0<k):RNew w0 L q k e w':=by
 obtain⟨⟨b,he,_,hv⟩,hb⟩:=hn;exact⟨b,he,(h.below hb).put hv hf hk⟩
theorem RBag.of{w0 w:World}{L:List (Nat × Rat × Nat)}{n:Nat}(s:ByteArray)(h:RBag w0 w L)(hs:s.size<=n)(hn:n<=1073741824):
 Calls Tryz.prog 10 #[.string s] w fun e w'=>∃q,QOf s.data.toList q/\RNew w0 L q (4*n+1) e w':=by
 obtain⟨m,hm⟩:=h.glob;refine(Qkf s m w hm (by omega)).mono ?_;rintro e w' ⟨q,hq,hk⟩;exact⟨q,hq,h.new hk (hq.fits (by simpa using hs)) (by omega)⟩
theorem RBag.sign{w0 w:World}{L:List (Nat × Rat × Nat)}{bx j:Nat}{p:Rat}(h:RBag w0 w L)(hx:(bx,p,j)∈ L):
 Calls Tryz.prog 7 #[.pointer (some ⟨bx,0,none⟩)] w fun e w'=>e=.returned (.int .i64 (sgn3 p.num))/\w'=w:=
 Qj1 bx p w (h.ts _ hx).1
theorem QOf.empty:QOf [] 0:=⟨0,.inr ⟨fun h=>h.1.1 rfl,rfl⟩,rfl⟩
theorem SB.other{w:World}{b g:Nat}{t:TypeId}{C:Array Value}(h:SB w b t C)(hne:b≠g)(i:Nat)(v:Value):SB (w.setCell ⟨g,i,none⟩ v) b t C:=by
 unfold SB at h ⊢;rw[Below.heap_setCell _ _ _ _ hne];exact h
structure U64 (w:World) (a:Option Addr) (cap:Nat) (l:List Nat) (n:Nat):Prop where
 row:Row .u64 w a cap l
 num:Num 18446744073709551616 l n
 short:l.length<=1099511627776
theorem U64.below{w w':World}{a:Option Addr}{cap:Nat}{l:List Nat}{n:Nat}(h:U64 w a cap l n)(hb:Below w.heap.size w w'):U64 w' a cap l n:=⟨h.row.below hb,h.num,h.short⟩
theorem U64.drew{w:World}{a:Option Addr}{cap:Nat}{l:List Nat}{n:Nat}(h:U64 w a cap l n):U64 w.drew a cap l n:=h.below bR.drew
theorem U64.nil(w:World):U64 w none 0 [] 0:=⟨Row.nil _ _,Num.zero _,by simp⟩
theorem Qcm(L:Int)(n:Nat)(hL:L=n)(hn:n<=2199023255552)(w:World):
 (Instr.makeSlice 101 (.int .i64 L) (.int .i64 L)).run Tryz.prog w=.ok (.slice (some ⟨w.heap.size,0,none⟩) n n) (w.alloc (.cells (wordCells .u64 (zeros n)) 123)):=by
 subst hL;rw[<-Qdw];exact Go.run_make_row' 101 123 (.int .u64 0) 8 Tryz.underlying101 Tryz.info64 rfl .i64 .i64 n (by omega) (by omega) w
theorem add64(x y c:Nat)(hx:x<18446744073709551616)(hy:y<18446744073709551616)(hc:c<=1):∃r d:Nat,r<18446744073709551616/\d<=1/\r+18446744073709551616*d=x+y+c/\
 ∀w,(callFunc 165 #[.int .u64 x,.int .u64 y,.int .u64 c]).run Tryz.prog w=.ok (.value (.tuple #[.int .u64 (r:Int),.int .u64 (d:Int)])) w:=
 ⟨(x+y+c) % 18446744073709551616,(x+y+c) / 18446744073709551616,by omega,by omega,by omega,fun w=>Any7.bits_Add64 Tryz.lays25 x y c hc w⟩
theorem Qcn(x y:Nat)(hx:x<18446744073709551616)(hy:y<18446744073709551616):∃r d:Nat,r<18446744073709551616/\d<=1/\r+18446744073709551616*d=x+y/\
 ∀w,(callFunc 165 #[.int .u64 x,.int .u64 y,.int .u64 0]).run Tryz.prog w=.ok (.value (.tuple #[.int .u64 (r:Int),.int .u64 (d:Int)])) w:=
 add64 x y 0 hx hy (by decide)
theorem sub64(x y c:Nat)(hx:x<18446744073709551616)(hy:y<18446744073709551616)(hc:c<=1):∃r d:Nat,r<18446744073709551616/\d<=1/\r+c+y=x+18446744073709551616*d/\
 ∀w,(callFunc 167 #[.int .u64 x,.int .u64 y,.int .u64 c]).run Tryz.prog w=.ok (.value (.tuple #[.int .u64 (r:Int),.int .u64 (d:Int)])) w:=by
 refine⟨(x+18446744073709551616 - y - c) % 18446744073709551616,if x<y+c then 1 else 0,by omega,by split<;>omega,by split<;>omega,fun w=>Any7.bits_Sub64 Tryz.lays26 x y c hc w⟩
theorem Qi6(x y:Nat)(hx:x<18446744073709551616)(hy:y<18446744073709551616):∃r d:Nat,r<18446744073709551616/\d<=1/\r+y=x+18446744073709551616*d/\
 ∀w,(callFunc 167 #[.int .u64 x,.int .u64 y,.int .u64 0]).run Tryz.prog w=.ok (.value (.tuple #[.int .u64 (r:Int),.int .u64 (d:Int)])) w:=
 sub64 x y 0 hx hy (by decide)
theorem mul64(x y:Nat)(hx:x<18446744073709551616)(hy:y<18446744073709551616):∃h l:Nat,h<18446744073709551616/\l<18446744073709551616/\l+18446744073709551616*h=x*y/\
 ∀w,Calls Tryz.prog 168 #[.int .u64 x,.int .u64 y] w fun e w'=>e=.returned (.tuple #[.int .u64 (h:Int),.int .u64 (l:Int)])/\w'=w:=by
 refine⟨x*y / 18446744073709551616,x*y % 18446744073709551616,?_,Nat.mod_lt _ (by decide),Nat.mod_add_div _ _,fun w=>Any.bits_Mul64 Tryz.lays264 x y hx hy w⟩;rw[Nat.div_lt_iff_lt_mul (by decide)];exact Nat.mul_lt_mul'' hx hy
set_option maxHeartbeats 400000 in
theorem Qbr(a:Option Addr)(cap:Nat)(l:List Nat)(i:Nat)(w:World)(h:Row .u64 w a cap l)(hl:l.length<=1099511627776)(hi:i<=2199023255552):
 Calls Tryz.prog 166 #[.slice a l.length cap,.int .i64 i] w fun e w'=>e=.returned (.int .u64 ((l.getD i 0:Nat):Int))/\w'=w:=by
 by_cases hlt:i<l.length
 ·
  obtain⟨b,off,rfl,hb,hc⟩:=h.cell i hlt;obtain⟨d,hd⟩:=nm (l.getD i 0);rw[hd] at hc;rw[hd];clear hd h;go_enter Tryz.func166,Tryz.ntmps166;go_wp2;go_ret;exact⟨rfl,rfl⟩
 ·
  rw[Qbk l i (by omega)];clear h;go_enter Tryz.func166,Tryz.ntmps166;go_wp2;go_ret;exact⟨rfl,rfl⟩
theorem Qpy(l:List Nat)(k:Nat)(hk:k<=l.length)(h:k=0∨l.getD (k - 1) 0≠0):Trim (l.take k):=by
 rcases h with rfl|h
 · left;simp
 ·
  by_cases h0:k=0
  · left;subst h0;simp
  ·
   right;rw[List.length_take,Nat.min_eq_left hk,List.getD_eq_getElem?_getD,List.getElem?_take_of_lt (by omega),<-List.getD_eq_getElem?_getD];exact h
theorem Qpz(l:List Nat)(k:Nat)(hk:k<l.length)(h:l.getD k 0=0):val 18446744073709551616 (l.take (k+1))=val 18446744073709551616 (l.take k):=by
 rw[Qb0 _ l k hk,h];simp
set_option maxHeartbeats 400000 in
theorem Qfn(a:Option Addr)(cap:Nat)(l:List Nat)(w:World)(h:Row .u64 w a cap l)(hl:l.length<=1099511627776):
 Calls Tryz.prog 131 #[.slice a l.length cap] w fun e w'=>(∃k,k<=l.length/\e=.returned (.slice a k cap)/\val 18446744073709551616 (l.take k)=val 18446744073709551616 l/\Trim (l.take k))/\w'=w:=by
 have hcap:=h.fit;go_enter Tryz.func131,Tryz.ntmps131;go_wp2;go_loop [3] (fun n=>∃k:Nat,k<=l.length/\n=.int .i64 k/\val 18446744073709551616 (l.take k)=val 18446744073709551616 l) (fun n=>(intOf n).toNat)
 case atStart=>exact⟨l.length,Nat.le_refl _,rfl,by rw[List.take_length]⟩
 case round=>
  obtain⟨k,hk,rfl,hv⟩:=hrel;have HV:Hid (val 18446744073709551616 (l.take k)=val 18446744073709551616 l):=hv;clear hv;by_cases h0:k=0
  ·
   subst h0;rcases h.shape with ⟨rfl,rfl⟩|⟨b,off,rfl,hb⟩
   all_goals
    go_wp2;go_ret;exact⟨⟨0,by omega,by simp,HV.out,.inl (by simp)⟩,rfl⟩
  ·
   obtain⟨b,off,rfl,hb,hc⟩:=h.cell (k - 1) (by omega);obtain⟨j,rfl⟩:∃j,k=j+1:=⟨k - 1,by omega⟩;simp only[Nat.add_sub_cancel] at hc;obtain⟨d,hd⟩:=nm (l.getD j 0);rw[hd] at hc;have HD:Hid (l.getD j 0=d):=hd;clear hd;by_cases hz:d=0
   ·
    subst hz;go_wp2;go_round
    case rel=>exact⟨j,by omega,by go_num,(Qpz l j (by omega) HD.out).symm.trans HV.out⟩
    case measure=>simp[intOf]
   ·
    have hz':((d:Int) == 0)=false:=by simp;omega
    go_wp2;go_ret;exact⟨⟨j+1,hk,by simp,HV.out,Qpy l (j+1) hk (.inr (by rw[Nat.add_sub_cancel,HD.out];exact hz))⟩,rfl⟩
theorem Qco(g n cap x:Nat)(rs:List Nat)(w:World)(h:Blk .u64 123 w g rs)(hl:rs.length=n)(hs:Small 18446744073709551616 rs)(hc:n<=cap)(hn:n<=1099511627776)(hx:val 18446744073709551616 rs=x):
 Calls Tryz.prog 131 #[.slice (some ⟨g,0,none⟩) n cap] w fun e w'=>(∃r,e=.returned (.slice (some ⟨g,0,none⟩) r.length cap)/\U64 w (some ⟨g,0,none⟩) cap r x)/\w'=w:=by
 have hR:=h.row n (by omega) cap hc;rw[List.take_of_length_le (by omega)] at hR;have hT:=Qfn (some ⟨g,0,none⟩) cap rs w hR (by omega);rw[hl] at hT;refine hT.mono ?_;rintro e w1 ⟨⟨q,hq,rfl,hqv,hqt⟩,rfl⟩;have hql:(rs.take q).length=q:=by rw[List.length_take];omega
 exact⟨⟨rs.take q,by rw[hql],hR.take q (by omega),⟨hs.take q,hqt,hqv.trans hx⟩,by rw[hql];omega⟩,rfl⟩
theorem Qp0{l:List Nat}(h:Num 18446744073709551616 l 1):l= [1]:=h.inj (by decide) ⟨fun d hd=>by simp at hd;omega,.inr (by simp),by simp[val]⟩
set_option maxHeartbeats 400000 in
theorem Qcp(a:Option Addr)(cap:Nat)(l:List Nat)(n:Nat)(w:World)(h:U64 w a cap l n):
 Calls Tryz.prog 125 #[.slice a l.length cap] w fun e w'=>e=.returned (.bool (decide (n=1)))/\w'=w:=by
 have hs:=h.short;by_cases h1:l.length=1
 ·
  obtain⟨b,off,rfl,hb,hc⟩:=h.row.cell 0 (by omega);obtain⟨d,hd⟩:=nm (l.getD 0 0);rw[hd] at hc;have hn:n=d:=by
   rw[<-h.num.eq]
   match l,h1 with
   | [x],_=>simp at hd;simp[val,hd]
  subst hn;rw[Nat.add_zero] at hc;by_cases hd1:n=1
  ·
   subst hd1;clear h hd;go_enter Tryz.func125,Tryz.ntmps125;go_wp2;go_ret;exact⟨rfl,rfl⟩
  ·
   have q1:((n:Int) == 1)=false:=by rw[beq_eq_false_iff_ne];omega
   rw[show decide (n=1)=false by simpa using hd1];clear h hd hd1;go_enter Tryz.func125,Tryz.ntmps125;go_wp2;go_ret;exact⟨by simp[q1],rfl⟩
 ·
  have hn1:n≠1:=fun hc=>h1 (by subst hc;rw[Qp0 h.num];rfl)
  have q1:((l.length:Int) == 1)=false:=by rw[beq_eq_false_iff_ne];omega
  rw[show decide (n=1)=false by simpa using hn1];clear h h1 hn1;go_enter Tryz.func125,Tryz.ntmps125;go_wp2;go_ret;exact⟨rfl,rfl⟩
set_option maxHeartbeats 1000000 in
theorem Qcq(a1 a2:Option Addr)(c1 c2:Nat)(l m:List Nat)(x y:Nat)(w:World)(h1:U64 w a1 c1 l x)(h2:U64 w a2 c2 m y):
 Calls Tryz.prog 119 #[.slice a1 l.length c1,.slice a2 m.length c2] w fun e w'=>e=.returned (.int .i64 (cmp3 x y))/\Below w.heap.size w w':=by
 have s1:=h1.short;have s2:=h2.short;by_cases hlt:l.length<m.length
 ·
  have hne:((l.length:Int) != (m.length:Int))=true:=by rw[bne_iff_ne];omega
  have hr:cmp3 x y= -1:=Qcf (by rw[<-h1.num.eq,<-h2.num.eq];exact Qas (by omega) h1.num.small h2.num.trim hlt);have HR:Hid (cmp3 x y= -1):=hr;clear hr h1 h2;go_enter Tryz.func119,Tryz.ntmps119;go_wp2;go_ret;exact⟨by rw[HR.out];rfl,Below.refl _ _⟩
 by_cases hgt:m.length<l.length
 ·
  have hne:((l.length:Int) != (m.length:Int))=true:=by rw[bne_iff_ne];omega
  have hr:cmp3 x y=1:=Qde (by rw[<-h1.num.eq,<-h2.num.eq];exact Qas (by omega) h2.num.small h1.num.trim hgt);have HR:Hid (cmp3 x y=1):=hr;clear hr h1 h2;go_enter Tryz.func119,Tryz.ntmps119;go_wp2;go_ret;exact⟨by rw[HR.out];rfl,Below.refl _ _⟩
 have heq:m.length=l.length:=by omega
 have HE:Hid (m.length=l.length):=heq;rw[heq];have hne:((l.length:Int) != (l.length:Int))=false:=by simp
 clear hlt hgt heq;go_enter Tryz.func119,Tryz.ntmps119;go_wp2;go_loopw [5] (fun i wr=>∃k:Nat,k<=l.length/\i=.int .i64 ((k:Int) - 1)/\l.drop k=m.drop k/\Below w.heap.size w wr) (fun i _=>(intOf i+1).toNat)
 case atStart=>exact⟨l.length,Nat.le_refl _,rfl,by rw[List.drop_of_length_le lZ,List.drop_of_length_le (by rw[HE.out];exact Nat.le_refl _)],Below.refl _ _⟩
 case round=>
  obtain⟨k,hk,rfl,hd,hb⟩:=hrel;have HD:Hid (l.drop k=m.drop k):=hd;clear hd;by_cases h0:k=0
  ·
   subst h0;go_wp2;go_ret;exact⟨by rw[Qhw (by rw[<-h1.num.eq,<-h2.num.eq];have:=HD.out;simp at this;rw[this])];rfl,hb⟩
  ·
   obtain⟨j,rfl⟩:∃j,k=j+1:=⟨k - 1,by omega⟩;have hjl:j<l.length:=by omega
   have hjm:j<m.length:=by have:=HE.out;omega
   obtain⟨b,off,rfl,hb1,hc1⟩:=h1.row.cell j hjl;obtain⟨b',off',rfl,hb2,hc2⟩:=h2.row.cell j hjm;obtain⟨d,hd⟩:=nm (l.getD j 0);obtain⟨e,he⟩:=nm (m.getD j 0);rw[hd] at hc1;rw[he] at hc2;have hc1':=ce hb hb1 hc1;have hc2':=ce hb hb2 hc2;have H1:Hid (l.getD j 0=d):=hd;have H2:Hid (m.getD j 0=e):=he;clear hd he hc1 hc2;have ei:((j+1:Nat):Int) - 1=(j:Int):=by omega
   rw[ei];by_cases hlt:d<e
   ·
    go_wp2;go_region
    all_goals
     go_wp2;go_ret;exact⟨by rw[Qcf (by rw[<-h1.num.eq,<-h2.num.eq];exact Qdf (by omega) h1.num.small j hjl hjm HD.out (by rw[H1.out,H2.out];exact hlt))];rfl,hb.drew⟩
   by_cases hgt:e<d
   ·
    go_wp2;go_region
    all_goals
     go_wp2;go_region
    all_goals
     go_wp2;go_ret;exact⟨by rw[Qde (by rw[<-h1.num.eq,<-h2.num.eq];exact Qdf (by omega) h2.num.small j hjm hjl HD.out.symm (by rw[H1.out,H2.out];omega))];rfl,hb.drew.drew⟩
   ·
    go_wp2;go_region
    all_goals
     go_wp2;go_region
    all_goals
     go_wp2;go_roundw
     case rel=>exact⟨j,by omega,by go_num,Qhx hjl hjm HD.out (H1.out.trans ((show d=e by omega).trans H2.out.symm)),hb.drew.drew⟩
     case measure=>simp[intOf]
theorem Qp1(k c d e r c':Nat)(rs l m:List Nat)(hk:k<rs.length)(hd:l.getD k 0=d)(he:m.getD k 0=e)(hr:r+18446744073709551616*c'=d+e+c)
 (h:val 18446744073709551616 (rs.take k)+18446744073709551616 ^ k*c=val 18446744073709551616 (l.take k)+val 18446744073709551616 (m.take k)):
 val 18446744073709551616 ((rs.set k r).take (k+1))+18446744073709551616 ^ (k+1)*c'=val 18446744073709551616 (l.take (k+1))+val 18446744073709551616 (m.take (k+1)):=by
 rw[take_set _ _ _ hk,Qal,List.length_take,Nat.min_eq_left (by omega),Qad,Qad,hd,he,Nat.pow_succ];have e2:18446744073709551616 ^ k*(r+18446744073709551616*c')=18446744073709551616 ^ k*(d+e+c):=by rw[hr]
 rw[Nat.mul_add,Nat.mul_add,Nat.mul_add,<-Nat.mul_assoc] at e2;omega
set_option maxHeartbeats 1000000 in
theorem Qp2(a1 a2:Option Addr)(c1 c2:Nat)(l m:List Nat)(x y:Nat)(w:World)(h1:U64 w a1 c1 l x)(h2:U64 w a2 c2 m y)(hl:l.length<1099511627776)(hm:m.length<1099511627776):
 Calls Tryz.prog 128 #[.slice a1 l.length c1,.slice a2 m.length c2] w fun e w'=>(∃a cap r,e=.returned (.slice a r.length cap)/\U64 w' a cap r (x+y))/\Below w.heap.size w w':=by
 obtain⟨n,hn,hnl,hnm⟩:∃n,max l.length m.length=n/\l.length<=n/\m.length<=n:=⟨_,rfl,by omega,by omega⟩;have hmx:max (l.length:Int) (m.length:Int)=(n:Int):=by omega
 have hmk:∀w,(Instr.makeSlice 101 (.int .i64 ((n:Int)+1)) (.int .i64 ((n:Int)+1))).run Tryz.prog w=.ok (.slice (some ⟨w.heap.size,0,none⟩) (n+1) (n+1)) (w.alloc (.cells (wordCells .u64 (zeros (n+1))) 123)):=
  fun w=>Qcm _ (n+1) (by omega) (by omega) w
 have hnb:n<1099511627776:=by omega
 have H1:=Hi h1;have H2:=Hi h2;clear h1 h2 hn;go_enter Tryz.func128,Tryz.ntmps128;go_wp2;clear hmk;go_loopw [7,18] (fun c i wr=>∃(k c':Nat) (rs:List Nat),k<=n/\c'<=1/\c=.int .u64 c'/\i=.int .i64 k/\Blk .u64 123 wr w.heap.size rs/\rs.length=n+1/\Small 18446744073709551616 rs/\
  val 18446744073709551616 (rs.take k)+18446744073709551616 ^ k*c'=val 18446744073709551616 (l.take k)+val 18446744073709551616 (m.take k)/\Below w.heap.size w wr) (fun _ i _=>n - (intOf i).toNat)
 case atStart=>exact⟨0,0,zeros (n+1),by omega,by omega,rfl,rfl,Blk.new _ _ _ _,Qai _,Qap _ _ (by omega),by simp[val],bR.alloc lZ _⟩
 case round=>
  obtain⟨k,c,rs,hk,hc,rfl,rfl,hB,hrl,hrs,hv,hb⟩:=hrel;have HV:=Hi hv;have HRL:=Hi hrl;have HB:=Hi hB;have HRS:=Hi hrs;have HBL:=Hi hb;clear hv hrs hb;by_cases hlt:k<n
  ·
   obtain⟨d,hd⟩:=nm (l.getD k 0);obtain⟨e,he⟩:=nm (m.getD k 0);have hdb:d<18446744073709551616:=by rw[<-hd];exact H1.out.num.small.getD (by omega) k
   have heb:e<18446744073709551616:=by rw[<-he];exact H2.out.num.small.getD (by omega) k
   obtain⟨r,c',hr,hc',hrc,hcall⟩:=add64 d e c hdb heb hc;obtain⟨z,hz⟩:=nm (rs.getD k 0);have g1:=hB.free k;have g2:=hB.cell k (by omega);rw[hz] at g2;have HC1:=Hi (Qbr a1 c1 l k wr (H1.out.row.below HBL.out) (by omega) (by omega));have HC2:=Hi (Qbr a2 c2 m k wr (H2.out.row.below HBL.out) (by omega) (by omega));rw[hd] at HC1;rw[he] at HC2;have HD1:=Hi hd;have HD2:=Hi he;have HRC:=Hi hrc;clear hd he hz hB hrl hrc;go_wp2_with fail;refine HC1.out.mono ?_;rintro e1 w1 ⟨rfl,hw1⟩;subst hw1;go_wp2_with fail;refine HC2.out.mono ?_;rintro e1 w2 ⟨rfl,hw2⟩;subst hw2;clear HC1 HC2;go_wp2_with (simp only[hcall]);go_roundw
   case rel=>exact⟨k+1,c',rs.set k r,by omega,hc',rfl,by go_num,HB.out.set k _,by rw[List.length_set];exact HRL.out,HRS.out.set k hr,Qp1 k c d e r c' rs l m (by have:=HRL.out;omega) HD1.out HD2.out HRC.out HV.out,HBL.out.setCell lZ _⟩
   case measure=>simp[intOf];omega
  ·
   obtain⟨z,hz⟩:=nm (rs.getD n 0);have g1:=hB.free n;have g2:=hB.cell n (by omega);rw[hz] at g2;clear hz hB hrl;go_wp2_with fail;have hl1:(rs.set n c).length=n+1:=by rw[List.length_set];exact HRL.out
   have hB2:Blk .u64 123 (wr.setCell ⟨w.heap.size,n,none⟩ (.int .u64 (c:Int))) w.heap.size (rs.set n c):=HB.out.set n c;have hvv:val 18446744073709551616 (rs.set n c)=x+y:=by
    rw[Qe5 _ _ _ _ HRL.out];have e1:k=n:=by omega
    have e2:=HV.out;rw[e1,Qa2 _ l _ hnl,Qa2 _ m _ hnm,H1.out.num.eq,H2.out.num.eq] at e2;omega
   refine(Qco w.heap.size (n+1) (n+1) (x+y) (rs.set n c) _ hB2 hl1 (HRS.out.set _ (by omega)) lZ (by omega) hvv).mono ?_;rintro e w1 ⟨⟨r,rfl,hu⟩,rfl⟩;go_wp2;go_ret;exact⟨⟨_,_,r,rfl,hu⟩,HBL.out.setCell lZ _⟩
set_option maxHeartbeats 1000000 in
theorem Qp3(a1 a2:Option Addr)(c1 c2:Nat)(l m:List Nat)(x y:Nat)(w:World)(h1:U64 w a1 c1 l x)(h2:U64 w a2 c2 m y)(hyx:y<=x):
 Calls Tryz.prog 129 #[.slice a1 l.length c1,.slice a2 m.length c2] w fun e w'=>(∃a cap r,e=.returned (.slice a r.length cap)/\U64 w' a cap r (x - y))/\Below w.heap.size w w':=by
 have s1:=h1.short;have s2:=h2.short;have hml:m.length<=l.length:=by
  apply bC;intro hc;have:=Qas (B:=18446744073709551616) (by decide) h1.num.small h2.num.trim (by omega);rw[h1.num.eq,h2.num.eq] at this;omega
 have hmk:∀w,(Instr.makeSlice 101 (.int .i64 (l.length:Int)) (.int .i64 (l.length:Int))).run Tryz.prog w=.ok (.slice (some ⟨w.heap.size,0,none⟩) l.length l.length) (w.alloc (.cells (wordCells .u64 (zeros l.length)) 123)):=
  fun w=>Qcm _ l.length rfl (by omega) w
 have H1:=Hi h1;have H2:=Hi h2;clear h1 h2;go_enter Tryz.func129,Tryz.ntmps129;go_wp2;clear hmk;go_loopw [7,14] (fun c i wr=>∃(k c':Nat) (rs:List Nat),k<=l.length/\c'<=1/\c=.int .u64 c'/\i=.int .i64 k/\Blk .u64 123 wr w.heap.size rs/\rs.length=l.length/\Small 18446744073709551616 rs/\
  val 18446744073709551616 (rs.take k)+val 18446744073709551616 (m.take k)=val 18446744073709551616 (l.take k)+18446744073709551616 ^ k*c'/\Below w.heap.size w wr) (fun _ i _=>l.length - (intOf i).toNat)
 case atStart=>exact⟨0,0,zeros l.length,by omega,by omega,rfl,rfl,Blk.new _ _ _ _,Qai _,Qap _ _ (by omega),by simp[val],bR.alloc lZ _⟩
 case round=>
  obtain⟨k,c,rs,hk,hc,rfl,rfl,hB,hrl,hrs,hv,hb⟩:=hrel;have HV:=Hi hv;have HRL:=Hi hrl;have HB:=Hi hB;have HRS:=Hi hrs;have HBL:=Hi hb;clear hv hrs hb;by_cases hlt:k<l.length
  ·
   obtain⟨b,off,rfl,hb1,hc1⟩:=H1.out.row.cell k hlt;obtain⟨d,hd⟩:=nm (l.getD k 0);obtain⟨e,he⟩:=nm (m.getD k 0);have hdb:d<18446744073709551616:=by rw[<-hd];exact H1.out.num.small.getD (by omega) k
   have heb:e<18446744073709551616:=by rw[<-he];exact H2.out.num.small.getD (by omega) k
   rw[hd] at hc1;have hc1':=ce HBL.out hb1 hc1;obtain⟨r,c',hr,hc',hrc,hcall⟩:=sub64 d e c hdb heb hc;obtain⟨z,hz⟩:=nm (rs.getD k 0);have g1:=hB.free k;have g2:=hB.cell k (by omega);rw[hz] at g2;have HC2:=Hi (Qbr a2 c2 m k wr.drew (H2.out.row.below HBL.out.drew) (by omega) (by omega));rw[he] at HC2;have HD1:=Hi hd;have HD2:=Hi he;have HRC:=Hi hrc;have i0:(0:Int)<=(k:Int):=by omega
   have i1:(k:Int)<(l.length:Int):=by omega
   have hst:=(((HBL.out.setCell (p:=⟨w.heap.size,k,none⟩) lZ (.int .u64 (r:Int))).drew).cell (p:=⟨b,off+k,none⟩) hb1).trans hc1;clear hd he hz hB hrl hrc hc1;go_wp2_with fail;go_region_held3 (fun w'=>w'.cell? ⟨b,off+k,none⟩=some (.int .u64 d)) ((simp [*])) (first
    |(
     go_at_call 166;refine HC2.out.mono ?_;rintro e1 w2 ⟨rfl,hw2⟩
     subst hw2)
    |simp only[hcall])
   go_wp2;go_roundw
   case rel=>exact⟨k+1,c',rs.set k r,by omega,hc',rfl,by go_num,(HB.out.set k _).drew,by rw[List.length_set];exact HRL.out,HRS.out.set k hr,Qe6 _ k c d e r c' rs l m (by have:=HRL.out;omega) HD1.out HD2.out HRC.out HV.out,(HBL.out.setCell lZ _).drew⟩
   case measure=>simp[intOf];omega
  ·
   have e1:k=l.length:=by omega
   go_wp2_with fail;have hvv:val 18446744073709551616 rs=x - y:=by
    have e2:=HV.out;have hlt2:=Qab (B:=18446744073709551616) (by decide) HRS.out;rw[HRL.out] at hlt2;rw[e1,List.take_of_length_le (by have:=HRL.out;omega),Qa2 _ m _ hml,List.take_length,H1.out.num.eq,H2.out.num.eq] at e2;have hc0:c=0:=by
     rcases Nat.eq_zero_or_pos c with h|h
     · exact h
     ·
      have:c=1:=by omega
      subst this;omega
    subst hc0;omega
   refine(Qco w.heap.size l.length l.length (x - y) rs _ HB.out HRL.out HRS.out lZ (by omega) hvv).mono ?_;rintro e w1 ⟨⟨r,rfl,hu⟩,rfl⟩;go_wp2;go_ret;exact⟨⟨_,_,r,rfl,hu⟩,HBL.out⟩
end Go.Proofs.YtfpcipgoedifaaaGreatDoor
