import Derived.Test.YtfgclhpgdanmfaaGreatDoorS07RefOf
namespace Go.Proofs.YtfgclhpgdanmfaaGreatDoor
set_option linter.defProp false
open Go.RowKit
open Go.Proofs.Tryz
set_option linter.unusedSimpArgs false
set_option linter.unusedVariables false
set_option maxHeartbeats 8000000
set_option maxRecDepth 1000000
variable{w w' w0:Vz}{e:As}{Y a b c cap g j k lo n n1 r s u:Nat}{p:Rat}{L:An}{t:Vr}{C:Vw}{l:Vy}
def iM.new{q:Rat}(h:iM (w.alloc (.cells #[.bool false,.slice none 0 0,.bool false,.slice none 0 0] 116)) w.heap.size q e w'):oN w q e w':=
 ⟨⟨_,h.1,aV _,h.val⟩,fU (bR.alloc lZ _) h.2.1 lZ⟩
def cQ.alloc{q:Rat}(h:cQ w b q)(o:Obj):cQ (w.alloc o) b q:=h.below (bR.alloc lZ _)
def S7(bx b j k:Nat)(p q:Rat)(w:Vz)(d:cQ w bx p)(f:cQ w b q)(g:Fits p j)(h:Fits q k)(i:j+k<274877906000):
 Calls prog 69 #[.pointer (some ⟨bx,0,none⟩),.pointer (some ⟨b,0,none⟩)] w (oN w (p+q)):=by
 have l:=Hi ((G7 w.heap.size bx b j k p q _ (EV w) (d.alloc _) (f.alloc _) g h i).1 );clear d f g h i;go_enter func69,ntmps69;go_wp2_with fail;refine l.o.mono ?_;rintro e w1 a;have m:=Hi (iM.new a);obtain⟨rfl,c,n⟩:=a;clear c n l;go_wp2;go_ret;exact m.o
def S6(bx b j k:Nat)(p q:Rat)(w:Vz)(d:cQ w bx p)(f:cQ w b q)(g:Fits p j)(h:Fits q k)(i:j+k<274877906000):
 Calls prog 121 #[.pointer (some ⟨bx,0,none⟩),.pointer (some ⟨b,0,none⟩)] w (oN w (p - q)):=by
 have l:=Hi ((G7 w.heap.size bx b j k p q _ (EV w) (d.alloc _) (f.alloc _) g h i).2.1 );clear d f g h i;go_enter func121,ntmps121;go_wp2_with fail;refine l.o.mono ?_;rintro e w1 a;have m:=Hi (iM.new a);obtain⟨rfl,c,n⟩:=a;clear c n l;go_wp2;go_ret;exact m.o
def M7(bx b j k:Nat)(p q:Rat)(w:Vz)(d:cQ w bx p)(f:cQ w b q)(g:Fits p j)(h:Fits q k)(i:j+k<274877906000):
 Calls prog 37 #[.pointer (some ⟨bx,0,none⟩),.pointer (some ⟨b,0,none⟩)] w (oN w (p*q)):=by
 have l:=Hi ((G7 w.heap.size bx b j k p q _ (EV w) (d.alloc _) (f.alloc _) g h i).2.2.1 );clear d f g h i;go_enter func37,ntmps37;go_wp2_with fail;refine l.o.mono ?_;rintro e w1 a;have m:=Hi (iM.new a);obtain⟨rfl,c,n⟩:=a;clear c n l;go_wp2;go_ret;exact m.o
def M6(bx b j k:Nat)(p q:Rat)(w:Vz)(f:cQ w bx p)(g:cQ w b q)(h:Fits p j)(i:Fits q k)(l:j+k<274877906000)(c:q.num≠0):
 Calls prog 65 #[.pointer (some ⟨bx,0,none⟩),.pointer (some ⟨b,0,none⟩)] w (oN w (p / q)):=by
 have m:=Hi ((G7 w.heap.size bx b j k p q _ (EV w) (f.alloc _) (g.alloc _) h i l).2.2.2 c);clear f g h i l;go_enter func65,ntmps65;go_wp2_with fail;refine m.o.mono ?_;rintro e w1 a;have n:=Hi (iM.new a);obtain⟨rfl,d,r⟩:=a;clear d r m;go_wp2;go_ret;exact n.o
def S5(bx j:Nat)(p:Rat)(w:Vz)(c:cQ w bx p)(d:Fits p j)(g:j<274877906000):
 Calls prog 34 #[.pointer (some ⟨bx,0,none⟩)] w (oN w (-p)):=by
 have f:=Hi (Li w.heap.size bx j p _ (EV w) (c.alloc _) d oO);clear c d g;go_enter func34,ntmps34;go_wp2_with fail;refine f.o.mono ?_;rintro e w1 a;have h:=Hi (iM.new a);obtain⟨rfl,b,i⟩:=a;clear b i f;go_wp2;go_ret;exact h.o
def Bp(x:Nat)(w:Vz)(d:x<1000000):
 Calls prog 33 #[.int .i64 x] w (oN w (x:Rat)):=by
 have c:=Hi (To w.heap.size x _ (EV w) d);go_enter func33,ntmps33;go_wp2_with fail;refine c.o.mono ?_;rintro e w1 a;have f:=Hi (iM.new a);obtain⟨rfl,b,g⟩:=a;clear b g c;go_wp2;go_ret;exact f.o
def Dt(c:a<2 ^ j)(hb:b<2 ^ k):a*b<2 ^ (j+k):=by rw[eG];exact pN c hb
def Fits.mul{q:Rat}(h:Fits p j)(a:Fits q k)(b:0<j):Fits (p*q) (j+k):=by
 rw[<-Kr];refine L9 ?_ ?_ oO
 . rw[fE];exact Dt h.1 a.1
 . rw[fE];exact Dt h.2 a.2
def Fits.add{q:Rat}(h:Fits p j)(a:Fits q k):Fits (p+q) (j+k+1):=by
 rw[<-H5];have d:=Dt h.1 a.2;have b:=Dt a.1 h.2;have e:(2:Nat) ^ (j+k+1)=2 ^ (j+k)*2:=fD _ _;rw[tR k j]at b;refine L9 ?_ ?_ oO
 . have c:=Int.natAbs_add_le (p.num*(q.den:Int)) (q.num*(p.den:Int));rw[fE,fE,cY,cY]at c;omega
 . rw[fE,cY,cY];have:=Dt h.2 a.2;omega
def Fits.sub{q:Rat}(h:Fits p j)(a:Fits q k):Fits (p - q) (j+k+1):=by rw[oD];exact h.add a.neg
def Fits.quo{q:Rat}(h:Fits p j)(a:Fits q k)(c:0<j)(b:0<q.num):Fits (p / q) (j+k):=by
 rw[<-J9 p q b];refine L9 ?_ ?_ oO
 . rw[fE];exact Dt h.1 a.2
 . rw[fE];exact Dt h.2 a.1
structure eT (w0 w:Vz) (L:An):Prop where
 base:Bl w0 w
 glob:∃m,w.cell? ⟨4,0,none⟩=some (.int .i64 m)
 ts:∀t,t∈ L->cQ w t.1 t.2.1/\Fits t.2.1 t.2.2/\0<t.2.2
def eT.start{w:Vz}(h:∃m,w.cell? ⟨4,0,none⟩=some (.int .i64 m)):eT w w []:=⟨ac _ _,h,fun t a=>by cases a⟩
def lM:=@eT.start
def eT.below(h:eT w0 w L)(hb:Bl w w'):eT w0 w' L:=by refine⟨h.base.trans (hb.mono h.base.size),?_,fun t a=>⟨(h.ts t a).1.below hb,(h.ts t a).2⟩⟩;obtain⟨m,b⟩:=h.glob;exact⟨m,ce hb (bI _ _ b) b⟩
def eT.drew(h:eT w0 w L):eT w0 w.drew L:=h.below bR.drew
def eT.put{q:Rat}(h:eT w0 w L)(c:cQ w b q)(d:Fits q k)(hk:0<k):eT w0 w ((b,q,k) :: L):=
 ⟨h.base,h.glob,fun t a=>by
   rcases aY.1 a with rfl|a
   . exact⟨c,d,hk⟩
   . exact h.ts t a⟩
def eT.lg(h:eT w0 w L):eT w w L:=⟨ac _ _,h.glob,h.ts⟩
def wj(w0:Vz)(L:An)(q:Rat)(k:Nat)(e:As)(w':Vz):Prop:=∃b,e=.returned (.pointer (some ⟨b,0,none⟩))/\eT w0 w' ((b,q,k) :: L)
def eT.new{q:Rat}(h:eT w0 w L)(a:oN w q e w')(c:Fits q k)(hk:0<k):wj w0 L q k e w':=by obtain⟨⟨b,d,_,f⟩,hb⟩:=a;exact⟨b,d,(h.below hb).put f c hk⟩
def eT.add{w0 w:Vz}{L:An}{bx c j k:Nat}{p q:Rat}(h:eT w0 w L)(d:(bx,p,j)∈ L)(f:(c,q,k)∈ L)(g:j+k<274877906000):
 Calls prog 69 #[.pointer (some ⟨bx,0,none⟩),.pointer (some ⟨c,0,none⟩)] w (wj w0 L (p+q) (j+k+1)):=by
 have a:=h.ts _ d;have b:=h.ts _ f;exact(S7 bx c j k p q w a.1 b.1 a.2.1 b.2.1 g).mono fun e w' i=>h.new i (a.2.1.add b.2.1) oO
def DK:=@eT.add
def eT.sub{w0 w:Vz}{L:An}{bx c j k:Nat}{p q:Rat}(h:eT w0 w L)(d:(bx,p,j)∈ L)(f:(c,q,k)∈ L)(g:j+k<274877906000):
 Calls prog 121 #[.pointer (some ⟨bx,0,none⟩),.pointer (some ⟨c,0,none⟩)] w (wj w0 L (p - q) (j+k+1)):=by
 have a:=h.ts _ d;have b:=h.ts _ f;exact(S6 bx c j k p q w a.1 b.1 a.2.1 b.2.1 g).mono fun e w' i=>h.new i (a.2.1.sub b.2.1) oO
def zP:=@eT.sub
def eT.mul{w0 w:Vz}{L:An}{bx c j k:Nat}{p q:Rat}(h:eT w0 w L)(d:(bx,p,j)∈ L)(f:(c,q,k)∈ L)(g:j+k<274877906000):
 Calls prog 37 #[.pointer (some ⟨bx,0,none⟩),.pointer (some ⟨c,0,none⟩)] w (wj w0 L (p*q) (j+k)):=by
 have a:=h.ts _ d;have b:=h.ts _ f;have i:0<j:=a.2.2;exact(M7 bx c j k p q w a.1 b.1 a.2.1 b.2.1 g).mono fun e w' l=>h.new l (a.2.1.mul b.2.1 i) oO
def zR:=@eT.mul
def eT.tG(h:eT w0 w L):
 Calls prog 33 #[.int .i64 0] w (wj w0 L 0 1):=
 (Bp 0 w dD).mono fun e w' a=>h.new a nr dD
def eT.of{w0 w:Vz}{L:An}{n:Nat}(s:Vs)(h:eT w0 w L)(b:s.size<=n)(d:n<=1073741824):
 Calls prog 36 #[.string s] w fun e w'=>∃q,il s.data.toList q/\wj w0 L q (4*n+1) e w':=by
 obtain⟨m,c⟩:=h.glob;refine(M8 s m w c oO).mono ?_;rintro e w' ⟨q,a,hk⟩;exact⟨q,a,h.new hk (a.fits (sU b)) oO⟩
def zQ:=@eT.of
def eT.uw{bx:Nat}(h:eT w0 w L)(c:(bx,p,j)∈ L)(d:j<274877906000):
 Calls prog 20 #[.pointer (some ⟨bx,0,none⟩)] w fun e w'=>(∃s,e=.returned (.string s)/\iK s.data.toList p)/\eT w0 w' L:=by
 have a:=h.ts _ c;exact(Dh bx j p w a.1 a.2.1 oO).mono fun e w' b=>⟨b.1,h.below b.2⟩
def eT.yE{bx:Nat}(h:eT w0 w L)(a:(bx,p,j)∈ L):
 Calls prog 59 #[.pointer (some ⟨bx,0,none⟩)] w fun e w'=>e=.returned (.int .i64 (lJ p.num))/\w'=w:=
 Tu bx p w (h.ts _ a).1
def TD(p q:Rat)(a:q.num≠0): -p / -q=p / q:=by
 have b:q≠0:=fun e=>a (by rw[e];rfl)
 grind
def Fits.DO{q:Rat}(h:Fits p j)(a:Fits q k)(b:0<j)(c:q.num≠0):Fits (p / q) (j+k):=by
 by_cases d:0<q.num
 . exact h.quo a b d
 . rw[<-TD p q c]
   exact h.neg.quo a.neg b (by rw[oS];omega)
def eT.DO{bx:Nat}{q:Rat}(h:eT w0 w L)(g:(bx,p,j)∈ L)(i:(c,q,k)∈ L)(l:j+k<274877906000)(m:q≠0):
 Calls prog 65 #[.pointer (some ⟨bx,0,none⟩),.pointer (some ⟨c,0,none⟩)] w (wj w0 L (p / q) (j+k)):=by
 have a:=h.ts _ g;have b:=h.ts _ i;have n:0<j:=a.2.2;have f:q.num≠0:=fun e=>m (jA.1 e)
 exact(M6 bx c j k p q w a.1 b.1 a.2.1 b.2.1 l f).mono fun e w' d=>h.new d (a.2.1.DO b.2.1 n f) oO
def eT.mono{w1:Vz}{M:An}(h:eT w1 w L)(hb:Bl w0 w1)(b:∀t,t∈ M->∃k,(t.1,t.2.1,k)∈ L/\k<=t.2.2):eT w0 w M:=by refine⟨hb.trans (h.base.mono hb.size),h.glob,fun t c=>?_⟩;obtain⟨k,hk,a⟩:=b t c;have:=h.ts _ hk;exact⟨this.1,this.2.1.mono a,aF this.2.2 a⟩
def il.empty:il [] 0:=⟨0,.inr ⟨fun h=>h.1.1 rfl,rfl⟩,rfl⟩
def SB.other(h:SB w b t C)(a:b≠g)(i:Nat)(v:Ac):SB (w.setCell ⟨g,i,none⟩ v) b t C:=by unfold SB at h ⊢;rw[gF _ _ _ _ a];exact h
def Row.sf{a:Vx}(h:Row .u32 w a cap l)(e:cE c w w')(m:∀(i:Nat)(n:Int),w.cell? ⟨c,i,none⟩≠some (.int .u32 n)):Row .u32 w' a cap l:=by
 refine⟨h.fit,?_,fun i o=>?_⟩
 .
  rcases h.shape with f|⟨d,b,rfl,j⟩
  . exact .inl f
  . exact .inr ⟨d,b,rfl,by have:=e.size;omega⟩
 . obtain⟨d,b,f,j,k⟩:=h.cell i o;have g:d≠c:=by rintro rfl;exact m _ _ k
   exact⟨d,b,f,by have:=e.size;omega,(bJ (w:=w) (e.block d j g)).trans k⟩
def cQ.sf{q:Rat}(h:cQ w b q)(e:cE c w w')(f:SB w c t C)(j:t≠116)(k:∀(i:Nat)(n:Int),C[i]?≠some (.int .u32 n)):cQ w' b q:=by
 obtain⟨D,l,c1,m,o,c2,p,h,r⟩:=h;have g:b≠c:=by
  rintro rfl;have a:=h.sb;unfold SB at a f;rw[f]at a;injection a with a
  injection a with _ s _
  exact j s
 have d:∀(i:Nat)(n:Int),w.cell? ⟨c,i,none⟩≠some (.int .u32 n):=fun i n=>by rw[f.cell];exact k i n
 exact⟨D,l,c1,m,o,c2,p,⟨h.sb.only e g,⟨h.num.row.sf e d,h.num.num,h.num.short⟩,⟨h.den.row.sf e d,h.den.num,h.den.short⟩⟩,r⟩
structure jx (w:Vz) (a:Vx) (cap:Nat) (l:Vy) (n:Nat):Prop where
 row:Row .u64 w a cap l
 num:Num 18446744073709551616 l n
 short:l.length<=1099511627776
def jx.below{a:Vx}(h:jx w a cap l n)(hb:Bl w w'):jx w' a cap l n:=⟨h.row.below hb,h.num,h.short⟩
def jx.drew{a:Vx}(h:jx w a cap l n):jx w.drew a cap l n:=h.below bR.drew
def jx.nil(w:Vz):jx w none 0 [] 0:=⟨qS _ _,rH _,sS⟩
def I9:=@jx.nil
def GH(L:Int)(n:Nat)(a:L=n)(b:n<=2199023255552)(w:Vz):
 (Instr.makeSlice 97 (.int .i64 L) (.int .i64 L)).run prog w=.ok (.slice (some ⟨w.heap.size,0,none⟩) n n) (w.alloc (.cells (dA .u64 (zeros n)) 172)):=by
 subst a;rw[<-Io];exact Bo 97 172 (.int .u64 0) 8 underlying97 L8 rfl .i64 .i64 n oO oO w
def BA(x y c:Nat)(b:x<18446744073709551616)(e:y<18446744073709551616)(a:c<=1):∃r d:Nat,r<18446744073709551616/\d<=1/\r+18446744073709551616*d=x+y+c/\
 ∀w,(callFunc 204 #[.int .u64 x,.int .u64 y,.int .u64 c]).run prog w=.ok (.value (.tuple #[.int .u64 (r:Int),.int .u64 (d:Int)])) w:=
 ⟨(x+y+c) % 18446744073709551616,(x+y+c) / 18446744073709551616,oO,oO,oO,fun w=>Any7.bits_Add64 Tryz.DY x y c a w⟩
def He(x y:Nat)(a:x<18446744073709551616)(b:y<18446744073709551616):∃r d:Nat,r<18446744073709551616/\d<=1/\r+18446744073709551616*d=x+y/\
 ∀w,(callFunc 204 #[.int .u64 x,.int .u64 y,.int .u64 0]).run prog w=.ok (.value (.tuple #[.int .u64 (r:Int),.int .u64 (d:Int)])) w:=
 BA x y 0 a b dD
def xS(x y c:Nat)(b:x<18446744073709551616)(e:y<18446744073709551616)(a:c<=1):∃r d:Nat,r<18446744073709551616/\d<=1/\r+c+y=x+18446744073709551616*d/\
 ∀w,(callFunc 206 #[.int .u64 x,.int .u64 y,.int .u64 c]).run prog w=.ok (.value (.tuple #[.int .u64 (r:Int),.int .u64 (d:Int)])) w:=by
 refine⟨(x+18446744073709551616 - y - c) % 18446744073709551616,if x<y+c then 1 else 0,oO,by split<;>omega,by split<;>omega,fun w=>Any7.bits_Sub64 Tryz.DW x y c a w⟩
def N1(x y:Nat)(a:x<18446744073709551616)(b:y<18446744073709551616):∃r d:Nat,r<18446744073709551616/\d<=1/\r+y=x+18446744073709551616*d/\
 ∀w,(callFunc 206 #[.int .u64 x,.int .u64 y,.int .u64 0]).run prog w=.ok (.value (.tuple #[.int .u64 (r:Int),.int .u64 (d:Int)])) w:=
 xS x y 0 a b dD
def xV(x y:Nat)(a:x<18446744073709551616)(b:y<18446744073709551616):∃h l:Nat,h<18446744073709551616/\l<18446744073709551616/\l+18446744073709551616*h=x*y/\
 ∀w,Calls prog 207 #[.int .u64 x,.int .u64 y] w fun e w'=>e=.returned (.tuple #[.int .u64 (h:Int),.int .u64 (l:Int)])/\w'=w:=by
 refine⟨x*y / 18446744073709551616,x*y % 18446744073709551616,?_,eU _ dD,Nat.mod_add_div _ _,fun w=>Any.bits_Mul64 Tryz.Cj x y a b w⟩;rw[fL dD];exact pN a b
def EW(a:Vx)(cap:Nat)(l:Vy)(i:Nat)(w:Vz)(h:Row .u64 w a cap l)(hl:l.length<=1099511627776)(k:i<=2199023255552):
 Calls prog 205 #[.slice a l.length cap,.int .i64 i] w fun e w'=>e=.returned (.int .u64 ((l.getD i 0:Nat):Int))/\w'=w:=by
 by_cases c:i<l.length
 . obtain⟨b,g,rfl,hb,j⟩:=h.cell i c;obtain⟨d,f⟩:=nm (l.getD i 0);rw[f]at j;rw[f];clear f h;go_enter func205,ntmps205;go_wp2;go_ret;exact⟨rfl,rfl⟩
 . rw[FJ l i oO];clear h;go_enter func205,ntmps205;go_wp2;go_ret;exact⟨rfl,rfl⟩
def VX(l:Vy)(k:Nat)(hk:k<=l.length)(h:k=0∨l.getD (k - 1) 0≠0):Trim (l.take k):=by
 rcases h with rfl|h
 . left;simp
 .
  by_cases a:k=0
  . left;subst a;simp
  . right;rw[cI,eH hk,aC,aW oO,<-aC];exact h
def VW(l:Vy)(k:Nat)(hk:k<l.length)(h:l.getD k 0=0):val 18446744073709551616 (l.take (k+1))=val 18446744073709551616 (l.take k):=by rw[EQ _ l k hk,h];simp
def KJ(a:Vx)(cap:Nat)(l:Vy)(w:Vz)(h:Row .u64 w a cap l)(hl:l.length<=1099511627776):
 Calls prog 167 #[.slice a l.length cap] w fun e w'=>(∃k,k<=l.length/\e=.returned (.slice a k cap)/\val 18446744073709551616 (l.take k)=val 18446744073709551616 l/\Trim (l.take k))/\w'=w:=by
 have i:=h.fit;go_enter func167,ntmps167;go_wp2;go_loop [3] (fun n=>∃k:Nat,k<=l.length/\n=.int .i64 k/\val 18446744073709551616 (l.take k)=val 18446744073709551616 l) (fun n=>(intOf n).toNat)
 case atStart=>exact⟨l.length,aV _,rfl,by rw[dB]⟩
 case round=>
  obtain⟨k,hk,rfl,m⟩:=hrel;have c:O (val 18446744073709551616 (l.take k)=val 18446744073709551616 l):=m;clear m;by_cases s:k=0
  . subst s;rcases h.shape with ⟨rfl,rfl⟩|⟨b,f,rfl,hb⟩
    all_goals
     go_wp2;go_ret;exact⟨⟨0,oO,sS,c.o,.inl sS⟩,rfl⟩
  .
   obtain⟨b,f,rfl,hb,p⟩:=h.cell (k - 1) oO;obtain⟨j,rfl⟩:∃j,k=j+1:=⟨k - 1,oO⟩;simp only[gW]at p;obtain⟨d,g⟩:=nm (l.getD j 0);rw[g]at p;have q:O (l.getD j 0=d):=g;clear g;by_cases r:d=0
   . subst r;go_wp2;go_round
     case rel=>exact⟨j,oO,by go_num,(VW l j oO q.o).symm.trans c.o⟩
     case measure=>simp[intOf]
   . have t:((d:Int) == 0)=false:=sO;go_wp2;go_ret;exact⟨⟨j+1,hk,sS,c.o,VX l (j+1) hk (.inr (by rw[gW,q.o];exact r))⟩,rfl⟩
def Hd(g n cap x:Nat)(rs:Vy)(w:Vz)(h:jf .u64 172 w g rs)(hl:rs.length=n)(i:Small 18446744073709551616 rs)(j:n<=cap)(l:n<=1099511627776)(k:val 18446744073709551616 rs=x):
 Calls prog 167 #[.slice (some ⟨g,0,none⟩) n cap] w fun e w'=>(∃r,e=.returned (.slice (some ⟨g,0,none⟩) r.length cap)/\jx w (some ⟨g,0,none⟩) cap r x)/\w'=w:=by
 have b:=h.row n oO cap j;rw[bL oO]at b;have f:=KJ (some ⟨g,0,none⟩) cap rs w b oO;rw[hl]at f;refine f.mono ?_;rintro e w1 ⟨⟨q,m,rfl,c,d⟩,rfl⟩;have a:(rs.take q).length=q:=tO;exact⟨⟨rs.take q,by rw[a],b.take q oO,⟨i.take q,d,c.trans k⟩,by rw[a];omega⟩,rfl⟩
def VV(h:Num 18446744073709551616 l 1):l= [1]:=h.inj dD ⟨fun d a=>by simp at a;omega,.inr sS,by simp[val]⟩
theorem Hc(a:Vx)(cap:Nat)(l:Vy)(n:Nat)(w:Vz)(h:jx w a cap l n):
 Calls prog 152 #[.slice a l.length cap] w fun e w'=>e=.returned (.bool (decide (n=1)))/\w'=w:=by
 have p:=h.short;by_cases j:l.length=1
 .
  obtain⟨b,m,rfl,hb,i⟩:=h.row.cell 0 oO;obtain⟨d,f⟩:=nm (l.getD 0 0);rw[f]at i;have o:n=d:=by
   rw[<-h.num.eq]
   match l,j with
   | [x],_=>simp at f;simp[val,f]
  subst o;rw[dV]at i;by_cases c:n=1
  . subst c;clear h f;go_enter func152,ntmps152;go_wp2;go_ret;exact⟨rfl,rfl⟩
  . have k:((n:Int) == 1)=false:=by rw[aJ];omega
    rw[show decide (n=1)=false by simpa using c];clear h f c;go_enter func152,ntmps152;go_wp2;go_ret;exact⟨by simp[k],rfl⟩
 .
  have g:n≠1:=fun i=>j (by subst i;rw[VV h.num];rfl)
  have k:((l.length:Int) == 1)=false:=by rw[aJ];omega
  rw[show decide (n=1)=false by simpa using g];clear h j g;go_enter func152,ntmps152;go_wp2;go_ret;exact⟨rfl,rfl⟩
def Hb(F G:Vx)(c1 c2:Nat)(l m:Vy)(x y:Nat)(w:Vz)(a:jx w F c1 l x)(c:jx w G c2 m y):
 Calls prog 156 #[.slice F l.length c1,.slice G m.length c2] w fun e w'=>e=.returned (.int .i64 (kZ x y))/\Below w.heap.size w w':=by
 have P:=a.short;have Q:=c.short;by_cases f:l.length<m.length
 . have t:((l.length:Int) != (m.length:Int))=true:=by rw[jk];omega
   have u:kZ x y= -1:=GS (by rw[<-a.num.eq,<-c.num.eq];exact zN oO a.num.small c.num.trim f);have z:O (kZ x y= -1):=u;clear u a c;go_enter func156,ntmps156;go_wp2;go_ret;exact⟨by rw[z.o];rfl,ac _ _⟩
 by_cases n:m.length<l.length
 . have t:((l.length:Int) != (m.length:Int))=true:=by rw[jk];omega
   have u:kZ x y=1:=II (by rw[<-a.num.eq,<-c.num.eq];exact zN oO c.num.small a.num.trim n);have z:O (kZ x y=1):=u;clear u a c;go_enter func156,ntmps156;go_wp2;go_ret;exact⟨by rw[z.o];rfl,ac _ _⟩
 have p:m.length=l.length:=oO;have H:O (m.length=l.length):=p;rw[p];have t:((l.length:Int) != (l.length:Int))=false:=sS;clear f n p;go_enter func156,ntmps156;go_wp2;go_loopw [5] (fun i wr=>∃k:Nat,k<=l.length/\i=.int .i64 ((k:Int) - 1)/\l.drop k=m.drop k/\Below w.heap.size w wr) (fun i _=>(intOf i+1).toNat)
 case atStart=>exact⟨l.length,aV _,rfl,by rw[dG lZ,dG (by rw[H.o];exact aV _)],ac _ _⟩
 case round=>
  obtain⟨k,hk,rfl,s,hb⟩:=hrel;have v:O (l.drop k=m.drop k):=s;clear s;by_cases L:k=0
  . subst L;go_wp2;go_ret;exact⟨by rw[PE (by rw[<-a.num.eq,<-c.num.eq];have:=v.o;simp at this;rw[this])];rfl,hb⟩
  .
   obtain⟨j,rfl⟩:∃j,k=j+1:=⟨k - 1,oO⟩;have g:j<l.length:=oO;have h:j<m.length:=oB H.o;obtain⟨b,M,rfl,A,q⟩:=a.row.cell j g;obtain⟨R,I,rfl,B,r⟩:=c.row.cell j h;obtain⟨d,s⟩:=nm (l.getD j 0);obtain⟨e,C⟩:=nm (m.getD j 0);rw[s]at q;rw[C]at r;have J:=ce hb A q;have K:=ce hb B r;have D:O (l.getD j 0=d):=s;have E:O (m.getD j 0=e):=C;clear s C q r;have N:((j+1:Nat):Int) - 1=(j:Int):=oO;rw[N];by_cases f:d<e
   . go_wp2;go_region
     all_goals
      go_wp2;go_ret;exact⟨by rw[GS (by rw[<-a.num.eq,<-c.num.eq];exact IH oO a.num.small j g h v.o (by rw[D.o,E.o];exact f))];rfl,hb.drew⟩
   by_cases n:e<d
   .
    go_wp2;go_region
    all_goals
     go_wp2;go_region
    all_goals
     go_wp2;go_ret;exact⟨by rw[II (by rw[<-a.num.eq,<-c.num.eq];exact IH oO c.num.small j h g v.o.symm (by rw[D.o,E.o];omega))];rfl,hb.drew.drew⟩
   .
    go_wp2;go_region
    all_goals
     go_wp2;go_region
    all_goals
     go_wp2;go_roundw
     case rel=>exact⟨j,oO,by go_num,PD g h v.o (D.o.trans ((show d=e by omega).trans E.o.symm)),hb.drew.drew⟩
     case measure=>simp[intOf]
def VU(k c d e r a:Nat)(rs l m:Vy)(hk:k<rs.length)(b:l.getD k 0=d)(f:m.getD k 0=e)(g:r+18446744073709551616*a=d+e+c)(h:val 18446744073709551616 (rs.take k)+18446744073709551616 ^ k*c=val 18446744073709551616 (l.take k)+val 18446744073709551616 (m.take k)):
 val 18446744073709551616 ((rs.set k r).take (k+1))+18446744073709551616 ^ (k+1)*a=val 18446744073709551616 (l.take (k+1))+val 18446744073709551616 (m.take (k+1)):=by
 rw[take_set _ _ _ hk,wu,cI,eH oO,sW,sW,b,f,fD];have i:18446744073709551616 ^ k*(r+18446744073709551616*a)=18446744073709551616 ^ k*(d+e+c):=by rw[g]
 rw[cF,cF,cF,<-dQ]at i;omega
def VT(C D:Vx)(c1 c2:Nat)(l m:Vy)(x y:Nat)(w:Vz)(W:jx w C c1 l x)(X:jx w D c2 m y)(hl:l.length<1099511627776)(hm:m.length<1099511627776):
 Calls prog 164 #[.slice C l.length c1,.slice D m.length c2] w fun e w'=>(∃a cap r,e=.returned (.slice a r.length cap)/\jx w' a cap r (x+y))/\Below w.heap.size w w':=by
 obtain⟨n,hn,E,F⟩:∃n,max l.length m.length=n/\l.length<=n/\m.length<=n:=⟨_,rfl,oO,oO⟩;have aa:max (l.length:Int) (m.length:Int)=(n:Int):=oO;have G:∀w,(Instr.makeSlice 97 (.int .i64 ((n:Int)+1)) (.int .i64 ((n:Int)+1))).run prog w=.ok (.slice (some ⟨w.heap.size,0,none⟩) (n+1) (n+1)) (w.alloc (.cells (dA .u64 (zeros (n+1))) 172)):=
  fun w=>GH _ (n+1) oO oO w
 have ab:n<1099511627776:=oO;obtain⟨H,I⟩:=Ia W X;clear W X hn;go_enter func164,ntmps164;go_wp2;clear G;go_loopw [7,18] (fun c i wr=>∃(k q:Nat)(rs:Vy),k<=n/\q<=1/\c=.int .u64 q/\i=.int .i64 k/\jf .u64 172 wr w.heap.size rs/\rs.length=n+1/\Small 18446744073709551616 rs/\
  val 18446744073709551616 (rs.take k)+18446744073709551616 ^ k*q=val 18446744073709551616 (l.take k)+val 18446744073709551616 (m.take k)/\Below w.heap.size w wr) (fun _ i _=>n - (intOf i).toNat)
 case atStart=>exact⟨0,0,zeros (n+1),oO,oO,rfl,rfl,mn _ _ _ _,uC _,wZ _ _ oO,by simp[val],bR.alloc lZ _⟩
 case round=>
  obtain⟨k,c,rs,hk,hc,rfl,rfl,hB,g,s,Y,hb⟩:=hrel;obtain⟨Z,b,HB,t,f⟩:=Id Y g hB s hb;clear Y s hb;by_cases ad:k<n
  .
   obtain⟨d,A⟩:=nm (l.getD k 0);obtain⟨e,B⟩:=nm (m.getD k 0);have J:d<18446744073709551616:=by rw[<-A];exact H.o.num.small.getD oO k
   have K:e<18446744073709551616:=by rw[<-B];exact I.o.num.small.getD oO k
   obtain⟨r,q,hr,L,u,h⟩:=BA d e c J K hc;obtain⟨z,v⟩:=nm (rs.getD k 0);have g1:=hB.free k;have M:=hB.cell k oO;rw[v]at M;obtain⟨j,p⟩:=Ia (EW C c1 l k wr (H.o.row.below f.o) oO oO) (EW D c2 m k wr (I.o.row.below f.o) oO oO);rw[A]at j;rw[B]at p;obtain⟨N,O,P⟩:=Ib A B u;clear A B v hB g u;go_wp2_with fail;refine j.o.mono ?_;rintro Q w1 ⟨rfl,R⟩;subst R;go_wp2_with fail;refine p.o.mono ?_;rintro Q w2 ⟨rfl,S⟩;subst S;clear j p;go_wp2_with (simp only[h]);go_roundw
   case rel=>exact⟨k+1,q,rs.set k r,oO,L,rfl,by go_num,HB.o.set k _,by rw[aQ];exact b.o,t.o.set k hr,VU k c d e r q rs l m (oB b.o) N.o O.o P.o Z.o,f.o.setCell lZ _⟩
   case measure=>exact mI
  . obtain⟨z,v⟩:=nm (rs.getD n 0);have g1:=hB.free n;have M:=hB.cell n oO;rw[v]at M;clear v hB g;go_wp2_with fail;have T:(rs.set n c).length=n+1:=by rw[aQ];exact b.o
    have U:=HB.o.set n c;have V:val 18446744073709551616 (rs.set n c)=x+y:=by rw[PC _ _ _ _ b.o];have Q:k=n:=oO;have e2:=Z.o;rw[Q,DD _ l _ E,DD _ m _ F,H.o.num.eq,I.o.num.eq]at e2;omega
    refine(Hd w.heap.size (n+1) (n+1) (x+y) (rs.set n c) _ U T (t.o.set _ oO) lZ oO V).mono ?_;rintro e w1 ⟨⟨r,rfl,hu⟩,rfl⟩;go_wp2;go_ret;exact⟨⟨_,_,r,rfl,hu⟩,f.o.setCell lZ _⟩
def VS(Y J:Vx)(c1 c2:Nat)(l m:Vy)(x y:Nat)(w:Vz)(t:jx w Y c1 l x)(u:jx w J c2 m y)(ab:y<=x):
 Calls prog 165 #[.slice Y l.length c1,.slice J m.length c2] w fun e w'=>(∃a cap r,e=.returned (.slice a r.length cap)/\jx w' a cap r (x - y))/\Below w.heap.size w w':=by
 have s1:=t.short;have s2:=u.short;have K:m.length<=l.length:=by apply bC;intro Z;have:=zN (B:=18446744073709551616) dD t.num.small u.num.trim oO;rw[t.num.eq,u.num.eq]at this;omega
 have L:=
  fun w=>GH _ l.length rfl oO w
 obtain⟨M,N⟩:=Ia t u;clear t u;go_enter func165,ntmps165;go_wp2;clear L;go_loopw [7,14] (fun c i wr=>∃(k s:Nat)(rs:Vy),k<=l.length/\s<=1/\c=.int .u64 s/\i=.int .i64 k/\jf .u64 172 wr w.heap.size rs/\rs.length=l.length/\Small 18446744073709551616 rs/\
  val 18446744073709551616 (rs.take k)+val 18446744073709551616 (m.take k)=val 18446744073709551616 (l.take k)+18446744073709551616 ^ k*s/\Below w.heap.size w wr) (fun _ i _=>l.length - (intOf i).toNat)
 case atStart=>exact⟨0,0,zeros l.length,oO,oO,rfl,rfl,mn _ _ _ _,uC _,wZ _ _ oO,by simp[val],bR.alloc lZ _⟩
 case round=>
  obtain⟨k,c,rs,hk,Z,rfl,rfl,hB,v,A,hv,hb⟩:=hrel;obtain⟨HV,f,HB,n,g⟩:=Id hv v hB A hb;clear hv A hb;by_cases O:k<l.length
  .
   obtain⟨b,C,rfl,D,j⟩:=M.o.row.cell k O;obtain⟨d,H⟩:=nm (l.getD k 0);obtain⟨e,I⟩:=nm (m.getD k 0);have P:d<18446744073709551616:=by rw[<-H];exact M.o.num.small.getD oO k
   have Q:e<18446744073709551616:=by rw[<-I];exact N.o.num.small.getD oO k
   rw[H]at j;have aa:=ce g.o D j;obtain⟨r,s,hr,R,E,q⟩:=xS d e c P Q Z;obtain⟨z,hz⟩:=nm (rs.getD k 0);have g1:=hB.free k;have g2:=hB.cell k oO;rw[hz]at g2;have F:=Hi (EW J c2 m k wr.drew (N.o.row.below g.o.drew) oO oO);rw[I]at F;obtain⟨S,T,U⟩:=Ib H I E;have i0:(0:Int)<=(k:Int):=oO;have i1:(k:Int)<(l.length:Int):=oO;have ad:=(((g.o.setCell (p:=⟨w.heap.size,k,none⟩) lZ (.int .u64 (r:Int))).drew).cell (p:=⟨b,C+k,none⟩) D).trans j;clear H I hz hB v E j;go_wp2_with fail;go_region_held3 (fun w'=>w'.cell? ⟨b,C+k,none⟩=some (.int .u64 d)) ((simp [*])) (first
    |(
     go_at_call 205;refine F.o.mono ?_;rintro e1 w2 ⟨rfl,V⟩
     subst V)
    |simp only[q])
   go_wp2;go_roundw
   case rel=>exact⟨k+1,s,rs.set k r,oO,R,rfl,by go_num,(HB.o.set k _).drew,by rw[aQ];exact f.o,n.o.set k hr,LC _ k c d e r s rs l m (oB f.o) S.o T.o U.o HV.o,(g.o.setCell lZ _).drew⟩
   case measure=>exact mI
  .
   have e1:k=l.length:=oO;go_wp2_with fail;have W:val 18446744073709551616 rs=x - y:=by
    have e2:=HV.o;have G:=qi (B:=18446744073709551616) dD n.o;rw[f.o]at G;rw[e1,bL (oB f.o),DD _ m _ K,dB,M.o.num.eq,N.o.num.eq]at e2;have X:c=0:=by
     rcases eE c with h|h
     . exact h
     . have:c=1:=oO;subst this;omega
    subst X;omega
   refine(Hd w.heap.size l.length l.length (x - y) rs _ HB.o f.o n.o lZ oO W).mono ?_;rintro e w1 ⟨⟨r,rfl,hu⟩,rfl⟩;go_wp2;go_ret;exact⟨⟨_,_,r,rfl,hu⟩,g.o⟩
structure mb (w w':Vz) (g off n:Nat) (rs rs':Vy):Prop where
 blk:jf .u64 172 w' g rs'
 len:rs'.length=rs.length
 small:Small 18446744073709551616 rs'
 only:cE g w w'
 o:∀p,p<off∨off+n<=p->rs'.getD p 0=rs.getD p 0
def Row.qV{k:AM}{a:Vx}(h:Row k w a cap l)(f:cE g w w')(j:∀b c,a=some ⟨b,c,none⟩->b≠g):Row k w' a cap l:=by
 refine⟨h.fit,?_,fun i n=>?_⟩
 .
  rcases h.shape with e|⟨d,c,rfl,m⟩
  . exact .inl e
  . exact .inr ⟨d,c,rfl,by have:=f.size;omega⟩
 . obtain⟨d,c,e,m,o⟩:=h.cell i n
   exact⟨d,c,e,by have:=f.size;omega,(bJ (w:=w) (f.block d m (j d c e))).trans o⟩
def jx.qV{a:Vx}(h:jx w a cap l n)(e:cE g w w')(c:∀b d,a=some ⟨b,d,none⟩->b≠g):jx w' a cap l n:=⟨h.row.qV e c,h.num,h.short⟩
def KG{rs b:Vy}{x:Nat}(h:∀p,p<a∨a+j<=p->b.getD p 0=rs.getD p 0):∀p,p<a∨a+(j+1)<=p->(b.set (a+j) x).getD p 0=rs.getD p 0:=by intro p c;rw[getD_set_ne _ _ _ _ oO];exact h p oO
def NP(B p a c over b t R:Nat)(rs:Vy)(d:p<rs.length)(e:rs.getD p 0=a)(f:c+B*b=a+t+over)(h:val B rs+B ^ p*over=R):
 val B (rs.set p c)+B ^ (p+1)*b=R+B ^ p*t:=by
 have g:=DC B rs p c d;rw[e]at g;have i:B ^ p*(c+B*b)=B ^ p*(a+t+over):=by rw[f]
 rw[cF,cF,cF,<-dQ]at i;rw[fD];omega
def UG(B p a d c b t R S:Nat)(rs:Vy)(e:p<rs.length)(f:rs.getD p 0=a)(g:d+t+c=a+B*b)(h:val B rs+S=R+B ^ p*c):
 val B (rs.set p d)+(S+B ^ p*t)=R+B ^ (p+1)*b:=by
 have i:=DC B rs p d e;rw[f]at i;have j:B ^ p*(d+t+c)=B ^ p*(a+B*b):=by rw[g]
 rw[cF,cF,cF,<-dQ]at j;rw[fD];omega
def KE{v d over:Nat}(a:v<18446744073709551616)(b:d<18446744073709551616):v*d<=18446744073709551615*18446744073709551615:=fO oO oO
def KD(B a j d:Nat)(m:Vy):B ^ a*(d*val B (m.take (j+1)))=B ^ a*(d*val B (m.take j))+B ^ (a+j)*(m.getD j 0*d):=by
 rw[sW,cF,cF,eG]
 congr 1
 rw[dQ,bV (m.getD j 0) d,<-dQ d,bV d (B ^ j),dQ]
def UF(g a cap:Nat)(rs:Vy)(E:Vx)(c2:Nat)(m:Vy)(d:Nat)(w:Vz)(hB:jf .u64 172 w g rs)(r:Small 18446744073709551616 rs)(Z:Row .u64 w E c2 m)(s:Small 18446744073709551616 m)(ag:m.length<=1099511627776)(hd:d<18446744073709551616)(aa:a+m.length<=rs.length)(ab:m.length<=cap)(t:∀b o,E=some ⟨b,o,none⟩->b≠g):
 Calls prog 166 #[.slice (some ⟨g,a,none⟩) m.length cap,.slice E m.length c2,.int .u64 d] w fun e w'=>∃over u,e=.returned (.int .u64 ((over:Nat):Int))/\over<18446744073709551616/\mb w w' g a m.length rs u/\val 18446744073709551616 u+18446744073709551616 ^ (a+m.length)*over=val 18446744073709551616 rs+18446744073709551616 ^ a*(d*val 18446744073709551616 m):=by
 obtain⟨F,G,HM,H,I⟩:=Id hB r Z s t;clear hB r Z s t;go_enter func166,ntmps166;go_wp2;go_loopw [7,19] (fun o i wr=>∃(k over:Nat)(n:Vy),k<=m.length/\over<18446744073709551616/\o=.int .u64 over/\i=.int .i64 k/\mb w wr g a k rs n/\val 18446744073709551616 n+18446744073709551616 ^ (a+k)*over=val 18446744073709551616 rs+18446744073709551616 ^ a*(d*val 18446744073709551616 (m.take k))) (fun _ i _=>m.length - (intOf i).toNat)
 case atStart=>exact⟨0,0,rs,oO,oO,rfl,rfl,⟨F.o,rfl,G.o,cX _ _,fun _ _=>rfl⟩,by simp[val]⟩
 case round=>
  obtain⟨k,over,n,hk,x,rfl,rfl,q,p⟩:=hrel;obtain⟨c,HV⟩:=Ia q p;clear p;by_cases J:k<m.length
  .
   obtain⟨b,o,rfl,ah,K⟩:=(HM.o.qV c.o.only I.o).cell k J;obtain⟨v,p⟩:=nm (m.getD k 0);rw[p]at K;have y:v<18446744073709551616:=by rw[<-p];exact H.o.getD oO k
   obtain⟨z,D⟩:=nm (n.getD (a+k) 0);have L:z<18446744073709551616:=by rw[<-D];exact c.o.small.getD oO _
   have g1:=q.blk.free (a+k);have g2:=q.blk.cell (a+k) (by rw[q.len];omega);rw[D]at g2;obtain⟨h,l,hh,hl,M,A⟩:=xV v d y hd;obtain⟨l',c1,N,ad,O,P⟩:=He l over hl x;obtain⟨Q,f,R,ae,S,T⟩:=He z l' L N;have B:=KE (over:=over) y hd;have j:Q+18446744073709551616*(h+c1+f)=z+v*d+over:=oO;have U:h+c1+f<18446744073709551616:=oO;have af:h+c1<18446744073709551616:=oO;obtain⟨V,C,W,X⟩:=Ic A j p D;clear q p D A j M O S B;go_wp2_with (first|(go_at_call 207;refine(V.o _).mono ?_;rintro e w2 ⟨rfl,Y⟩;subst Y)|simp only[P]|simp only[T]);go_roundw
   case rel=> refine⟨k+1,h+c1+f,n.set (a+k) Q,oO,U,by go_num,by go_num,⟨c.o.blk.set _ _,by rw[aQ];exact c.o.len,c.o.small.set _ R,c.o.only.setCell _ _,KG c.o.o⟩,?_⟩;have h1:=NP 18446744073709551616 (a+k) z Q over (h+c1+f) (v*d) _ n (by rw[c.o.len];omega) X.o (by rw[C.o]) HV.o;rw[gT]at h1;rw[h1,KD,W.o];omega
   case measure=>exact mI
  . have e1:k=m.length:=oO;subst e1;clear q;go_wp2;go_ret;exact⟨over,n,rfl,x,c.o,by have:=HV.o;rw[dB]at this;exact this⟩
def UE(g a cap:Nat)(rs:Vy)(E:Vx)(c2:Nat)(m:Vy)(d:Nat)(w:Vz)(hB:jf .u64 172 w g rs)(r:Small 18446744073709551616 rs)(Z:Row .u64 w E c2 m)(s:Small 18446744073709551616 m)(ag:m.length<=1099511627776)(hd:d<18446744073709551616)(aa:a+m.length<=rs.length)(ab:m.length<=cap)(t:∀b o,E=some ⟨b,o,none⟩->b≠g):
 Calls prog 228 #[.slice (some ⟨g,a,none⟩) m.length cap,.slice E m.length c2,.int .u64 d] w fun e w'=>∃over u,e=.returned (.int .u64 ((over:Nat):Int))/\over<18446744073709551616/\mb w w' g a m.length rs u/\val 18446744073709551616 u+18446744073709551616 ^ a*(d*val 18446744073709551616 m)=val 18446744073709551616 rs+18446744073709551616 ^ (a+m.length)*over:=by
 obtain⟨F,G,HM,H,I⟩:=Id hB r Z s t;clear hB r Z s t;go_enter func228,ntmps228;go_wp2;go_loopw [7,19] (fun o i wr=>∃(k over:Nat)(n:Vy),k<=m.length/\over<18446744073709551616/\o=.int .u64 over/\i=.int .i64 k/\mb w wr g a k rs n/\val 18446744073709551616 n+18446744073709551616 ^ a*(d*val 18446744073709551616 (m.take k))=val 18446744073709551616 rs+18446744073709551616 ^ (a+k)*over) (fun _ i _=>m.length - (intOf i).toNat)
 case atStart=>exact⟨0,0,rs,oO,oO,rfl,rfl,⟨F.o,rfl,G.o,cX _ _,fun _ _=>rfl⟩,by simp[val]⟩
 case round=>
  obtain⟨k,over,n,hk,x,rfl,rfl,q,p⟩:=hrel;obtain⟨c,HV⟩:=Ia q p;clear p;by_cases J:k<m.length
  .
   obtain⟨b,o,rfl,ah,K⟩:=(HM.o.qV c.o.only I.o).cell k J;obtain⟨v,p⟩:=nm (m.getD k 0);rw[p]at K;have y:v<18446744073709551616:=by rw[<-p];exact H.o.getD oO k
   obtain⟨z,D⟩:=nm (n.getD (a+k) 0);have L:z<18446744073709551616:=by rw[<-D];exact c.o.small.getD oO _
   have g1:=q.blk.free (a+k);have g2:=q.blk.cell (a+k) (by rw[q.len];omega);rw[D]at g2;obtain⟨h,l,hh,hl,M,A⟩:=xV v d y hd;obtain⟨l',c1,N,ad,O,P⟩:=He l over hl x;obtain⟨Q,f,R,ae,S,T⟩:=N1 z l' L N;have B:=KE (over:=over) y hd;have j:Q+v*d+over=z+18446744073709551616*(h+c1+f):=oO;have U:h+c1+f<18446744073709551616:=oO;have af:h+c1<18446744073709551616:=oO;obtain⟨V,C,W,X⟩:=Ic A j p D;clear q p D A j M O S B;go_wp2_with (first|(go_at_call 207;refine(V.o _).mono ?_;rintro e w2 ⟨rfl,Y⟩;subst Y)|simp only[P]|simp only[T]);go_roundw
   case rel=> refine⟨k+1,h+c1+f,n.set (a+k) Q,oO,U,by go_num,by go_num,⟨c.o.blk.set _ _,by rw[aQ];exact c.o.len,c.o.small.set _ R,c.o.only.setCell _ _,KG c.o.o⟩,?_⟩;have h1:=UG 18446744073709551616 (a+k) z Q over (h+c1+f) (v*d) _ _ n (by rw[c.o.len];omega) X.o C.o HV.o;rw[gT a]at h1;rw[KD,W.o];exact h1
   case measure=>exact mI
  . have e1:k=m.length:=oO;subst e1;clear q;go_wp2;go_ret;exact⟨over,n,rfl,x,c.o,by have:=HV.o;rw[dB]at this;exact this⟩
def UD(g a cap:Nat)(rs:Vy)(y:Vx)(c2:Nat)(m:Vy)(w:Vz)(hB:jf .u64 172 w g rs)(j:Small 18446744073709551616 rs)(M:Row .u64 w y c2 m)(l:Small 18446744073709551616 m)(S:m.length<=1099511627776)(N:a+m.length<=rs.length)(O:m.length<=cap)(n:∀b o,y=some ⟨b,o,none⟩->b≠g):
 Calls prog 229 #[.slice (some ⟨g,a,none⟩) m.length cap,.slice y m.length c2] w fun e w'=>∃over p,e=.returned (.int .u64 ((over:Nat):Int))/\over<=1/\mb w w' g a m.length rs p/\val 18446744073709551616 p+18446744073709551616 ^ (a+m.length)*over=val 18446744073709551616 rs+18446744073709551616 ^ a*(1*val 18446744073709551616 m):=by
 obtain⟨A,B,T,C,D⟩:=Id hB j M l n;clear hB j M l n;go_enter func229,ntmps229;go_wp2;go_loopw [5,14] (fun o i wr=>∃(k over:Nat)(d:Vy),k<=m.length/\over<=1/\o=.int .u64 over/\i=.int .i64 k/\mb w wr g a k rs d/\val 18446744073709551616 d+18446744073709551616 ^ (a+k)*over=val 18446744073709551616 rs+18446744073709551616 ^ a*(1*val 18446744073709551616 (m.take k))) (fun _ i _=>m.length - (intOf i).toNat)
 case atStart=>exact⟨0,0,rs,oO,oO,rfl,rfl,⟨A.o,rfl,B.o,cX _ _,fun _ _=>rfl⟩,by simp[val]⟩
 case round=>
  obtain⟨k,over,d,hk,q,rfl,rfl,h,f⟩:=hrel;obtain⟨c,P⟩:=Ia h f;clear f;by_cases E:k<m.length
  .
   obtain⟨b,o,rfl,U,F⟩:=(T.o.qV c.o.only D.o).cell k E;obtain⟨v,f⟩:=nm (m.getD k 0);rw[f]at F;have G:v<18446744073709551616:=by rw[<-f];exact C.o.getD oO k
   obtain⟨z,x⟩:=nm (d.getD (a+k) 0);have H:z<18446744073709551616:=by rw[<-x];exact c.o.small.getD oO _
   have X:=h.blk.free (a+k);have V:=h.blk.cell (a+k) (by rw[h.len];omega);rw[x]at V;obtain⟨Q,r,I,s,t,J⟩:=BA z v over H G q;obtain⟨u,K,L⟩:=Ib t f x;clear h f x t;go_wp2_with (simp only[J]);go_roundw
   case rel=> refine⟨k+1,r,d.set (a+k) Q,oO,s,by go_num,by go_num,⟨c.o.blk.set _ _,by rw[aQ];exact c.o.len,c.o.small.set _ I,c.o.only.setCell _ _,KG c.o.o⟩,?_⟩;have R:=NP 18446744073709551616 (a+k) z Q over r (v*1) _ d (by rw[c.o.len];omega) L.o (rO u.o) P.o;rw[gT]at R;rw[R,KD,K.o];omega
   case measure=>exact mI
  . have W:k=m.length:=oO;subst W;clear h;go_wp2;go_ret;exact⟨over,d,rfl,q,c.o,by have:=P.o;rw[dB]at this;exact this⟩
def Ou(M F:Vx)(c1 c2:Nat)(l m:Vy)(x y:Nat)(w:Vz)(C:jx w M c1 l x)(D:jx w F c2 m y)(ab:l.length+m.length<=1099511627776):
 Calls prog 109 #[.slice M l.length c1,.slice F m.length c2] w fun e w'=>(∃a cap r,e=.returned (.slice a r.length cap)/\jx w' a cap r (x*y))/\Below w.heap.size w w':=by
 obtain⟨N,E⟩:=Ia C D;by_cases G:l.length=0
 . have hx:=(C.num.eV dD).2 G;have W:((l.length:Int) == 0)=true:=by simp[G]
   subst hx;clear C D;go_enter func109,ntmps109;go_wp2;go_ret;exact⟨⟨none,0,[],rfl,by rw[qP];exact I9 _⟩,ac _ _⟩
 by_cases H:m.length=0
 .
  have hy:=(D.num.eV dD).2 H;have W:((l.length:Int) == 0)=false:=by rw[aJ];omega
  have q2:((m.length:Int) == 0)=true:=by simp[H]
  subst hy;clear C D;go_enter func109,ntmps109;go_wp2;go_ret;exact⟨⟨none,0,[],rfl,by rw[fH];exact I9 _⟩,ac _ _⟩
 have W:((l.length:Int) == 0)=false:=by rw[aJ];omega
 have q2:((m.length:Int) == 0)=false:=by rw[aJ];omega
 obtain⟨g,j⟩:=Ia (Hc M c1 l x w C) (Hc F c2 m y w D);clear C D;by_cases z:x=1
 . rw[show decide (x=1)=true by simpa using z]at g;go_enter func109,ntmps109;go_wp2_with fail;refine g.o.mono ?_;rintro e w1 ⟨rfl,f⟩;subst f;clear g j;go_wp2;go_ret;exact⟨⟨F,c2,m,rfl,by rw[z,qa];exact E.o⟩,ac _ _⟩
 rw[show decide (x=1)=false by simpa using z]at g;by_cases A:y=1
 . rw[show decide (y=1)=true by simpa using A]at j;go_enter func109,ntmps109;go_wp2_with fail;refine g.o.mono ?_;rintro e w1 ⟨rfl,f⟩;subst f;go_wp2_with fail;refine j.o.mono ?_;rintro e w1 ⟨rfl,f⟩;subst f;clear g j;go_wp2;go_ret;exact⟨⟨M,c1,l,rfl,by rw[A,eP];exact N.o⟩,ac _ _⟩
 rw[show decide (y=1)=false by simpa using A]at j;have P:∀w,(Instr.makeSlice 97 (.int .i64 ((l.length:Int)+(m.length:Int))) (.int .i64 ((l.length:Int)+(m.length:Int)))).run prog w=.ok (.slice (some ⟨w.heap.size,0,none⟩) (l.length+m.length) (l.length+m.length)) (w.alloc (.cells (dA .u64 (zeros (l.length+m.length))) 172)):=
  fun w=>GH _ (l.length+m.length) oO oO w
 go_enter func109,ntmps109;go_wp2_with fail;refine g.o.mono ?_;rintro e w1 ⟨rfl,f⟩;subst f;go_wp2_with fail;refine j.o.mono ?_;rintro e w ⟨rfl,f⟩;subst f;clear g j;go_wp2;clear P;go_loopw [30] (fun i wr=>∃(k:Nat)(rs:Vy),k<=l.length/\i=.int .i64 k/\jf .u64 172 wr w.heap.size rs/\rs.length=l.length+m.length/\Small 18446744073709551616 rs/\val 18446744073709551616 rs=val 18446744073709551616 (l.take k)*y/\(∀p,k+m.length<=p->rs.getD p 0=0)/\Below w.heap.size w wr) (fun i _=>l.length - (intOf i).toNat)
 case atStart=>exact⟨0,zeros (l.length+m.length),oO,rfl,mn _ _ _ _,uC _,wZ _ _ oO,by rw[Ip];simp[val],fun p _=>EX _ _,bR.alloc lZ _⟩
 case round=>
  obtain⟨k,rs,hk,rfl,hB,I,J,X,Y,hb⟩:=hrel;obtain⟨Z,s,K,HV,HZ,n⟩:=Ie hB I J X Y hb;clear hB I J X Y hb;by_cases Q:k<l.length
  .
   obtain⟨b,ad,rfl,ae,R⟩:=(N.o.row.below n.o).cell k Q;obtain⟨d,O⟩:=nm (l.getD k 0);rw[O]at R;have S:d<18446744073709551616:=by rw[<-O];exact N.o.num.small.getD oO k
   have HD:=Hi O;have HC:=Hi (UF w.heap.size k (l.length+m.length - k) rs F c2 m d wr Z.o K.o (E.o.row.below n.o) E.o.num.small E.o.short S (oB s.o) oO (fun b o t=>by
    rcases E.o.row.shape with ⟨h,_⟩|⟨b',o',h,aa⟩
    . rw[h]at t;cases t
    . rw[h]at t;obtain⟨rfl,rfl⟩:b'=b/\o'=o:=sU t
      omega))
   clear O;go_wp2_with fail;refine HC.o.mono ?_;rintro e w2 ⟨over,u,rfl,T,c,v⟩;have g1:=c.blk.free (k+m.length);have g2:=c.blk.cell (k+m.length) (by rw[c.len,s.o];omega);have B:u.getD (k+m.length) 0=0:=by rw[c.o _ (.inr lZ)];exact HZ.o _ lZ
   rw[B]at g2;obtain⟨q,U,V⟩:=Ib c v B;clear c v B HC;go_wp2;go_roundw
   case rel=>
    have L:u.length=l.length+m.length:=by rw[q.o.len];exact s.o
    refine⟨k+1,u.set (k+m.length) over,oO,by go_num,q.o.blk.set _ _,by rw[aQ];exact L,q.o.small.set _ T,?_,?_,(n.o.trans (q.o.only.below lZ n.o.size)).setCell lZ _⟩
    . have h3:=DC 18446744073709551616 u (k+m.length) over oO;rw[V.o,fH,dV]at h3;rw[h3,U.o,HV.o,sW,HD.o,E.o.num.eq,jB,dQ]
    . intro p hp;rw[getD_set_ne _ _ _ _ oO,q.o.o p (.inr oO)];exact HZ.o p oO
   case measure=>exact mI
  . have e1:k=l.length:=oO;go_wp2_with fail;refine(Hd w.heap.size (l.length+m.length) (l.length+m.length) (x*y) rs _ Z.o s.o K.o lZ oO (by rw[HV.o,e1,dB,N.o.num.eq])).mono ?_;rintro e w1 ⟨⟨r,rfl,hu⟩,rfl⟩;go_wp2;go_ret;exact⟨⟨_,_,r,rfl,hu⟩,n.o⟩
def IE{q:Nat}(c:Y=4294967296*a+b)(d:q*a+r=u):q*b≤4294967296*r+n1↔q*Y≤4294967296*u+n1:=by
 have e:q*Y=4294967296*(q*a)+q*b:=by rw[c,Nat.mul_add,Nat.mul_left_comm]
 generalize q*a=A at*;generalize q*b=T at*;omega
def Pv(e:Y=4294967296*a+b)(f:n1<4294967296)(g:0<a):(4294967296*u+n1) / Y≤u / a:=by
 have c:(4294967296*u+n1) / Y≤(4294967296*u+n1) / (4294967296*a):=Nat.div_le_div_left (by omega) (by omega);rw[←Nat.div_div_eq_div_mul]at c;have d:(4294967296*u+n1) / 4294967296=u:=by omega
 rw[d]at c;exact c
def ID(a:u<Y)(b:n1<4294967296):(4294967296*u+n1) / Y<4294967296:=by rw[Nat.div_lt_iff_lt_mul (by omega)];omega
def IC{q:Nat}(a:0<Y)(b:q*Y≤4294967296*u+n1)(c:(4294967296*u+n1) / Y≤q):(4294967296*u+n1) / Y=q:=
 Nat.le_antisymm c ((Nat.le_div_iff_mul_le a).2 b)
def Pu{q:Nat}(a:0<Y)(b:¬q*Y≤4294967296*u+n1):(4294967296*u+n1) / Y<q:=by rw[Nat.div_lt_iff_lt_mul a];omega
def Pt{q:Nat}(e:Y=4294967296*a+b)(f:b<4294967296)(g:u<Y)(h:q*a+r=u)(i:4294967296≤r)(j:0<a):q<4294967296∧q*b≤4294967295*4294967295:=by
 have c:q*a<4294967296*a:=by omega
 have d:=Nat.lt_of_mul_lt_mul_right c;exact⟨d,Nat.mul_le_mul (by omega) (by omega)⟩
def EP(a:s≤64):2 ^ s*2 ^ (64 - s)=18446744073709551616:=by rw[←Nat.pow_add,show s+(64 - s)=64 by omega]
def Dl(b:s≤64):lo*2 ^ s=18446744073709551616*(lo / 2 ^ (64 - s))+lo*2 ^ s % 18446744073709551616:=by
 have a:=Nat.div_add_mod (lo*2 ^ s) 18446744073709551616;have c:lo*2 ^ s / 18446744073709551616=lo / 2 ^ (64 - s):=by rw[←EP b,Nat.mul_comm lo,Nat.mul_div_mul_left _ _ (Nat.two_pow_pos s)]
 rw[c]at a;exact a.symm
def Ly(a:s≤64)(hl:lo<18446744073709551616):lo / 2 ^ (64 - s)<2 ^ s:=by rw[Nat.div_lt_iff_lt_mul (Nat.two_pow_pos _),EP a];exact hl
end Go.Proofs.YtfgclhpgdanmfaaGreatDoor
