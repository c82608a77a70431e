import Derived.Test.YtppkmifkpjkgpaaGreatDoorE03RatSmall
import Derived.Deep.AppendLies
import Derived.Laws.BytesArg
import Derived.Lib.IndexMore
import Derived.Lib.Strings
import Derived.Lib.Split
import Derived.Shelf.Small.Wraps
import Derived.Shelf.Small.Bits
import Derived.Shelf.Strings.Prefix
import Derived.Shelf.Strings.Trim
import Derived.Shelf.Strings.SlTrimAscii
import Derived.Shelf.Strings.Cut
import Derived.Shelf.Strings.Split
import Derived.Shelf.Bits.Mul64
import Derived.Shelf.Spec.BitsCarry
import Derived.Test.YtppkmifkpjkgpaaGreatDoorProg
namespace Go.Proofs.YtppkmifkpjkgpaaGreatDoor
set_option linter.unusedSimpArgs false
set_option linter.unusedVariables false
set_option maxHeartbeats 8000000
set_option maxRecDepth 1000000
def decVal(l:List UInt8):Nat:=l.foldl (fun a c=>10*a+(c.toNat - 48)) 0
theorem Qok(l:List UInt8)(a:Nat):l.foldl (fun a c=>10*a+(c.toNat - 48)) a=a*10 ^ l.length+decVal l:=by
 induction l generalizing a with
 |nil=>simp[decVal]
 |cons c l b=>
  unfold decVal;rw[List.foldl_cons,List.foldl_cons,b,b (10*0+(c.toNat - 48)),List.length_cons,Nat.pow_succ,Nat.add_mul,Nat.mul_comm 10 a,Nat.mul_assoc,Nat.mul_comm 10 (10 ^ l.length),Nat.mul_zero,Nat.zero_add];omega
theorem Qb9(l m:List UInt8):decVal (l++m)=decVal l*10 ^ m.length+decVal m:=by
 conv=>lhs;unfold decVal
 rw[List.foldl_append];exact Qok m _
theorem Qfd(l:List UInt8)(c:UInt8):decVal (l++ [c])=10*decVal l+(c.toNat - 48):=by
 unfold decVal;rw[List.foldl_append];rfl
def AllDigits(l:List UInt8):Prop:=∀c,c∈ l→48≤c.toNat∧c.toNat≤57
theorem Qa3(l:List UInt8)(h:AllDigits l):decVal l<10 ^ l.length:=by
 induction l with
 |nil=>simp[decVal]
 |cons c l a=>
  have f:=h c (List.mem_cons_self ..);have g:=a fun d b=>h d (List.mem_cons_of_mem _ b)
  have e:decVal (c :: l)=(c.toNat - 48)*10 ^ l.length+decVal l:=by
   have:=Qb9 [c] l
   simpa [decVal] using this
  rw[e,List.length_cons,Nat.pow_succ];have:(c.toNat - 48)*10 ^ l.length≤9*10 ^ l.length:=Nat.mul_le_mul_right _ (by omega);omega
theorem Qh7(k:Nat):10 ^ k≤2 ^ (4*k):=by
 rw[Nat.pow_mul];exact Nat.pow_le_pow_left (by decide) k
theorem Qfe(s:ByteArray)(k:Nat)(h:k<s.size):s.data.toList.take (k+1)=s.data.toList.take k++ [s[k]]:=by
 rw[List.take_succ_eq_append_getElem (by simpa using h)];rfl
theorem Qff{s:ByteArray}(a:AllDigits s.data.toList)(k:Nat)(h:k<s.size):48≤s[k].toNat∧s[k].toNat≤57:=
 a _ (List.mem_iff_getElem.2 ⟨k,by simpa using h,rfl⟩)
theorem AllDigits.take{l:List UInt8}(h:AllDigits l)(k:Nat):AllDigits (l.take k):=fun c a=>h c (List.mem_of_mem_take a)
def IsDec(l:List UInt8)(n:Nat):Prop:=(n=0∧l= [48])∨(n≠0∧∃ds,Num 10 ds n∧l=ds.reverse.map (fun d=>UInt8.ofNat (48+d)))
theorem IsDec.inj{l m:List UInt8}{n:Nat}(h:IsDec l n)(k:IsDec m n):l=m:=by
 rcases h with ⟨b,rfl⟩|⟨b,d,h,rfl⟩
 ·
  rcases k with ⟨a,rfl⟩|⟨a,c,k,rfl⟩
  · rfl
  · omega
 ·
  rcases k with ⟨a,rfl⟩|⟨a,c,k,rfl⟩
  · omega
  · rw[h.inj (by decide) k]
def IntText(l:List UInt8)(X:Int):Prop:=∃m,IsDec m X.natAbs∧l=if X<0 then 45 :: m else m
theorem IntText.inj{l m:List UInt8}{X:Int}(h:IntText l X)(k:IntText m X):l=m:=by
 obtain⟨a,c,rfl⟩:=h;obtain⟨b,d,rfl⟩:=k;rw[c.inj d]
theorem Qol{a:List Nat}{k x:Nat}(hs:Small 10 a)(hk:a.length=k)(b:val 10 a=x)(d:10 ^ (k - 1)≤x)(g:0<k):Num 10 a x:=by
 refine⟨hs,?_,b⟩;right;intro c;obtain⟨j,rfl⟩:∃j,k=j+1:=⟨k - 1,by omega⟩;have e:=Qbu 10 a j (by omega);rw[hk,Nat.add_sub_cancel] at c;rw[c,Nat.mul_zero,Nat.add_zero,List.take_of_length_le (by omega),b] at e;have f:=Qaa (B:=10) (by decide) (hs.take j);rw[List.length_take,Nat.min_eq_left (by omega)] at f;rw[Nat.add_sub_cancel] at d;omega
open Go.RowKit
open Go.Proofs.Tryz
theorem U32.len_dec{w:Vz}{a:Vx}{c:Nat}{l:Vy}{n k:Nat}(h:U32 w a c l n)(b:n<10 ^ k):l.length<=4*k:=
 h.len_bits (Nat.lt_of_lt_of_le b (Qh7 k))
theorem Qis(c:UInt8)(a:48<=c.toNat)(b:c.toNat<=57):∃d:Nat,d<=9/\c.toNat - 48=d/\(c.toNat:Int)=48+d:=⟨c.toNat - 48,by omega,rfl,by omega⟩
theorem Qce(h:Nat)(s:Vs)(w:Vz)(hs:SB w h 122 zeroInt)(X:0<s.size)(Y:s.size<=1073741824)(H:AllDigits s.data.toList):
 Calls prog 66 #[.pointer (some ⟨h,0,none⟩),.string s,.int .i64 10] w fun e w'=>e=.returned (.tuple #[.pointer (some ⟨h,0,none⟩),.bool true])/\∃a cap l,Laid w w' h 0 122 zeroInt (decVal s.data.toList) a cap l:=by
 obtain⟨Q,R⟩:=Ia hs H;have I:=Qff H 0 X;have q1:((s[0].toNat:Int) == 45)=false:=by rw[beq_eq_false_iff_ne];omega
 have q2:((s[0].toNat:Int) == 43)=false:=by rw[beq_eq_false_iff_ne];omega
 have q3:((s.size:Int) == 0)=false:=by rw[beq_eq_false_iff_ne];omega
 clear hs H;go_enter func66,ntmps66;go_wp2;go_loopw [9,10] (fun r i wr=>∃(k:Nat) (a:Vx) (cap:Nat) (l:Vy),k<=s.size/\i=.int .i64 k/\r=.slice a l.length cap/\U32 wr a cap l (decVal (s.data.toList.take k))/\Bl w wr) (fun _ i _=>s.size - (intOf i).toNat)
 case atStart=>exact⟨0,none,0,[],by omega,rfl,rfl,⟨Row.nil _ _,by simpa [decVal] using Num.zero _,by simp⟩,Below.refl _ _⟩
 case round=>
  obtain⟨k,a,cap,l,hk,rfl,rfl,S,T⟩:=hrel;obtain⟨F,G⟩:=Ia S T;clear S T;by_cases j:k<s.size
  .
   have b:=Qff R.o k j;have Z:=Hi (Qfe s k j);obtain⟨d,aa,m,ab⟩:=Qis s[k] b.1 b.2;have J:=Hi m;have b0:(0:Int)<=(k:Int):=by omega
   have b1:(k:Int)<(s.size:Int):=by omega
   clear m;have ad:(48:Int)+(d:Int) - 48=d:=by omega
   have n:=Hi (Qa3 _ (R.o.take k));have U:l.length<=4294967296:=by
    have h1:=F.o.len_dec n.o;have h2:(s.data.toList.take k).length<=k:=by rw[List.length_take];omega
    omega
   clear b I;go_wp2_with fail;refine(Qbs 10 _ (by decide) (by decide)).mono ?_;rintro e w1 ⟨⟨a1,p,V,rfl,q,ae⟩,t⟩;obtain⟨u,c⟩:=Ia q t;clear q t;go_wp2_with fail;refine(Qhq a a1 cap p l V _ _ _ (F.o.below c.o) u.o (by omega)).mono ?_;rintro e w2 ⟨⟨a2,v,W,rfl,f⟩,x⟩;have af:W.length<=l.length+V.length+1:=F.o.len_of u.o f (.inl lZ);obtain⟨K,y⟩:=Ia f x;clear f x;go_wp2_with fail;refine(Qbs (d:Int) _ (by omega) (by omega)).mono ?_;rintro e w3 ⟨⟨a3,z,r3,rfl,A,ag⟩,B⟩;obtain⟨L,g⟩:=Ia A B;clear A B;go_wp2_with fail;refine(Qho a2 a3 v z W r3 _ _ _ (K.o.below g.o) L.o (by omega) (by omega)).mono ?_;rintro e w4 ⟨⟨a4,C,r4,rfl,D⟩,E⟩;obtain⟨M,N⟩:=Ia D E;clear D E;go_wp2;go_roundw
   case rel=>
    have s1:=G.o.size;have s2:=c.o.size;have s3:=y.o.size;have s4:=g.o.size;refine⟨k+1,a4,C,r4,by omega,by go_num,rfl,?_,(((G.o.trans (c.o.mono (by omega))).trans (y.o.mono (by omega))).trans (g.o.mono (by omega))).trans (N.o.mono (by omega))⟩;have e:decVal (s.data.toList.take (k+1))=decVal (s.data.toList.take k)*(10:Int).toNat+(d:Int).toNat:=by
     rw[Z.o,Qfd,J.o];simp;omega
    rw[e];exact M.o
   case measure=>simp[intOf];omega
  .
   have O:k=s.size:=by omega
   subst O;go_wp2_with fail;refine(Qby h 0 122 zeroInt false a cap l _ (decVal s.data.toList) _ (Q.o.below G.o Q.o.lt) Tryz.int_zero (by simp[zeroInt]) F.o ?_).mono ?_
   . rw[show s.data.toList.take s.size=s.data.toList from List.take_of_length_le (by simp)]
     simp
   rintro e w1 ⟨rfl,hl⟩;have HL:=Hi hl;clear hl;go_wp2;go_ret2;obtain⟨_,a',c',l',P⟩:=LaidOk.of (Only.of_below G.o) ⟨rfl,_,_,_,HL.o⟩;exact⟨rfl,a',c',l',P⟩
theorem Qnh(g n cap x:Nat)(rs:Vy)(w:Vz)(h:Blk .u32 201 w g rs)(hl:rs.length=n)(hs:Small 4294967296 rs)(i:n<=cap)(k:n<=1099511627776)(j:val 4294967296 rs=x):
 Calls prog 154 #[.slice (some ⟨g,0,none⟩) n cap] w fun e w'=>(∃r,e=.returned (.slice (some ⟨g,0,none⟩) r.length cap)/\U32 w (some ⟨g,0,none⟩) cap r x)/\w'=w:=by
 have b:=h.row n (by omega) cap i;rw[List.take_of_length_le (by omega)] at b;have f:=Qht (some ⟨g,0,none⟩) cap rs w b (by omega);rw[hl] at f;refine f.mono ?_;rintro e l ⟨⟨q,m,rfl,c,d⟩,rfl⟩;have a:(rs.take q).length=q:=by rw[List.length_take];omega
 exact⟨⟨rs.take q,by rw[a],b.take q (by omega),⟨hs.take q,d,c.trans j⟩,by rw[a];omega⟩,rfl⟩
theorem Qni(a:Vx)(cap d:Nat)(l:Vy)(x:Nat)(w:Vz)(h:U32 w a cap l x)(f:0<d)(hd:d<4294967296):
 Calls prog 175 #[.slice a l.length cap,.int .u32 d] w fun e w'=>(∃cap r,e=.returned (.tuple #[.slice (some ⟨w.heap.size,0,none⟩) r.length cap,.int .u32 (x % d:Nat)])/\U32 w' (some ⟨w.heap.size,0,none⟩) cap r (x / d))/\Bl w w':=by
 have s1:=h.short;have C:∀w,(Instr.makeSlice 120 (.int .i64 (l.length:Int)) (.int .i64 (l.length:Int))).run prog w=.ok (.slice (some ⟨w.heap.size,0,none⟩) l.length l.length) (w.alloc (.cells (wordCells .u32 (zeros l.length)) 201)):=
  fun w=>Qa6 _ l.length rfl (by omega) w
 go_enter func175,ntmps175;go_wp2;clear C;go_loopw [7,8] (fun r i wr=>∃(k c:Nat) (rs:Vy),k<=l.length/\c<d/\r=.int .u64 c/\i=.int .i64 ((k:Int) - 1)/\Blk .u32 201 wr w.heap.size rs/\rs.length=l.length/\Small 4294967296 rs/\
  val 4294967296 (rs.drop k)*d+c=val 4294967296 (l.drop k)/\Bl w wr) (fun _ i _=>(intOf i+1).toNat)
 case atStart=>exact⟨l.length,0,zeros l.length,Nat.le_refl _,f,rfl,rfl,Blk.new _ _ _ _,Qaf _,Qal _ _ (by omega),by rw[List.drop_of_length_le (by rw[Qaf];exact Nat.le_refl _),List.drop_of_length_le lZ];simp[val],bR.alloc lZ _⟩
 case round=>
  obtain⟨k,r,rs,hk,J,rfl,rfl,hB,m,v,K,D⟩:=hrel;have L:O (val 4294967296 (rs.drop k)*d+r=val 4294967296 (l.drop k)):=K;have n:O (rs.length=l.length):=m;have M:O (Blk .u32 201 wr w.heap.size rs):=hB;have y:O (Small 4294967296 rs):=v;clear K v;by_cases S:k=0
  .
   subst S;have A:=L.o;simp only[List.drop_zero,h.num.eq] at A;have p:val 4294967296 rs=x / d:=by
    rw[<-A,Nat.mul_comm,Nat.mul_add_div f,Nat.div_eq_of_lt J,Nat.add_zero]
   have N:x % d=r:=by
    rw[<-A,Nat.mul_comm,Nat.mul_add_mod,Nat.mod_eq_of_lt J]
   have T:O (x % d=r):=N;clear m hB A N;have U:O (val 4294967296 rs=x / d):=p;clear p;go_wp2_with fail;refine(Qnh w.heap.size l.length l.length (x / d) rs _ M.o n.o y.o lZ (by omega) U.o).mono ?_;rintro e w1 ⟨⟨r,rfl,V⟩,rfl⟩;go_wp2;go_ret2;exact⟨⟨_,r,by rw[T.o];rfl,V⟩,D⟩
  .
   obtain⟨j,rfl⟩:∃j,k=j+1:=⟨k - 1,by omega⟩;obtain⟨b,W,rfl,E,t⟩:=h.row.cell j (by omega);obtain⟨e,B⟩:=nm (l.getD j 0);have F:e<4294967296:=by rw[<-B];exact h.num.small.getD (by omega) j
   rw[B] at t;have P:=ce D E t;have X:O (l.getD j 0=e):=B;obtain⟨z,Q⟩:=nm (rs.getD j 0);have g1:=hB.free j;have Y:=hB.cell j (by omega);rw[Q] at Y;clear B t Q hB m;have R:((j+1:Nat):Int) - 1=(j:Int):=by omega
   rw[R];clear R;have Z:((d:Int) == 0)=false:=by rw[beq_eq_false_iff_ne];omega
   obtain⟨s,hs⟩:=nm (4294967296*r+e);have aa:bits .or .u64 ((r:Int)*4294967296) (e:Int)=(s:Int):=by
    rw[or64 ((r:Int)*4294967296) (e:Int) r e 32 (by omega) rfl F (by omega)];omega
   obtain⟨q,p⟩:=nm (s / d);obtain⟨c,g⟩:∃c,s % d=c:=⟨_,rfl⟩;have G:q<4294967296:=by
    rw[<-p,Nat.div_lt_iff_lt_mul f];have:=Nat.mul_le_mul_left 4294967296 (show r+1<=d by omega);omega
   have H:c<d:=by rw[<-g];exact Nat.mod_lt _ f
   have u:=Qhv 4294967296 j d e r rs l (by have:=n.o;omega) (by omega) X.o L.o;rw[hs,p,g] at u;have t1:(s:Int) / (d:Int)=(q:Int):=by rw[<-p];simp
   have t2:(s:Int) % (d:Int)=(c:Int):=by rw[<-g];simp
   have ab:s<18446744073709551616:=by omega
   have I:O (val 4294967296 ((rs.set j q).drop j)*d+c=val 4294967296 (l.drop j)):=u;clear p g u hs;go_wp2;go_roundw
   case rel=>exact⟨j,c,rs.set j q,by omega,H,by rw[t2],rfl,M.o.set j q,by rw[List.length_set];exact n.o,y.o.set j G,I.o,D.setCell lZ _⟩
   case measure=>simp[intOf]
theorem Row.grown{k:IntKind}{w w':Vz}{a:Vx}{cap:Nat}{l:Vy}{d:Option Nat}(h:Row k w a cap l)(f:w.grownBy w' d)(g:∀b c,a=some ⟨b,c,none⟩->some b≠d):Row k w' a cap l:=by
 refine⟨h.fit,?_,fun i m=>?_⟩
 .
  rcases h.shape with e|⟨b,c,rfl,j⟩
  . exact .inl e
  . exact .inr ⟨b,c,rfl,by have:=f.size;omega⟩
 . obtain⟨b,c,e,j,n⟩:=h.cell i m
   exact⟨b,c,e,by have:=f.size;omega,(World.cell?_of_block (w:=w) (a:=⟨b,c+i,none⟩) (f.block b j (g b c e))).trans n⟩
theorem U32.grown{w w':Vz}{a:Vx}{cap:Nat}{l:Vy}{n:Nat}{c:Option Nat}(h:U32 w a cap l n)(f:w.grownBy w' c)(d:∀b e,a=some ⟨b,e,none⟩->some b≠c):U32 w' a cap l n:=⟨h.row.grown f d,h.num,h.short⟩
theorem Qbl{w w':Vz}{a:Nat}{e:Vr}{b:Nat}{v:Value}{n:Nat}{xs:Vv}(h:w.ownsRow a e b v n xs)(j:Bl w w'):w'.ownsRow a e b v n xs:=by
 refine⟨h.1,?_⟩;rcases h.2 with c|⟨g,cap,d,c,k,f,l⟩
 . exact .inl c
 .
  refine .inr ⟨g,cap,d,c,k,?_,l⟩;have i:g<w.heap.size:=by
   apply bC;intro m;rw[Array.getElem?_eq_none (by omega)] at f;cases f
  rw[j.block g i];exact f
def byteV(d:Nat):Value:=.int .u8 (48+(d:Int))
def sliceLen:Value->Nat
 | .slice _ n _=>n
 |_=>0
theorem Qfu{w:Vz}{a:Nat}{e:Vr}{b:Nat}{v:Value}{n:Nat}{xs:Vv}(h:w.ownsRow a e b v n xs):sliceLen v=n:=by
 rcases h.2 with ⟨rfl,rfl⟩|⟨g,cap,c,rfl,_⟩<;>rfl
theorem Tryz.info8:(prog.info? 5).map (fun i=>(i.zero,i.size,i.bytes))=some (some (.int .u8 0),1,1):=by kernel_rfl
theorem Qpn{x k d:Nat}{a:Vy}(hk:a.length=k)(c:x / 10 ^ k % 10=d)(e:val 10 a+10 ^ k*(x / 10 ^ k)=x):val 10 (a++ [d])+10 ^ (k+1)*(x / 10 ^ (k+1))=x:=by
 rw[Qcz,hk,Qbt,Qcy,Nat.mul_zero,Nat.add_zero,Nat.pow_succ,<-Nat.div_div_eq_div_mul];have b:=Nat.div_add_mod (x / 10 ^ k) 10;rw[c] at b;have f:10 ^ k*10*(x / 10 ^ k / 10)+10 ^ k*d=10 ^ k*(x / 10 ^ k):=by
  conv=>rhs;rw[<-b]
  rw[Nat.mul_add,Nat.mul_assoc]
 omega
theorem Qpo{x k:Nat}(h:x / 10 ^ k≠0):10 ^ k<=x:=by
 apply bC;intro a;exact h (Nat.div_eq_of_lt (by omega))
theorem Qpp(k:Nat):k<10 ^ k:=Nat.lt_pow_self (by decide)
theorem Qiw{k K x:Nat}(h:10 ^ k<=x)(a:x<2 ^ K):k<K:=by
 have b:2 ^ k<=10 ^ k:=Nat.pow_le_pow_left (by decide) k;exact(Nat.pow_lt_pow_iff_right (by decide:1<2)).1 (Nat.lt_of_le_of_lt (Nat.le_trans b h) a)
def revAt(bs:Vy)(n m p:Nat):Nat:=if p<m∨n<=p+m then bs.getD (n - 1 - p) 0 else bs.getD p 0
theorem Qix{w:Vz}{a:Nat}{e:Vr}{v:Value}{n:Nat}{d:Vy}(h:w.ownsRow a e 1 v n (d.map fun b:Nat=>Value.int .u8 (b:Int)))(q:0<n):
 ∃g cap C,v=.slice (some ⟨g,0,none⟩) n cap/\a<=g/\n<=cap/\d.length=n/\SB w g e C/\∀p,p<n->C[p]?=some (.int .u8 ((d.getD p 0:Nat):Int)):=by
 obtain⟨hl,f⟩:=h;rw[List.length_map,Nat.mul_one] at hl;rcases f with ⟨_,f⟩|⟨g,cap,c,f,i,j,k,r,s,l⟩
 . omega
 .
  refine⟨g,cap,c,f,i,k,hl,j,fun p t=>?_⟩;have m:(c.toList.take (n*1))[p]?=c[p]?:=by
   rw[List.getElem?_take_of_lt (by omega)];simp
  rw[<-m,l,List.getElem?_map,List.getD_eq_getElem?_getD];obtain⟨u,o⟩:∃u,d[p]?=some u:=⟨d[p],by rw[gE]⟩;rw[o];rfl
theorem Qiy(a:Vy)(n p:Nat)(b:p<n):revAt a n 0 p=a.getD p 0:=by unfold revAt;rw[if_neg (by omega)]
theorem Qiz(a:Vy)(n m j:Nat)(h:m+j=n - 1)(b:m<j):revAt a n m m=a.getD m 0:=by unfold revAt;rw[if_neg (by omega)]
theorem Qi0(a:Vy)(n m j:Nat)(h:m+j=n - 1)(b:m<j):revAt a n m j=a.getD j 0:=by unfold revAt;rw[if_neg (by omega)]
theorem Qi1{C:Vw}(b:Vy)(n m j:Nat)(h:m+j=n - 1)(k:m<j)(hC:∀p,p<n->C[p]?=some (.int .u8 ((revAt b n m p:Nat):Int))):
 ∀p,p<n->((C.setIfInBounds m (.int .u8 ((b.getD j 0:Nat):Int))).setIfInBounds j (.int .u8 ((b.getD m 0:Nat):Int)))[p]?=some (.int .u8 ((revAt b n (m+1) p:Nat):Int)):=by
 intro p c;have a:∀p,p<n->p<C.size:=fun p c=>by
  have:=hC p c;apply bC;intro l;rw[Array.getElem?_eq_none (by omega)] at this;cases this
 have g:=a m (by omega);have i:=a j (by omega);rw[Array.getElem?_setIfInBounds];by_cases d:j=p
 .
  subst d;rw[if_pos rfl,if_pos (by simpa using i)];unfold revAt;rw[if_pos (by omega),show n - 1 - j=m by omega]
 .
  rw[if_neg d,Array.getElem?_setIfInBounds];by_cases e:m=p
  .
   subst e;rw[if_pos rfl,if_pos g];unfold revAt;rw[if_pos (by omega),show n - 1 - m=j by omega]
  .
   rw[if_neg e,hC p c];unfold revAt;by_cases f:p<m∨n<=p+m
   . rw[if_pos f,if_pos (by omega)]
   . rw[if_neg f,if_neg (by omega)]
theorem Qpq(a:Vy)(n m j p:Nat)(h:m+j=n - 1)(g:¬m<j)(d:a.length=n)(i:p<n):((revAt a n m p:Nat):Int)=(a.reverse.map (fun b:Nat=>(b:Int))).getD p 0:=by
 have e:revAt a n m p=a.getD (n - 1 - p) 0:=by
  unfold revAt;by_cases c:p<m∨n<=p+m
  . rw[if_pos c]
  . rw[if_neg c,show n - 1 - p=p by omega]
 rw[e,List.getD_eq_getElem?_getD,List.getD_eq_getElem?_getD,List.getElem?_map,List.getElem?_reverse (by omega),d];obtain⟨u,f⟩:∃u,a[n - 1 - p]?=some u:=⟨a[n - 1 - p]'(by omega),by rw[gE]⟩;rw[f];rfl
theorem Qpr(a:Vy):a.map byteV=(a.map (48+ ·)).map (fun b:Nat=>Value.int .u8 (b:Int)):=by
 rw[List.map_map];apply List.map_congr_left;intro d _
 show Value.int .u8 (48+(d:Int))=Value.int .u8 ((48+d:Nat):Int)
 rw[Int.natCast_add];rfl
theorem Qi2(a:Vy):(strOfNums ((a.map (48+ ·)).reverse.map (fun b:Nat=>(b:Int)))).data.toList=a.reverse.map (fun d=>UInt8.ofNat (48+d)):=by
 rw[strOfNums_data,<-List.map_reverse,List.map_map,List.map_map];apply List.map_congr_left;intro d _
 show UInt8.ofNat ((48+d:Nat):Int).toNat=_
 rw[Int.toNat_natCast]
theorem Qps(a:Vy):(strOfNums ((a.map (48+ ·)++ [45]).reverse.map (fun b:Nat=>(b:Int)))).data.toList=45 :: a.reverse.map (fun d=>UInt8.ofNat (48+d)):=by
 rw[<-Qi2,strOfNums_data,strOfNums_data,List.reverse_append];rfl
theorem Qi3(wr:Vz)(g n a m i:Nat)(d:Vy)(C:Vw)(e:SB wr g 5 C)(hC:∀p,p<n->C[p]?=some (.int .u8 ((revAt d n m p:Nat):Int)))(f:m+i=n - 1)(h:¬m<i)(c:d.length=n):
 (convert 212 9 (.slice (some ⟨g,0,none⟩) n a)).run prog wr=.ok (.string (strOfNums (d.reverse.map (fun b:Nat=>(b:Int))))) wr:=by
 refine run_convert_bytes_arg (P:=prog) wr 212 5 underlying212 underlying5 g 0 n a _ ?_ ?_ 9 underlying9
 . rw[List.length_map,List.length_reverse];exact c
 . intro p j
   rw[Nat.zero_add,e.cell,hC p j,Qpq _ _ _ _ _ f h c j]
theorem Qpt(b o K:Nat)(X:Int)(a:Vx)(cap:Nat)(l:Vy)(w:Vz)(hx:IntAt w b o X a cap l)(hX:X≠0)(hK:X.natAbs<2 ^ K)(bd:K<=1099511627776):
 Calls prog 144 #[.pointer (some ⟨b,o,none⟩),.int .i64 10] w fun e w'=>(∃s,e=.returned (.string s)/\IntText s.data.toList X)/\Bl w w':=by
 obtain⟨i0,hi,ai,aj,hz2⟩:=info_parts Tryz.info8;have k0:=hx.neg;have k1:=hx.abs;have r:=hx.lt;have q1:((l.length:Int) == 0)=false:=by
  rw[beq_eq_false_iff_ne];have:=(hx.num.num.len_zero (by decide)).2;omega
 have HX:=Hi hx.num;obtain⟨x,aa⟩:=nm X.natAbs;rw[aa] at HX hK;have be:x≠0:=by omega
 have ak:=Hi hK;clear hx hK;go_enter func144,ntmps144;go_wp2_with fail;refine(Qdw a cap l x _ HX.o).mono ?_;rintro e w1 ⟨⟨a1,al,rfl,am⟩,ab⟩;have c0:=ce ab r k0;obtain⟨aw,ax⟩:=Ia am ab;clear am ab;go_wp2_with fail;go_loopw [5,6] (fun bv av wr=>∃(k:Nat) (y:Vy) (a:Vx) (cap:Nat) (l:Vy),y.length=k/\av=.slice a l.length cap/\U32 wr a cap l (x / 10 ^ k)/\wr.ownsRow w.heap.size 5 1 bv k (y.map byteV)/\Small 10 y/\val 10 y+10 ^ k*(x / 10 ^ k)=x/\(k=0∨10 ^ (k - 1)<=x)/\Bl w wr) (fun bv _ _=>x+1 - sliceLen bv)
 case atStart=>exact⟨0,[],a1,al,l,rfl,rfl,by rw[Nat.pow_zero,Nat.div_one];exact aw.o,World.ownsRow_nil _ _ _ _,Small.nil _,by simp[val],.inl rfl,ax.o⟩
 case round=>
  obtain⟨k,y,a,cap,l,hk,rfl,hu,L,an,hv,Y,M⟩:=hrel;have ay:=Qfu L;obtain⟨HU,HB,HO,HV,ao,HP⟩:=Ie hu M L hv an Y;have bf:=M.size;clear hu M L hv an Y;by_cases hz:l.length=0
  .
   have G:x / 10 ^ k=0:=(HU.o.num.len_zero (by decide)).2 hz;have az:0<k:=by
    rcases Nat.eq_zero_or_pos k with h0|h0
    .
     subst h0;rw[Nat.pow_zero,Nat.div_one] at G;omega
    . exact h0
   have HN:O (Num 10 y x):=Hi (Qol ao.o hk (by have:=HV.o;rw[G,Nat.mul_zero,Nat.add_zero] at this;exact this) (by rcases HP.o with h|h;omega;exact h) az);have a0:k - 1<K:=by
    rcases HP.o with h|h
    . omega
    . exact Qiw h ak.o
   have d0:=ce HB.o r k0;have ap:=Hi (Qpr y);by_cases H:X<0
   .
    rw[show decide (X<0)=true by simpa using H] at d0;go_wp2_with (at_builtin;refine wpList_append_lies _ rfl _ _ 212 rfl w.heap.size 5 i0 (.int .u8 0) 1 1 underlying212 hi ai aj hz2 rfl (by decide) _ k (y.map byteV) rfl (Qbl HO.o (bR.alloc lZ _)) ⟨wr.heap.size,0,none⟩ 1 1 [Value.int .u8 45] rfl rfl ?c1 ?c2 (by decide) ?c3 ?c4 ?c5 _ rfl ?_)
    case c1=>exact World.news_of_block (heap_alloc_new wr _)
    case c2=>intro u hu;rw[List.mem_singleton.1 hu];rfl
    case c3=>unfold maxLen;omega
    case c4=>omega
    case c5=>rw[World.size_alloc];omega
    intro g I w3 c t aq Z;rw[ap.o,show [Value.int .u8 45]= [45].map (fun b:Nat=>Value.int .u8 (b:Int)) from rfl,<-List.map_append] at c;obtain⟨E,ad⟩:=Ia (Qix c (by omega)) (Below.grown (HB.o.alloc (by omega) (Obj.cells #[Value.int IntKind.u8 45] 5)) t (by rw[World.size_alloc];omega) (fun q hq=>(HO.o.lt q hq).1));have v:O (IntText (strOfNums ((y.map (48+ ·)++ [45]).reverse.map (fun b:Nat=>(b:Int)))).data.toList X):=Hi ⟨y.reverse.map (fun d=>UInt8.ofNat (48+d)),.inr ⟨by omega,y,by rw[aa];exact HN.o,rfl⟩,by rw[if_pos H];exact Qps y⟩;clear c t aq Z G c0 k0 k1;obtain⟨J,N⟩:=nm ((y.map (48+ ·)++ [45]));rw[N] at E v;clear N;obtain⟨g,I,C,hv,P,a2,Q,f,hC⟩:=E.o;cases hv;obtain⟨ae,af,HC⟩:=Ib Q f hC;clear f hC Q E;go_wp2_with fail
    go_loopw [8,9] (fun i j wr=>∃(m n:Nat) (C:Vw),i=.int .i64 m/\j=.int .i64 n/\m+n=(k+1) - 1/\SB wr g 5 C/\(∀p,p<(k+1)->C[p]?=some (.int .u8 ((revAt J (k+1) m p:Nat):Int)))/\Bl w wr) (fun i _ _=>(k+1) - (intOf i).toNat)
    case atStart=>exact⟨0,(k+1) - 1,C,rfl,by go_num,by omega,af.o,fun p Y=>by rw[Qiy _ _ _ Y];exact HC.o p Y,ad.o⟩
    case round=>
     obtain⟨m,n,C',rfl,rfl,z,f,hC,M⟩:=hrel;have D:=Hi f;have R:=Hi hC;have S:=Hi M;by_cases r:m<n
     .
      have A:=hC m (by omega);have B:=hC n (by omega);rw[Qiz _ _ _ _ z r] at A;rw[Qi0 _ _ _ _ z r] at B;have F:=Hi (Qi1 J (k+1) m n z r R.o);obtain⟨y1,T⟩:=nm (J.getD m 0);obtain⟨y2,U⟩:=nm (J.getD n 0);rw[T] at A F;rw[U] at B F;have d1:=(f.cell m).trans A;have d2:=(f.cell n).trans B;have f1:=f.free m;have f2:=f.free n;have a3:m≠n:=by omega
      clear f hC M A B T U;go_wp2;go_roundw
      case rel=>exact⟨m+1,n - 1,_,by go_num,by go_num,by omega,(D.o.set m _).set n _,F.o,(S.o.setCell P _).setCell P _⟩
      case measure=>simp[intOf];omega
     .
      have ag:=Qi3 wr g (k+1) I m n J C' D.o R.o z r ae.o;obtain⟨st,V⟩:=nm (strOfNums (J.reverse.map (fun b:Nat=>(b:Int))));rw[V] at ag v;clear f hC M V;go_wp2;go_ret;exact⟨⟨_,rfl,v.o⟩,S.o⟩
   .
    rw[show decide (X<0)=false by simpa using H] at d0;have c:=HO.o;rw[ap.o] at c;obtain⟨E,ad⟩:=Ia (Qix c (by omega)) HB.o;have v:O (IntText (strOfNums ((y.map (48+ ·)).reverse.map (fun b:Nat=>(b:Int)))).data.toList X):=Hi ⟨y.reverse.map (fun d=>UInt8.ofNat (48+d)),.inr ⟨by omega,y,by rw[aa];exact HN.o,rfl⟩,by rw[if_neg H];exact Qi2 y⟩;clear c G c0 k0 k1;obtain⟨J,N⟩:=nm ((y.map (48+ ·)));rw[N] at E v;clear N;obtain⟨g,I,C,hv,P,a2,Q,f,hC⟩:=E.o;cases hv;obtain⟨ae,af,HC⟩:=Ib Q f hC;clear f hC Q E;go_wp2_with fail;go_loopw [8,9] (fun i j wr=>∃(m n:Nat) (C:Vw),i=.int .i64 m/\j=.int .i64 n/\m+n=k - 1/\SB wr g 5 C/\(∀p,p<k->C[p]?=some (.int .u8 ((revAt J k m p:Nat):Int)))/\Bl w wr) (fun i _ _=>k - (intOf i).toNat)
    case atStart=>exact⟨0,k - 1,C,rfl,by go_num,by omega,af.o,fun p Y=>by rw[Qiy _ _ _ Y];exact HC.o p Y,ad.o⟩
    case round=>
     obtain⟨m,n,C',rfl,rfl,z,f,hC,M⟩:=hrel;have D:=Hi f;have R:=Hi hC;have S:=Hi M;by_cases r:m<n
     .
      have A:=hC m (by omega);have B:=hC n (by omega);rw[Qiz _ _ _ _ z r] at A;rw[Qi0 _ _ _ _ z r] at B;have F:=Hi (Qi1 J k m n z r R.o);obtain⟨y1,T⟩:=nm (J.getD m 0);obtain⟨y2,U⟩:=nm (J.getD n 0);rw[T] at A F;rw[U] at B F;have d1:=(f.cell m).trans A;have d2:=(f.cell n).trans B;have f1:=f.free m;have f2:=f.free n;have a3:m≠n:=by omega
      clear f hC M A B T U;go_wp2;go_roundw
      case rel=>exact⟨m+1,n - 1,_,by go_num,by go_num,by omega,(D.o.set m _).set n _,F.o,(S.o.setCell P _).setCell P _⟩
      case measure=>simp[intOf];omega
     .
      have ag:=Qi3 wr g k I m n J C' D.o R.o z r ae.o;obtain⟨st,V⟩:=nm (strOfNums (J.reverse.map (fun b:Nat=>(b:Int))));rw[V] at ag v;clear f hC M V;go_wp2;go_ret;exact⟨⟨_,rfl,v.o⟩,S.o⟩
  .
   have ah:=Hi (Qpo (fun h0=>hz ((HU.o.num.len_zero (by decide)).1 h0)));have a0:k<K:=Qiw ah.o ak.o;have bg:k<x:=Nat.lt_of_lt_of_le (Qpp k) ah.o;go_wp2_with fail;refine(Qni a cap 10 l (x / 10 ^ k) _ HU.o (by decide) (by decide)).mono ?_;rintro e w2 ⟨⟨bb,r2,rfl,ar⟩,W⟩;have a4:=Hi (Qbl HO.o W);have a5:∀q,u5.ownBlock=some q->q<wr.heap.size:=fun q hq=>(HO.o.lt q hq).2
   obtain⟨a6,a7⟩:=Ia ar W;have bc:=W.size;clear ar W;obtain⟨d,hd⟩:=nm (x / 10 ^ k % 10);have a8:d<10:=by omega
   rw[hd];have HD:=Hi hd;clear hd;go_wp2_with (at_builtin;refine wpList_append_lies _ rfl _ _ 212 rfl w.heap.size 5 i0 (.int .u8 0) 1 1 underlying212 hi ai aj hz2 rfl (by decide) _ k (y.map byteV) rfl (Qbl a4.o (bR.alloc lZ _)) ⟨w2.heap.size,0,none⟩ 1 1 [byteV d] rfl rfl ?c1 ?c2 (by decide) ?c3 ?c4 ?c5 _ rfl ?_)
   case c1=>exact World.news_of_block (heap_alloc_new w2 _)
   case c2=>intro u hu;rw[List.mem_singleton.1 hu];rfl
   case c3=>unfold maxLen;omega
   case c4=>omega
   case c5=>rw[World.size_alloc];omega
   intro g cap' w3 c t aq Z;obtain⟨a9,HG⟩:=Ia c t;clear c t;go_wp2;go_roundw
   case rel=>
    refine⟨k+1,y++ [d],_,_,r2,by simp[hk],rfl,?_,?_,ao.o.append (fun e he=>by rw[List.mem_singleton.1 he];exact a8),Qpn hk HD.o HV.o,.inr (by rw[Nat.add_sub_cancel];exact ah.o),?_⟩
    .
     have ba:=a6.o.below ((Below.refl _ w2).alloc lZ (Obj.cells #[Value.int IntKind.u8 (48+(d:Int))] 5));rw[Nat.pow_succ,<-Nat.div_div_eq_div_mul];refine ba.grown HG.o ?_;intro b' au he hc;obtain⟨rfl,rfl⟩:wr.heap.size=b'/\0=au:=by simpa using he
     have:=a5 _ hc.symm;omega
    . rw[List.map_append]
      exact a9.o
    .
     refine Below.grown ((HB.o.trans (a7.o.mono (by omega))).alloc (by omega) _) HG.o (by rw[World.size_alloc];omega) ?_;intro q hq;exact(HO.o.lt q hq).1
   case measure=>rw[ay];simp[sliceLen];omega
theorem Qua(b o:Nat)(a:Vx)(cap:Nat)(l:Vy)(w:Vz)(c:IntAt w b o 0 a cap l):
 Calls prog 144 #[.pointer (some ⟨b,o,none⟩),.int .i64 10] w fun e w'=>(∃s,e=.returned (.string s)/\IntText s.data.toList 0)/\Bl w w':=by
 have d:=c.abs;have f:((l.length:Int) == 0)=true:=by
  have:=(c.num.num.len_zero (by decide)).1 rfl;simp[this]
 clear c;go_enter func144,ntmps144;go_wp2;go_ret;exact⟨⟨_,rfl,[48],.inl ⟨rfl,rfl⟩,rfl⟩,Below.refl _ _⟩
theorem Qgx(b o K:Nat)(X:Int)(a:Vx)(cap:Nat)(l:Vy)(w:Vz)(c:IntAt w b o X a cap l)(f:X.natAbs<2 ^ K)(d:K<=1099511627776):
 Calls prog 97 #[.pointer (some ⟨b,o,none⟩)] w fun e w'=>(∃s,e=.returned (.string s)/\IntText s.data.toList X)/\Bl w w':=by
 have g:O (Calls prog 144 #[.pointer (some ⟨b,o,none⟩),.int .i64 10] w fun e w'=>(∃s,e=.returned (.string s)/\IntText s.data.toList X)/\Bl w w'):=by
  by_cases h:X=0
  . subst h;exact Hi (Qua b o a cap l w c)
  . exact Hi (Qpt b o K X a cap l w c h f d)
 clear c f;go_enter func97,ntmps97;go_wp2_with fail;refine g.o.mono ?_;rintro e m ⟨⟨s,rfl,hs⟩,i⟩;obtain⟨j,k⟩:=Ia hs i;clear hs i g;go_wp2;go_ret;exact⟨⟨s,rfl,j.o⟩,k.o⟩
def QText(l:Vu)(q:Rat):Prop:=∃m,IntText m q.num/\((q.den=1/\l=m)∨(q.den≠1/\∃d,IsDec d q.den/\l=m++47 :: d))
theorem QText.inj{l m:Vu}{q:Rat}(h:QText l q)(k:QText m q):l=m:=by
 obtain⟨a,g,h⟩:=h;obtain⟨b,i,k⟩:=k;have:=g.inj i;subst this;rcases h with ⟨f,rfl⟩|⟨f,d,j,rfl⟩
 .
  rcases k with ⟨c,rfl⟩|⟨c,_⟩
  . rfl
  . exact absurd f c
 .
  rcases k with ⟨c,rfl⟩|⟨c,e,n,rfl⟩
  . exact absurd c f
  . rw[j.inj n]
theorem IntText.dec{l:Vu}{n:Nat}(h:IntText l (n:Int)):IsDec l n:=by
 obtain⟨m,b,a⟩:=h;rw[if_neg (by omega)] at a;subst a;exact b
theorem IsDec.len{l:Vu}{n K:Nat}(h:IsDec l n)(a:n<2 ^ K):l.length<=K+1:=by
 rcases h with ⟨_,rfl⟩|⟨_,c,b,rfl⟩
 . simp
 . have:=b.length_le_of_lt (k:=K) (by decide) (Nat.lt_of_lt_of_le a (Nat.pow_le_pow_left (by decide) K))
   simp;omega
theorem IntText.len{s:Vs}{X:Int}{K:Nat}(h:IntText s.data.toList X)(a:X.natAbs<2 ^ K):s.size<=K+2:=by
 obtain⟨m,b,c⟩:=h;have d:=b.len a;have e:s.data.toList.length<=m.length+1:=by rw[c];split<;>simp
 have f:s.data.toList.length=s.size:=by simp
 omega
theorem ref_T(b K:Nat)(q:Rat)(w:Vz)(z:RatVal w b q)(A:Fits q K)(g:K<=1099511627776):
 Calls prog 55 #[.pointer (some ⟨b,0,none⟩)] w fun e w'=>(∃s,e=.returned (.string s)/\QText s.data.toList q)/\Bl w w':=by
 obtain⟨i,j⟩:=Ia z A;clear z A;by_cases n:q.den=1
 .
  go_enter func55,ntmps55;go_wp2_with fail;refine(Qku b q _ i.o).mono ?_;rw[show decide (q.den=1)=true by simpa using n];rintro e E ⟨rfl,c⟩;have a:=Hi c;clear c;go_wp2_with fail;refine(Qks b _).mono ?_;rintro e p ⟨rfl,r⟩;subst r;go_wp2_with fail;obtain⟨D,t,c1,u,F,c2,G,h,_⟩:=i.o.below a.o;refine(Qgx b 0 K q.num t c1 u _ h.upper j.o.1 g).mono ?_;clear h;rintro e p ⟨⟨s,rfl,hs⟩,d⟩;obtain⟨v,f⟩:=Ia hs d;clear hs d;go_wp2;go_ret;exact⟨⟨s,rfl,s.data.toList,v.o,.inl ⟨n,rfl⟩⟩,a.o.trans (f.o.mono a.o.size)⟩
 .
  go_enter func55,ntmps55;go_wp2_with fail;refine(Qku b q _ i.o).mono ?_;rw[show decide (q.den=1)=false by simpa using n];rintro e E ⟨rfl,c⟩;have a:=Hi c;clear c;go_wp2_with fail;refine(Qks b _).mono ?_;rintro e p ⟨rfl,r⟩;subst r;go_wp2_with fail;obtain⟨D,t,c1,u,F,c2,G,h,_⟩:=i.o.below a.o;refine(Qgx b 0 K q.num t c1 u _ h.upper j.o.1 g).mono ?_;clear h;rintro e p ⟨⟨s,rfl,hs⟩,d⟩;obtain⟨v,f⟩:=Ia hs d;have H:=hs.len j.o.1;clear hs d;go_wp2_with fail;refine(Qts b q _ ((i.o.below a.o).below f.o)).mono ?_;rintro e O ⟨⟨I,J,cap',L,rfl,B⟩,k⟩;obtain⟨M,l⟩:=Ia B k;clear B k;go_wp2_with fail;refine(Qgx I 0 K q.den J cap' L _ M.o (by rw[Int.natAbs_natCast];exact j.o.2) g).mono ?_;rintro e P ⟨⟨N,rfl,hs⟩,m⟩;have x:=Hi hs;have C:=hs.len (K:=K) (by rw[Int.natAbs_natCast];exact j.o.2)
  have y:=Hi m;clear hs m;go_wp2;go_ret;have Q:=a.o.size;have R:=f.o.size;have S:=l.o.size;refine⟨⟨_,rfl,s.data.toList,v.o,.inr ⟨n,N.data.toList,x.o.dec,?_⟩⟩,((a.o.trans (f.o.mono (by omega))).trans (l.o.mono (by omega))).trans (y.o.mono (by omega))⟩;simp[ByteArray.data_append]
open Go
def IsDig(l:Vu):Prop:=l≠ []/\AllDigits l
def QForm(t:Vu):Prop:=IsDig (Lib.cut t [47]).1/\((Lib.cut t [47]).2.2=true->IsDig (Lib.cut t [47]).2.1/\decVal (Lib.cut t [47]).2.1≠0)
def IsQ(t:Vu)(v:Rat):Prop:=(QForm t/\v=mkRat (decVal (Lib.cut t [47]).1:Nat) (if (Lib.cut t [47]).2.2=true then decVal (Lib.cut t [47]).2.1 else 1))∨(¬QForm t/\v=0)
def QOf(l:Vu)(q:Rat):Prop:=∃v,IsQ (Lib.trimPrefix l [45]) v/\q=if Lib.hasPrefix l [45]=true then -v else v
theorem IsQ.inj{t:Vu}{u v:Rat}(h:IsQ t u)(k:IsQ t v):u=v:=by
 rcases h with ⟨a,rfl⟩|⟨a,rfl⟩<;>rcases k with ⟨b,rfl⟩|⟨b,rfl⟩
 . rfl
 . exact absurd a b
 . exact absurd b a
 . rfl
theorem QOf.inj{t:Vu}{u v:Rat}(h:QOf t u)(k:QOf t v):u=v:=by
 obtain⟨a,c,rfl⟩:=h;obtain⟨b,d,rfl⟩:=k;rw[c.inj d]
theorem IsQ.ex(t:Vu):∃v,IsQ t v:=by
 by_cases h:QForm t
 . exact⟨_,.inl ⟨h,rfl⟩⟩
 . exact⟨_,.inr ⟨h,rfl⟩⟩
theorem QOf.ex(t:Vu):∃v,QOf t v:=by
 obtain⟨v,a⟩:=IsQ.ex (Lib.trimPrefix t [45]);exact⟨_,v,a,rfl⟩
theorem Fits.mono{q:Rat}{j k:Nat}(h:Fits q j)(hk:j<=k):Fits q k:=
 have:=Nat.pow_le_pow_right (by decide:0<2) hk
 ⟨Nat.lt_of_lt_of_le h.1 this,Nat.lt_of_lt_of_le h.2 this⟩
theorem Fits.zero:Fits 0 1:=⟨by decide,by decide⟩
theorem Fits.mk{a:Int}{b k:Nat}(d:a.natAbs<2 ^ k)(e:b<2 ^ k)(hk:0<k):Fits (mkRat a b) k:=by
 by_cases c:b=0
 .
  subst c;rw[Rat.mkRat_zero];exact Fits.zero.mono hk
 constructor
 .
  rw[Rat.num_mkRat,if_neg c];refine Nat.lt_of_le_of_lt ?_ d;exact Int.natAbs_ediv_le_natAbs _ _
 . rw[Rat.den_mkRat,if_neg c]
   exact Nat.lt_of_le_of_lt (Nat.div_le_self _ _) e
theorem Fits.neg{q:Rat}{k:Nat}(h:Fits q k):Fits (-q) k:=by
 constructor
 . rw[Rat.neg_num,Int.natAbs_neg];exact h.1
 . rw[Rat.neg_den];exact h.2
theorem Qko(t:Vu):(Lib.cut t [47]).1.length<=t.length:=by
 unfold Lib.cut
 split
 . simp;omega
 . simp
theorem Qkp(t:Vu):(Lib.cut t [47]).2.1.length<=t.length:=by
 unfold Lib.cut
 split
 . simp
 . simp
theorem Qeh{l:Vu}{n:Nat}(h:AllDigits l)(hl:l.length<=n):decVal l<2 ^ (4*n):=
 Nat.lt_of_lt_of_le (Qa3 l h) (Nat.le_trans (Nat.pow_le_pow_right (by decide) hl) (Qh7 n))
theorem IsQ.fits{t:Vu}{v:Rat}{n:Nat}(h:IsQ t v)(a:t.length<=n):Fits v (4*n+1):=by
 rcases h with ⟨h,rfl⟩|⟨_,rfl⟩
 .
  have e:(2:Nat) ^ (4*n)<=2 ^ (4*n+1):=Nat.pow_le_pow_right (by decide) (by omega);have c:=Qeh h.1.2 (Nat.le_trans (Qko t) a);refine Fits.mk ?_ ?_ (by omega)
  . rw[Int.natAbs_natCast];omega
  .
   split
   .
    rename_i b;have:=Qeh (h.2 b).1.2 (Nat.le_trans (Qkp t) a);omega
   . exact Nat.one_lt_two_pow (by omega)
 . exact Fits.zero.mono (by omega)
theorem Qei(l p:Vu):(Lib.trimPrefix l p).length<=l.length:=by
 unfold Lib.trimPrefix
 split
 . simp
 . simp
theorem QOf.fits{t:Vu}{q:Rat}{n:Nat}(h:QOf t q)(a:t.length<=n):Fits q (4*n+1):=by
 obtain⟨v,b,rfl⟩:=h;have:=b.fits (Nat.le_trans (Qei t [45]) a)
 split
 . exact this.neg
 . exact this
end Go.Proofs.YtppkmifkpjkgpaaGreatDoor
namespace Go.Proofs
open Go.Shelf
def Tryz.lays99_ren:Go.Shelf.Ren:=⟨fun|99=>62|206=>102|n=>n,fun|9=>9|4=>4|3=>3|n=>n,fun|n=>n⟩
theorem Tryz.lays99:Go.Proofs.Lays.n99 Tryz.prog Tryz.lays99_ren:={
 mixed:=by kernel_rfl
 f99:=Tryz.func62.trans (congrArg some (by kernel_rfl))
 f206:=Tryz.func102.trans (congrArg some (by kernel_rfl))
 t3:=Tryz.underlying3
 a3:=Tryz.isAgg3
 z3:=Tryz.sizeOf3
 v3:=Tryz.zeroValue3
 t4:=Tryz.underlying4
 a4:=Tryz.isAgg4
 z4:=Tryz.sizeOf4
 v4:=Tryz.zeroValue4
 t9:=Tryz.underlying9
 a9:=Tryz.isAgg9
 z9:=Tryz.sizeOf9
 v9:=Tryz.zeroValue9 }
def Tryz.lays147_ren:Go.Shelf.Ren:=⟨fun|147=>63|221=>103|268=>147|138=>148|143=>149|195=>178|197=>151|218=>179|219=>180|260=>181|217=>205|225=>206|224=>207|267=>208|266=>227|314=>228|n=>n,fun|9=>9|3=>3|31=>116|4=>4|0=>0|105=>198|21=>21|5=>5|46=>202|119=>246|139=>249|138=>248|146=>266|51=>201|n=>n,fun|1=>4|3=>5|4=>6|n=>n⟩
theorem Tryz.lays147:Go.Proofs.Lays.n147 Tryz.prog Tryz.lays147_ren:={
 mixed:=by kernel_rfl
 f138:=Tryz.func148.trans (congrArg some (by kernel_rfl))
 f143:=Tryz.func149.trans (congrArg some (by kernel_rfl))
 f147:=Tryz.func63.trans (congrArg some (by kernel_rfl))
 f195:=Tryz.func178.trans (congrArg some (by kernel_rfl))
 f197:=Tryz.func151.trans (congrArg some (by kernel_rfl))
 f217:=Tryz.func205.trans (congrArg some (by kernel_rfl))
 f218:=Tryz.func179.trans (congrArg some (by kernel_rfl))
 f219:=Tryz.func180.trans (congrArg some (by kernel_rfl))
 f221:=Tryz.func103.trans (congrArg some (by kernel_rfl))
 f224:=Tryz.func207.trans (congrArg some (by kernel_rfl))
 f225:=Tryz.func206.trans (congrArg some (by kernel_rfl))
 f260:=Tryz.func181.trans (congrArg some (by kernel_rfl))
 f266:=Tryz.func227.trans (congrArg some (by kernel_rfl))
 f267:=Tryz.func208.trans (congrArg some (by kernel_rfl))
 f268:=Tryz.func147.trans (congrArg some (by kernel_rfl))
 f314:=Tryz.func228.trans (congrArg some (by kernel_rfl))
 t0:=Tryz.underlying0
 a0:=Tryz.isAgg0
 z0:=Tryz.sizeOf0
 v0:=Tryz.zeroValue0
 t3:=Tryz.underlying3
 a3:=Tryz.isAgg3
 z3:=Tryz.sizeOf3
 v3:=Tryz.zeroValue3
 t4:=Tryz.underlying4
 a4:=Tryz.isAgg4
 z4:=Tryz.sizeOf4
 v4:=Tryz.zeroValue4
 t5:=Tryz.underlying5
 a5:=Tryz.isAgg5
 z5:=Tryz.sizeOf5
 v5:=Tryz.zeroValue5
 t9:=Tryz.underlying9
 a9:=Tryz.isAgg9
 z9:=Tryz.sizeOf9
 v9:=Tryz.zeroValue9
 t21:=Tryz.underlying21
 a21:=Tryz.isAgg21
 z21:=Tryz.sizeOf21
 v21:=Tryz.zeroValue21
 t31:=Tryz.underlying116
 a31:=Tryz.isAgg116
 z31:=Tryz.sizeOf116
 v31:=Tryz.zeroValue116
 t46:=Tryz.underlying202
 a46:=Tryz.isAgg202
 z46:=Tryz.sizeOf202
 v46:=Tryz.zeroValue202
 t51:=Tryz.underlying201
 a51:=Tryz.isAgg201
 z51:=Tryz.sizeOf201
 v51:=Tryz.zeroValue201
 t105:=Tryz.underlying198
 a105:=Tryz.isAgg198
 z105:=Tryz.sizeOf198
 v105:=Tryz.zeroValue198
 t119:=Tryz.underlying246
 a119:=Tryz.isAgg246
 z119:=Tryz.sizeOf246
 t138:=Tryz.underlying248
 a138:=Tryz.isAgg248
 z138:=Tryz.sizeOf248
 v138:=Tryz.zeroValue248
 t139:=Tryz.underlying249
 a139:=Tryz.isAgg249
 z139:=Tryz.sizeOf249
 v139:=Tryz.zeroValue249
 t146:=Tryz.underlying266
 a146:=Tryz.isAgg266
 z146:=Tryz.sizeOf266
 v146:=Tryz.zeroValue266
 g1:=by kernel_rfl
 g3:=by kernel_rfl
 g4:=by kernel_rfl }
def Tryz.lays160_ren:Go.Shelf.Ren:=⟨fun|160=>65|232=>105|231=>104|227=>106|234=>108|233=>107|236=>110|235=>109|228=>150|271=>153|151=>152|197=>151|120=>183|152=>182|260=>181|137=>209|119=>210|224=>207|225=>206|217=>205|266=>227|n=>n,fun|9=>9|4=>4|3=>3|5=>5|117=>164|116=>163|0=>0|124=>167|21=>21|105=>198|46=>202|119=>246|139=>249|138=>248|n=>n,fun|3=>5|4=>6|n=>n⟩
theorem Tryz.lays160:Go.Proofs.Lays.n160 Tryz.prog Tryz.lays160_ren:={
 mixed:=by kernel_rfl
 f119:=Tryz.func210.trans (congrArg some (by kernel_rfl))
 f120:=Tryz.func183.trans (congrArg some (by kernel_rfl))
 f137:=Tryz.func209.trans (congrArg some (by kernel_rfl))
 f151:=Tryz.func152.trans (congrArg some (by kernel_rfl))
 f152:=Tryz.func182.trans (congrArg some (by kernel_rfl))
 f160:=Tryz.func65.trans (congrArg some (by kernel_rfl))
 f197:=Tryz.func151.trans (congrArg some (by kernel_rfl))
 f217:=Tryz.func205.trans (congrArg some (by kernel_rfl))
 f224:=Tryz.func207.trans (congrArg some (by kernel_rfl))
 f225:=Tryz.func206.trans (congrArg some (by kernel_rfl))
 f227:=Tryz.func106.trans (congrArg some (by kernel_rfl))
 f228:=Tryz.func150.trans (congrArg some (by kernel_rfl))
 f231:=Tryz.func104.trans (congrArg some (by kernel_rfl))
 f232:=Tryz.func105.trans (congrArg some (by kernel_rfl))
 f233:=Tryz.func107.trans (congrArg some (by kernel_rfl))
 f234:=Tryz.func108.trans (congrArg some (by kernel_rfl))
 f235:=Tryz.func109.trans (congrArg some (by kernel_rfl))
 f236:=Tryz.func110.trans (congrArg some (by kernel_rfl))
 f260:=Tryz.func181.trans (congrArg some (by kernel_rfl))
 f266:=Tryz.func227.trans (congrArg some (by kernel_rfl))
 f271:=Tryz.func153.trans (congrArg some (by kernel_rfl))
 t0:=Tryz.underlying0
 a0:=Tryz.isAgg0
 z0:=Tryz.sizeOf0
 v0:=Tryz.zeroValue0
 t3:=Tryz.underlying3
 a3:=Tryz.isAgg3
 z3:=Tryz.sizeOf3
 v3:=Tryz.zeroValue3
 t4:=Tryz.underlying4
 a4:=Tryz.isAgg4
 z4:=Tryz.sizeOf4
 v4:=Tryz.zeroValue4
 t5:=Tryz.underlying5
 a5:=Tryz.isAgg5
 z5:=Tryz.sizeOf5
 v5:=Tryz.zeroValue5
 t9:=Tryz.underlying9
 a9:=Tryz.isAgg9
 z9:=Tryz.sizeOf9
 v9:=Tryz.zeroValue9
 t21:=Tryz.underlying21
 a21:=Tryz.isAgg21
 z21:=Tryz.sizeOf21
 v21:=Tryz.zeroValue21
 t46:=Tryz.underlying202
 a46:=Tryz.isAgg202
 z46:=Tryz.sizeOf202
 v46:=Tryz.zeroValue202
 t105:=Tryz.underlying198
 a105:=Tryz.isAgg198
 z105:=Tryz.sizeOf198
 v105:=Tryz.zeroValue198
 t116:=Tryz.underlying163
 a116:=Tryz.isAgg163
 z116:=Tryz.sizeOf163
 t117:=Tryz.underlying164
 a117:=Tryz.isAgg164
 z117:=Tryz.sizeOf164
 v117:=Tryz.zeroValue164
 t119:=Tryz.underlying246
 a119:=Tryz.isAgg246
 z119:=Tryz.sizeOf246
 t124:=Tryz.underlying167
 a124:=Tryz.isAgg167
 z124:=Tryz.sizeOf167
 v124:=Tryz.zeroValue167
 t138:=Tryz.underlying248
 a138:=Tryz.isAgg248
 z138:=Tryz.sizeOf248
 v138:=Tryz.zeroValue248
 t139:=Tryz.underlying249
 a139:=Tryz.isAgg249
 z139:=Tryz.sizeOf249
 v139:=Tryz.zeroValue249
 g3:=by kernel_rfl
 g4:=by kernel_rfl }
def Tryz.lays161_ren:Go.Shelf.Ren:=⟨fun|161=>165|231=>104|227=>106|233=>107|235=>109|228=>150|197=>151|151=>152|260=>181|152=>182|137=>209|119=>210|224=>207|225=>206|217=>205|266=>227|n=>n,fun|9=>9|4=>4|3=>3|5=>5|117=>164|116=>163|0=>0|124=>167|105=>198|21=>21|119=>246|46=>202|139=>249|138=>248|n=>n,fun|3=>5|4=>6|n=>n⟩
theorem Tryz.lays161:Go.Proofs.Lays.n161 Tryz.prog Tryz.lays161_ren:={
 mixed:=by kernel_rfl
 f119:=Tryz.func210.trans (congrArg some (by kernel_rfl))
 f137:=Tryz.func209.trans (congrArg some (by kernel_rfl))
 f151:=Tryz.func152.trans (congrArg some (by kernel_rfl))
 f152:=Tryz.func182.trans (congrArg some (by kernel_rfl))
 f161:=Tryz.func165.trans (congrArg some (by kernel_rfl))
 f197:=Tryz.func151.trans (congrArg some (by kernel_rfl))
 f217:=Tryz.func205.trans (congrArg some (by kernel_rfl))
 f224:=Tryz.func207.trans (congrArg some (by kernel_rfl))
 f225:=Tryz.func206.trans (congrArg some (by kernel_rfl))
 f227:=Tryz.func106.trans (congrArg some (by kernel_rfl))
 f228:=Tryz.func150.trans (congrArg some (by kernel_rfl))
 f231:=Tryz.func104.trans (congrArg some (by kernel_rfl))
 f233:=Tryz.func107.trans (congrArg some (by kernel_rfl))
 f235:=Tryz.func109.trans (congrArg some (by kernel_rfl))
 f260:=Tryz.func181.trans (congrArg some (by kernel_rfl))
 f266:=Tryz.func227.trans (congrArg some (by kernel_rfl))
 t0:=Tryz.underlying0
 a0:=Tryz.isAgg0
 z0:=Tryz.sizeOf0
 v0:=Tryz.zeroValue0
 t3:=Tryz.underlying3
 a3:=Tryz.isAgg3
 z3:=Tryz.sizeOf3
 v3:=Tryz.zeroValue3
 t4:=Tryz.underlying4
 a4:=Tryz.isAgg4
 z4:=Tryz.sizeOf4
 v4:=Tryz.zeroValue4
 t5:=Tryz.underlying5
 a5:=Tryz.isAgg5
 z5:=Tryz.sizeOf5
 v5:=Tryz.zeroValue5
 t9:=Tryz.underlying9
 a9:=Tryz.isAgg9
 z9:=Tryz.sizeOf9
 v9:=Tryz.zeroValue9
 t21:=Tryz.underlying21
 a21:=Tryz.isAgg21
 z21:=Tryz.sizeOf21
 v21:=Tryz.zeroValue21
 t46:=Tryz.underlying202
 a46:=Tryz.isAgg202
 z46:=Tryz.sizeOf202
 v46:=Tryz.zeroValue202
 t105:=Tryz.underlying198
 a105:=Tryz.isAgg198
 z105:=Tryz.sizeOf198
 v105:=Tryz.zeroValue198
 t116:=Tryz.underlying163
 a116:=Tryz.isAgg163
 z116:=Tryz.sizeOf163
 t117:=Tryz.underlying164
 a117:=Tryz.isAgg164
 z117:=Tryz.sizeOf164
 v117:=Tryz.zeroValue164
 t119:=Tryz.underlying246
 a119:=Tryz.isAgg246
 z119:=Tryz.sizeOf246
 t124:=Tryz.underlying167
 a124:=Tryz.isAgg167
 z124:=Tryz.sizeOf167
 v124:=Tryz.zeroValue167
 t138:=Tryz.underlying248
 a138:=Tryz.isAgg248
 z138:=Tryz.sizeOf248
 v138:=Tryz.zeroValue248
 t139:=Tryz.underlying249
 a139:=Tryz.isAgg249
 z139:=Tryz.sizeOf249
 v139:=Tryz.zeroValue249
 g3:=by kernel_rfl
 g4:=by kernel_rfl }
def Tryz.lays145_ren:Go.Shelf.Ren:=⟨fun|145=>132|220=>164|219=>180|217=>205|225=>206|224=>207|267=>208|266=>227|314=>228|n=>n,fun|9=>9|4=>4|59=>187|3=>3|5=>5|46=>202|146=>266|51=>201|n=>n,fun|1=>4|n=>n⟩
theorem Tryz.lays145:Go.Proofs.Lays.n145 Tryz.prog Tryz.lays145_ren:={
 mixed:=by kernel_rfl
 f145:=Tryz.func132.trans (congrArg some (by kernel_rfl))
 f217:=Tryz.func205.trans (congrArg some (by kernel_rfl))
 f219:=Tryz.func180.trans (congrArg some (by kernel_rfl))
 f220:=Tryz.func164.trans (congrArg some (by kernel_rfl))
 f224:=Tryz.func207.trans (congrArg some (by kernel_rfl))
 f225:=Tryz.func206.trans (congrArg some (by kernel_rfl))
 f266:=Tryz.func227.trans (congrArg some (by kernel_rfl))
 f267:=Tryz.func208.trans (congrArg some (by kernel_rfl))
 f314:=Tryz.func228.trans (congrArg some (by kernel_rfl))
 t3:=Tryz.underlying3
 a3:=Tryz.isAgg3
 z3:=Tryz.sizeOf3
 v3:=Tryz.zeroValue3
 t4:=Tryz.underlying4
 a4:=Tryz.isAgg4
 z4:=Tryz.sizeOf4
 v4:=Tryz.zeroValue4
 t5:=Tryz.underlying5
 a5:=Tryz.isAgg5
 z5:=Tryz.sizeOf5
 v5:=Tryz.zeroValue5
 t9:=Tryz.underlying9
 a9:=Tryz.isAgg9
 z9:=Tryz.sizeOf9
 v9:=Tryz.zeroValue9
 t46:=Tryz.underlying202
 a46:=Tryz.isAgg202
 z46:=Tryz.sizeOf202
 v46:=Tryz.zeroValue202
 t51:=Tryz.underlying201
 a51:=Tryz.isAgg201
 z51:=Tryz.sizeOf201
 v51:=Tryz.zeroValue201
 t59:=Tryz.underlying187
 a59:=Tryz.isAgg187
 z59:=Tryz.sizeOf187
 v59:=Tryz.zeroValue187
 t146:=Tryz.underlying266
 a146:=Tryz.isAgg266
 z146:=Tryz.sizeOf266
 v146:=Tryz.zeroValue266
 g1:=by kernel_rfl }
def Tryz.lays103_ren:Go.Shelf.Ren:=⟨fun|103=>131|210=>163|206=>102|n=>n,fun|9=>9|4=>4|24=>185|3=>3|n=>n,fun|n=>n⟩
theorem Tryz.lays103:Go.Proofs.Lays.n103 Tryz.prog Tryz.lays103_ren:={
 mixed:=by kernel_rfl
 f103:=Tryz.func131.trans (congrArg some (by kernel_rfl))
 f206:=Tryz.func102.trans (congrArg some (by kernel_rfl))
 f210:=Tryz.func163.trans (congrArg some (by kernel_rfl))
 t3:=Tryz.underlying3
 a3:=Tryz.isAgg3
 z3:=Tryz.sizeOf3
 v3:=Tryz.zeroValue3
 t4:=Tryz.underlying4
 a4:=Tryz.isAgg4
 z4:=Tryz.sizeOf4
 v4:=Tryz.zeroValue4
 t9:=Tryz.underlying9
 a9:=Tryz.isAgg9
 z9:=Tryz.sizeOf9
 v9:=Tryz.zeroValue9
 t24:=Tryz.underlying185
 a24:=Tryz.isAgg185
 z24:=Tryz.sizeOf185
 v24:=Tryz.zeroValue185 }
def Tryz.lays134_ren:Go.Shelf.Ren:=⟨fun|134=>216|129=>229|n=>n,fun|53=>170|3=>3|4=>4|46=>202|5=>5|9=>9|n=>n,fun|n=>n⟩
theorem Tryz.lays134:Go.Proofs.Lays.n134 Tryz.prog Tryz.lays134_ren:={
 mixed:=by kernel_rfl
 f129:=Tryz.func229.trans (congrArg some (by kernel_rfl))
 f134:=Tryz.func216.trans (congrArg some (by kernel_rfl))
 t3:=Tryz.underlying3
 a3:=Tryz.isAgg3
 z3:=Tryz.sizeOf3
 v3:=Tryz.zeroValue3
 t4:=Tryz.underlying4
 a4:=Tryz.isAgg4
 z4:=Tryz.sizeOf4
 v4:=Tryz.zeroValue4
 t5:=Tryz.underlying5
 a5:=Tryz.isAgg5
 z5:=Tryz.sizeOf5
 v5:=Tryz.zeroValue5
 t9:=Tryz.underlying9
 a9:=Tryz.isAgg9
 z9:=Tryz.sizeOf9
 v9:=Tryz.zeroValue9
 t46:=Tryz.underlying202
 a46:=Tryz.isAgg202
 z46:=Tryz.sizeOf202
 v46:=Tryz.zeroValue202
 t53:=Tryz.underlying170
 a53:=Tryz.isAgg170
 z53:=Tryz.sizeOf170
 v53:=Tryz.zeroValue170 }
def Tryz.lays264_ren:Go.Shelf.Ren:=⟨fun|264=>211|n=>n,fun|53=>170|46=>202|n=>n,fun|n=>n⟩
theorem Tryz.lays264:Go.Proofs.Lays.n264 Tryz.prog Tryz.lays264_ren:={
 mixed:=by kernel_rfl
 f264:=Tryz.func211.trans (congrArg some (by kernel_rfl))
 t46:=Tryz.underlying202
 a46:=Tryz.isAgg202
 z46:=Tryz.sizeOf202
 v46:=Tryz.zeroValue202
 t53:=Tryz.underlying170
 a53:=Tryz.isAgg170
 z53:=Tryz.sizeOf170
 v53:=Tryz.zeroValue170 }
def Tryz.lays25_ren:Go.Shelf.Ren:=⟨fun|25=>212|n=>n,fun|22=>170|n=>n,fun|n=>n⟩
theorem Tryz.lays25:Go.Proofs.Lays7.n25 Tryz.prog Tryz.lays25_ren:={
 mixed:=by kernel_rfl
 f25:=Tryz.func212.trans (congrArg some (by kernel_rfl))
 t22:=Tryz.underlying170
 a22:=Tryz.isAgg170
 z22:=Tryz.sizeOf170
 v22:=Tryz.zeroValue170
 i22:=by kernel_rfl }
def Tryz.lays26_ren:Go.Shelf.Ren:=⟨fun|26=>226|n=>n,fun|22=>170|n=>n,fun|n=>n⟩
theorem Tryz.lays26:Go.Proofs.Lays7.n26 Tryz.prog Tryz.lays26_ren:={
 mixed:=by kernel_rfl
 f26:=Tryz.func226.trans (congrArg some (by kernel_rfl))
 t22:=Tryz.underlying170
 a22:=Tryz.isAgg170
 z22:=Tryz.sizeOf170
 v22:=Tryz.zeroValue170
 i22:=by kernel_rfl }
end Go.Proofs
