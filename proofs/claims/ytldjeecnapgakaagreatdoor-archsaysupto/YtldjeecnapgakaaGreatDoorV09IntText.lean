/- rafterbig's Int: Text in tens, String. -/
import Derived.Test.YtldjeecnapgakaaGreatDoorV08RatSmall
import Derived.Deep.AppendLies
import Derived.Laws.BytesArg
namespace Go.Proofs.YtldjeecnapgakaaGreatDoor
set_option linter.unusedSimpArgs false
set_option linter.unusedVariables false
set_option maxHeartbeats 8000000
set_option maxRecDepth 1000000
def decVal(l:List UInt8):Nat:=l.foldl (fun a c=>10*a+(c.toNat - 48)) 0
theorem Qnc(l:List UInt8)(a:Nat):l.foldl (fun a c=>10*a+(c.toNat - 48)) a=a*10 ^ l.length+decVal l:=by
 induction l generalizing a with
 |nil=>simp[decVal]
 |cons c l ih=>
  unfold decVal;rw[List.foldl_cons,List.foldl_cons,ih,ih (10*0+(c.toNat - 48)),List.length_cons,Nat.pow_succ,Nat.add_mul,Nat.mul_comm 10 a,Nat.mul_assoc,Nat.mul_comm 10 (10 ^ l.length),Nat.mul_zero,Nat.zero_add];omega
theorem Qb2(l m:List UInt8):decVal (l++m)=decVal l*10 ^ m.length+decVal m:=by
 conv=>lhs;unfold decVal
 rw[List.foldl_append];exact Qnc m _
theorem Qdd(l:List UInt8)(c:UInt8):decVal (l++ [c])=10*decVal l+(c.toNat - 48):=by
 unfold decVal;rw[List.foldl_append];rfl
def AllDigits(l:List UInt8):Prop:=∀c,c∈ l→48≤c.toNat∧c.toNat≤57
theorem Qa1(l:List UInt8)(h:AllDigits l):decVal l<10 ^ l.length:=by
 induction l with
 |nil=>simp[decVal]
 |cons c l ih=>
  have h1:=h c (List.mem_cons_self ..);have h2:=ih fun d hd=>h d (List.mem_cons_of_mem _ hd)
  have e:decVal (c :: l)=(c.toNat - 48)*10 ^ l.length+decVal l:=by
   have:=Qb2 [c] l
   simpa [decVal] using this
  rw[e,List.length_cons,Nat.pow_succ];have:(c.toNat - 48)*10 ^ l.length≤9*10 ^ l.length:=Nat.mul_le_mul_right _ (by omega);omega
theorem Qg3(k:Nat):10 ^ k≤2 ^ (4*k):=by
 rw[Nat.pow_mul];exact Nat.pow_le_pow_left (by decide) k
theorem Qek(s:ByteArray)(k:Nat)(h:k<s.size):s.data.toList.take (k+1)=s.data.toList.take k++ [s[k]]:=by
 rw[List.take_succ_eq_append_getElem (by simpa using h)];rfl
theorem Qel{s:ByteArray}(hd:AllDigits s.data.toList)(k:Nat)(h:k<s.size):48≤s[k].toNat∧s[k].toNat≤57:=
 hd _ (List.mem_iff_getElem.2 ⟨k,by simpa using h,rfl⟩)
theorem AllDigits.take{l:List UInt8}(h:AllDigits l)(k:Nat):AllDigits (l.take k):=fun c hc=>h c (List.mem_of_mem_take hc)
def IsDec(l:List UInt8)(n:Nat):Prop:=(n=0∧l= [48])∨(n≠0∧∃ds,Num 10 ds n∧l=ds.reverse.map (fun d=>UInt8.ofNat (48+d)))
theorem IsDec.inj{l m:List UInt8}{n:Nat}(h:IsDec l n)(k:IsDec m n):l=m:=by
 rcases h with ⟨h0,rfl⟩|⟨h0,ds,h,rfl⟩
 ·
  rcases k with ⟨k0,rfl⟩|⟨k0,es,k,rfl⟩
  · rfl
  · omega
 ·
  rcases k with ⟨k0,rfl⟩|⟨k0,es,k,rfl⟩
  · omega
  · rw[h.inj (by decide) k]
def IntText(l:List UInt8)(X:Int):Prop:=∃m,IsDec m X.natAbs∧l=if X<0 then 45 :: m else m
theorem IntText.inj{l m:List UInt8}{X:Int}(h:IntText l X)(k:IntText m X):l=m:=by
 obtain⟨a,ha,rfl⟩:=h;obtain⟨b,hb,rfl⟩:=k;rw[ha.inj hb]
theorem Qnd{ds:List Nat}{k x:Nat}(hs:Small 10 ds)(hk:ds.length=k)(hv:val 10 ds=x)(hx:10 ^ (k - 1)≤x)(h0:0<k):Num 10 ds x:=by
 refine⟨hs,?_,hv⟩;right;intro hc;obtain⟨j,rfl⟩:∃j,k=j+1:=⟨k - 1,by omega⟩;have h1:=Qbp 10 ds j (by omega);rw[hk,Nat.add_sub_cancel] at hc;rw[hc,Nat.mul_zero,Nat.add_zero,List.take_of_length_le (by omega),hv] at h1;have h2:=Qac (B:=10) (by decide) (hs.take j);rw[List.length_take,Nat.min_eq_left (by omega)] at h2;rw[Nat.add_sub_cancel] at hx;omega
open Go.RowKit
open Go.Proofs.Tryz
theorem U32.len_dec{w:World}{a:Option Addr}{c:Nat}{l:List Nat}{n k:Nat}(h:U32 w a c l n)(hn:n<10 ^ k):l.length<=4*k:=
 h.len_bits (Nat.lt_of_lt_of_le hn (Qg3 k))
theorem Qhq(c:UInt8)(h1:48<=c.toNat)(h2:c.toNat<=57):∃d:Nat,d<=9/\c.toNat - 48=d/\(c.toNat:Int)=48+d:=⟨c.toNat - 48,by omega,rfl,by omega⟩
theorem Qb6(bz:Nat)(s:ByteArray)(w:World)(hs:SB w bz 99 zeroInt)(h0:0<s.size)(hsz:s.size<=1073741824)(hd:AllDigits s.data.toList):
 Calls prog 52 #[.pointer (some ⟨bz,0,none⟩),.string s,.int .i64 10] w fun e w'=>e=.returned (.tuple #[.pointer (some ⟨bz,0,none⟩),.bool true])/\∃a cap l,Laid w w' bz 0 99 zeroInt (decVal s.data.toList) a cap l:=by
 obtain⟨HS,HD⟩:=Ia hs hd;have hd0:=Qel hd 0 h0;have q1:((s[0].toNat:Int) == 45)=false:=by rw[beq_eq_false_iff_ne];omega
 have q2:((s[0].toNat:Int) == 43)=false:=by rw[beq_eq_false_iff_ne];omega
 have q3:((s.size:Int) == 0)=false:=by rw[beq_eq_false_iff_ne];omega
 clear hs hd;go_enter func52,ntmps52;go_wp2;go_loopw [9,10] (fun r i wr=>∃(k:Nat) (a:Option Addr) (cap:Nat) (l:List Nat),k<=s.size/\i=.int .i64 k/\r=.slice a l.length cap/\U32 wr a cap l (decVal (s.data.toList.take k))/\Below w.heap.size w wr) (fun _ i _=>s.size - (intOf i).toNat)
 case atStart=>exact⟨0,none,0,[],by omega,rfl,rfl,⟨Row.nil _ _,by simpa [decVal] using Num.zero _,by simp⟩,Below.refl _ _⟩
 case round=>
  obtain⟨k,a,cap,l,hk,rfl,rfl,hu,hb⟩:=hrel;obtain⟨HU,HB⟩:=Ia hu hb;clear hu hb;by_cases hlt:k<s.size
  .
   have hdk:=Qel HD.o k hlt;have HT:=Hi (Qek s k hlt);obtain⟨d,hd9,hde,hdi⟩:=Qhq s[k] hdk.1 hdk.2;have HDE:=Hi hde;have b0:(0:Int)<=(k:Int):=by omega
   have b1:(k:Int)<(s.size:Int):=by omega
   clear hde;have e48:(48:Int)+(d:Int) - 48=d:=by omega
   have HDEC:=Hi (Qa1 _ (HD.o.take k));have hlen:l.length<=4294967296:=by
    have h1:=HU.o.len_dec HDEC.o;have h2:(s.data.toList.take k).length<=k:=by rw[List.length_take];omega
    omega
   clear hdk hd0;go_wp2_with fail;refine(Qbo 10 _ (by decide) (by decide)).mono ?_;rintro e w1 ⟨⟨a1,cap1,r1,rfl,hu1,hr1⟩,hb1⟩;obtain⟨HU1,HB1⟩:=Ia hu1 hb1;clear hu1 hb1;go_wp2_with fail;refine(Qgv a a1 cap cap1 l r1 _ _ _ (HU.o.below HB1.o) HU1.o (by omega)).mono ?_;rintro e w2 ⟨⟨a2,cap2,r2,rfl,hu2⟩,hb2⟩;have hr2:r2.length<=l.length+r1.length+1:=HU.o.len_of HU1.o hu2 (.inl lZ);obtain⟨HU2,HB2⟩:=Ia hu2 hb2;clear hu2 hb2;go_wp2_with fail;refine(Qbo (d:Int) _ (by omega) (by omega)).mono ?_;rintro e w3 ⟨⟨a3,cap3,r3,rfl,hu3,hr3⟩,hb3⟩;obtain⟨HU3,HB3⟩:=Ia hu3 hb3;clear hu3 hb3;go_wp2_with fail;refine(Qgt a2 a3 cap2 cap3 r2 r3 _ _ _ (HU2.o.below HB3.o) HU3.o (by omega) (by omega)).mono ?_;rintro e w4 ⟨⟨a4,cap4,r4,rfl,hu4⟩,hb4⟩;obtain⟨HU4,HB4⟩:=Ia hu4 hb4;clear hu4 hb4;go_wp2;go_roundw
   case rel=>
    have s1:=HB.o.size;have s2:=HB1.o.size;have s3:=HB2.o.size;have s4:=HB3.o.size;refine⟨k+1,a4,cap4,r4,by omega,by go_num,rfl,?_,(((HB.o.trans (HB1.o.mono (by omega))).trans (HB2.o.mono (by omega))).trans (HB3.o.mono (by omega))).trans (HB4.o.mono (by omega))⟩;have e:decVal (s.data.toList.take (k+1))=decVal (s.data.toList.take k)*(10:Int).toNat+(d:Int).toNat:=by
     rw[HT.o,Qdd,HDE.o];simp;omega
    rw[e];exact HU4.o
   case measure=>simp[intOf];omega
  .
   have hk':k=s.size:=by omega
   subst hk';go_wp2_with fail;refine(Qbt bz 0 99 zeroInt false a cap l _ (decVal s.data.toList) _ (HS.o.below HB.o HS.o.lt) Tryz.int_zero (by simp[zeroInt]) HU.o ?_).mono ?_
   . rw[show s.data.toList.take s.size=s.data.toList from List.take_of_length_le (by simp)]
     simp
   rintro e w1 ⟨rfl,hl⟩;have HL:=Hi hl;clear hl;go_wp2;go_ret2;obtain⟨_,a',c',l',hl'⟩:=LaidOk.of (Only.of_below HB.o) ⟨rfl,_,_,_,HL.o⟩;exact⟨rfl,a',c',l',hl'⟩
theorem Qmy(g n cap x:Nat)(rs:List Nat)(w:World)(h:Blk .u32 166 w g rs)(hl:rs.length=n)(hs:Small 4294967296 rs)(hc:n<=cap)(hn:n<=1099511627776)(hx:val 4294967296 rs=x):
 Calls prog 141 #[.slice (some ⟨g,0,none⟩) n cap] w fun e w'=>(∃r,e=.returned (.slice (some ⟨g,0,none⟩) r.length cap)/\U32 w (some ⟨g,0,none⟩) cap r x)/\w'=w:=by
 have hR:=h.row n (by omega) cap hc;rw[List.take_of_length_le (by omega)] at hR;have hT:=Qgy (some ⟨g,0,none⟩) cap rs w hR (by omega);rw[hl] at hT;refine hT.mono ?_;rintro e w1 ⟨⟨q,hq,rfl,hqv,hqt⟩,rfl⟩;have hql:(rs.take q).length=q:=by rw[List.length_take];omega
 exact⟨⟨rs.take q,by rw[hql],hR.take q (by omega),⟨hs.take q,hqt,hqv.trans hx⟩,by rw[hql];omega⟩,rfl⟩
theorem Qmz(a:Option Addr)(cap d:Nat)(l:List Nat)(x:Nat)(w:World)(h:U32 w a cap l x)(hd0:0<d)(hd:d<4294967296):
 Calls prog 133 #[.slice a l.length cap,.int .u32 d] w fun e w'=>(∃cap r,e=.returned (.tuple #[.slice (some ⟨w.heap.size,0,none⟩) r.length cap,.int .u32 (x % d:Nat)])/\U32 w' (some ⟨w.heap.size,0,none⟩) cap r (x / d))/\Below w.heap.size w w':=by
 have s1:=h.short;have hmk:∀w,(Instr.makeSlice 97 (.int .i64 (l.length:Int)) (.int .i64 (l.length:Int))).run prog w=.ok (.slice (some ⟨w.heap.size,0,none⟩) l.length l.length) (w.alloc (.cells (wordCells .u32 (zeros l.length)) 166)):=
  fun w=>Qa4 _ l.length rfl (by omega) w
 go_enter func133,ntmps133;go_wp2;clear hmk;go_loopw [7,8] (fun r i wr=>∃(k r':Nat) (rs:List Nat),k<=l.length/\r'<d/\r=.int .u64 r'/\i=.int .i64 ((k:Int) - 1)/\Blk .u32 166 wr w.heap.size rs/\rs.length=l.length/\Small 4294967296 rs/\
  val 4294967296 (rs.drop k)*d+r'=val 4294967296 (l.drop k)/\Below w.heap.size w wr) (fun _ i _=>(intOf i+1).toNat)
 case atStart=>exact⟨l.length,0,zeros l.length,Nat.le_refl _,hd0,rfl,rfl,Blk.new _ _ _ _,Qag _,Qam _ _ (by omega),by rw[List.drop_of_length_le (by rw[Qag];exact Nat.le_refl _),List.drop_of_length_le lZ];simp[val],bR.alloc lZ _⟩
 case round=>
  obtain⟨k,r,rs,hk,hr,rfl,rfl,hB,hrl,hrs,hv,hb⟩:=hrel;have HV:O (val 4294967296 (rs.drop k)*d+r=val 4294967296 (l.drop k)):=hv;have HRL:O (rs.length=l.length):=hrl;have HB:O (Blk .u32 166 wr w.heap.size rs):=hB;have HRS:O (Small 4294967296 rs):=hrs;clear hv hrs;by_cases h0:k=0
  .
   subst h0;have e2:=HV.o;simp only[List.drop_zero,h.num.eq] at e2;have hq:val 4294967296 rs=x / d:=by
    rw[<-e2,Nat.mul_comm,Nat.mul_add_div hd0,Nat.div_eq_of_lt hr,Nat.add_zero]
   have hm:x % d=r:=by
    rw[<-e2,Nat.mul_comm,Nat.mul_add_mod,Nat.mod_eq_of_lt hr]
   have HM:O (x % d=r):=hm;clear hrl hB e2 hm;have HQ:O (val 4294967296 rs=x / d):=hq;clear hq;go_wp2_with fail;refine(Qmy w.heap.size l.length l.length (x / d) rs _ HB.o HRL.o HRS.o lZ (by omega) HQ.o).mono ?_;rintro e w1 ⟨⟨r,rfl,hu⟩,rfl⟩;go_wp2;go_ret2;exact⟨⟨_,r,by rw[HM.o];rfl,hu⟩,hb⟩
  .
   obtain⟨j,rfl⟩:∃j,k=j+1:=⟨k - 1,by omega⟩;obtain⟨b,off,rfl,hb1,hc1⟩:=h.row.cell j (by omega);obtain⟨e,he⟩:=nm (l.getD j 0);have heb:e<4294967296:=by rw[<-he];exact h.num.small.getD (by omega) j
   rw[he] at hc1;have hc1':=ce hb hb1 hc1;have H1:O (l.getD j 0=e):=he;obtain⟨z,hz⟩:=nm (rs.getD j 0);have g1:=hB.free j;have g2:=hB.cell j (by omega);rw[hz] at g2;clear he hc1 hz hB hrl;have ei:((j+1:Nat):Int) - 1=(j:Int):=by omega
   rw[ei];clear ei;have hne:((d:Int) == 0)=false:=by rw[beq_eq_false_iff_ne];omega
   obtain⟨s,hs⟩:=nm (4294967296*r+e);have hor:bits .or .u64 ((r:Int)*4294967296) (e:Int)=(s:Int):=by
    rw[or64 ((r:Int)*4294967296) (e:Int) r e 32 (by omega) rfl heb (by omega)];omega
   obtain⟨q,hq⟩:=nm (s / d);obtain⟨r',hr'⟩:∃r',s % d=r':=⟨_,rfl⟩;have hqb:q<4294967296:=by
    rw[<-hq,Nat.div_lt_iff_lt_mul hd0];have:=Nat.mul_le_mul_left 4294967296 (show r+1<=d by omega);omega
   have hrb:r'<d:=by rw[<-hr'];exact Nat.mod_lt _ hd0
   have hst:=Qg0 4294967296 j d e r rs l (by have:=HRL.o;omega) (by omega) H1.o HV.o;rw[hs,hq,hr'] at hst;have t1:(s:Int) / (d:Int)=(q:Int):=by rw[<-hq];simp
   have t2:(s:Int) % (d:Int)=(r':Int):=by rw[<-hr'];simp
   have hsb:s<18446744073709551616:=by omega
   have HST:O (val 4294967296 ((rs.set j q).drop j)*d+r'=val 4294967296 (l.drop j)):=hst;clear hq hr' hst hs;go_wp2;go_roundw
   case rel=>exact⟨j,r',rs.set j q,by omega,hrb,by rw[t2],rfl,HB.o.set j q,by rw[List.length_set];exact HRL.o,HRS.o.set j hqb,HST.o,hb.setCell lZ _⟩
   case measure=>simp[intOf]
theorem Row.grown{k:IntKind}{w w':World}{a:Option Addr}{cap:Nat}{l:List Nat}{row:Option Nat}(h:Row k w a cap l)(hg:w.grownBy w' row)(hne:∀b off,a=some ⟨b,off,none⟩->some b≠row):Row k w' a cap l:=by
 refine⟨h.fit,?_,fun i hi=>?_⟩
 .
  rcases h.shape with h1|⟨b,off,rfl,h2⟩
  . exact .inl h1
  . exact .inr ⟨b,off,rfl,by have:=hg.size;omega⟩
 . obtain⟨b,off,h1,h2,h3⟩:=h.cell i hi
   exact⟨b,off,h1,by have:=hg.size;omega,(World.cell?_of_block (w:=w) (a:=⟨b,off+i,none⟩) (hg.block b h2 (hne b off h1))).trans h3⟩
theorem U32.grown{w w':World}{a:Option Addr}{cap:Nat}{l:List Nat}{n:Nat}{row:Option Nat}(h:U32 w a cap l n)(hg:w.grownBy w' row)(hne:∀b off,a=some ⟨b,off,none⟩->some b≠row):U32 w' a cap l n:=⟨h.row.grown hg hne,h.num,h.short⟩
theorem Qbh{w w':World}{base:Nat}{e:TypeId}{size:Nat}{v:Value}{n:Nat}{xs:List Value}(h:w.ownsRow base e size v n xs)(hb:Below w.heap.size w w'):w'.ownsRow base e size v n xs:=by
 refine⟨h.1,?_⟩;rcases h.2 with h1|⟨g,cap,cur,h1,h2,h3,h4⟩
 . exact .inl h1
 .
  refine .inr ⟨g,cap,cur,h1,h2,?_,h4⟩;have hlt:g<w.heap.size:=by
   apply bC;intro hc;rw[Array.getElem?_eq_none (by omega)] at h3;cases h3
  rw[hb.block g hlt];exact h3
def byteV(d:Nat):Value:=.int .u8 (48+(d:Int))
def sliceLen:Value->Nat
 | .slice _ n _=>n
 |_=>0
theorem Qey{w:World}{base:Nat}{e:TypeId}{size:Nat}{v:Value}{n:Nat}{xs:List Value}(h:w.ownsRow base e size v n xs):sliceLen v=n:=by
 rcases h.2 with ⟨rfl,rfl⟩|⟨g,cap,cur,rfl,_⟩<;>rfl
theorem Tryz.info8:(prog.info? 5).map (fun i=>(i.zero,i.size,i.bytes))=some (some (.int .u8 0),1,1):=by kernel_rfl
theorem Qos{x k d:Nat}{ds:List Nat}(hk:ds.length=k)(hd:x / 10 ^ k % 10=d)(hv:val 10 ds+10 ^ k*(x / 10 ^ k)=x):val 10 (ds++ [d])+10 ^ (k+1)*(x / 10 ^ (k+1))=x:=by
 rw[Qch,hk,Qbb,Qcg,Nat.mul_zero,Nat.add_zero,Nat.pow_succ,<-Nat.div_div_eq_div_mul];have h1:=Nat.div_add_mod (x / 10 ^ k) 10;rw[hd] at h1;have h2:10 ^ k*10*(x / 10 ^ k / 10)+10 ^ k*d=10 ^ k*(x / 10 ^ k):=by
  conv=>rhs;rw[<-h1]
  rw[Nat.mul_add,Nat.mul_assoc]
 omega
theorem Qot{x k:Nat}(h:x / 10 ^ k≠0):10 ^ k<=x:=by
 apply bC;intro hc;exact h (Nat.div_eq_of_lt (by omega))
theorem Qou(k:Nat):k<10 ^ k:=Nat.lt_pow_self (by decide)
theorem Qhu{k K x:Nat}(h:10 ^ k<=x)(hx:x<2 ^ K):k<K:=by
 have h1:2 ^ k<=10 ^ k:=Nat.pow_le_pow_left (by decide) k;exact(Nat.pow_lt_pow_iff_right (by decide:1<2)).1 (Nat.lt_of_le_of_lt (Nat.le_trans h1 h) hx)
def revAt(bs:List Nat)(n m p:Nat):Nat:=if p<m∨n<=p+m then bs.getD (n - 1 - p) 0 else bs.getD p 0
theorem Qhv{w:World}{base:Nat}{e:TypeId}{v:Value}{n:Nat}{bs:List Nat}(h:w.ownsRow base e 1 v n (bs.map fun b:Nat=>Value.int .u8 (b:Int)))(h0:0<n):
 ∃g cap C,v=.slice (some ⟨g,0,none⟩) n cap/\base<=g/\n<=cap/\bs.length=n/\SB w g e C/\∀p,p<n->C[p]?=some (.int .u8 ((bs.getD p 0:Nat):Int)):=by
 obtain⟨hl,h1⟩:=h;rw[List.length_map,Nat.mul_one] at hl;rcases h1 with ⟨_,h1⟩|⟨g,cap,cur,h1,h2,h3,h4,h5,h6,h7⟩
 . omega
 .
  refine⟨g,cap,cur,h1,h2,h4,hl,h3,fun p hp=>?_⟩;have e1:(cur.toList.take (n*1))[p]?=cur[p]?:=by
   rw[List.getElem?_take_of_lt (by omega)];simp
  rw[<-e1,h7,List.getElem?_map,List.getD_eq_getElem?_getD];obtain⟨u,hu⟩:∃u,bs[p]?=some u:=⟨bs[p],by rw[gE]⟩;rw[hu];rfl
theorem Qhw(bs:List Nat)(n p:Nat)(hp:p<n):revAt bs n 0 p=bs.getD p 0:=by unfold revAt;rw[if_neg (by omega)]
theorem Qhx(bs:List Nat)(n m j:Nat)(h:m+j=n - 1)(hm:m<j):revAt bs n m m=bs.getD m 0:=by unfold revAt;rw[if_neg (by omega)]
theorem Qhy(bs:List Nat)(n m j:Nat)(h:m+j=n - 1)(hm:m<j):revAt bs n m j=bs.getD j 0:=by unfold revAt;rw[if_neg (by omega)]
theorem Qhz{C:Array Value}(bs:List Nat)(n m j:Nat)(h:m+j=n - 1)(hm:m<j)(hC:∀p,p<n->C[p]?=some (.int .u8 ((revAt bs n m p:Nat):Int))):
 ∀p,p<n->((C.setIfInBounds m (.int .u8 ((bs.getD j 0:Nat):Int))).setIfInBounds j (.int .u8 ((bs.getD m 0:Nat):Int)))[p]?=some (.int .u8 ((revAt bs n (m+1) p:Nat):Int)):=by
 intro p hp;have hsz:∀p,p<n->p<C.size:=fun p hp=>by
  have:=hC p hp;apply bC;intro hc;rw[Array.getElem?_eq_none (by omega)] at this;cases this
 have h1:=hsz m (by omega);have h2:=hsz j (by omega);rw[Array.getElem?_setIfInBounds];by_cases e1:j=p
 .
  subst e1;rw[if_pos rfl,if_pos (by simpa using h2)];unfold revAt;rw[if_pos (by omega),show n - 1 - j=m by omega]
 .
  rw[if_neg e1,Array.getElem?_setIfInBounds];by_cases e2:m=p
  .
   subst e2;rw[if_pos rfl,if_pos h1];unfold revAt;rw[if_pos (by omega),show n - 1 - m=j by omega]
  .
   rw[if_neg e2,hC p hp];unfold revAt;by_cases e3:p<m∨n<=p+m
   . rw[if_pos e3,if_pos (by omega)]
   . rw[if_neg e3,if_neg (by omega)]
theorem Qov(bs:List Nat)(n m j p:Nat)(h:m+j=n - 1)(hm:¬m<j)(hn:bs.length=n)(hp:p<n):((revAt bs n m p:Nat):Int)=(bs.reverse.map (fun b:Nat=>(b:Int))).getD p 0:=by
 have e:revAt bs n m p=bs.getD (n - 1 - p) 0:=by
  unfold revAt;by_cases e3:p<m∨n<=p+m
  . rw[if_pos e3]
  . rw[if_neg e3,show n - 1 - p=p by omega]
 rw[e,List.getD_eq_getElem?_getD,List.getD_eq_getElem?_getD,List.getElem?_map,List.getElem?_reverse (by omega),hn];obtain⟨u,hu⟩:∃u,bs[n - 1 - p]?=some u:=⟨bs[n - 1 - p]'(by omega),by rw[gE]⟩;rw[hu];rfl
theorem Qow(ds:List Nat):ds.map byteV=(ds.map (48+ ·)).map (fun b:Nat=>Value.int .u8 (b:Int)):=by
 rw[List.map_map];apply List.map_congr_left;intro d _
 show Value.int .u8 (48+(d:Int))=Value.int .u8 ((48+d:Nat):Int)
 rw[Int.natCast_add];rfl
theorem Qh0(ds:List Nat):(strOfNums ((ds.map (48+ ·)).reverse.map (fun b:Nat=>(b:Int)))).data.toList=ds.reverse.map (fun d=>UInt8.ofNat (48+d)):=by
 rw[strOfNums_data,<-List.map_reverse,List.map_map,List.map_map];apply List.map_congr_left;intro d _
 show UInt8.ofNat ((48+d:Nat):Int).toNat=_
 rw[Int.toNat_natCast]
theorem Qox(ds:List Nat):(strOfNums ((ds.map (48+ ·)++ [45]).reverse.map (fun b:Nat=>(b:Int)))).data.toList=45 :: ds.reverse.map (fun d=>UInt8.ofNat (48+d)):=by
 rw[<-Qh0,strOfNums_data,strOfNums_data,List.reverse_append];rfl
theorem Qh1(wr:World)(g n capg m jj:Nat)(bs:List Nat)(C:Array Value)(hsb:SB wr g 5 C)(hC:∀p,p<n->C[p]?=some (.int .u8 ((revAt bs n m p:Nat):Int)))(hmj:m+jj=n - 1)(hlt:¬m<jj)(hbl:bs.length=n):
 (convert 153 9 (.slice (some ⟨g,0,none⟩) n capg)).run prog wr=.ok (.string (strOfNums (bs.reverse.map (fun b:Nat=>(b:Int))))) wr:=by
 refine run_convert_bytes_arg (P:=prog) wr 153 5 underlying153 underlying5 g 0 n capg _ ?_ ?_ 9 underlying9
 . rw[List.length_map,List.length_reverse];exact hbl
 . intro p hp
   rw[Nat.zero_add,hsb.cell,hC p hp,Qov _ _ _ _ _ hmj hlt hbl hp]
theorem Qoy(b o K:Nat)(X:Int)(a:Option Addr)(cap:Nat)(l:List Nat)(w:World)(hx:IntAt w b o X a cap l)(hX:X≠0)(hK:X.natAbs<2 ^ K)(hKK:K<=1099511627776):
 Calls prog 92 #[.pointer (some ⟨b,o,none⟩),.int .i64 10] w fun e w'=>(∃s,e=.returned (.string s)/\IntText s.data.toList X)/\Below w.heap.size w w':=by
 obtain⟨i0,hi,hz0,hz1,hz2⟩:=info_parts Tryz.info8;have k0:=hx.neg;have k1:=hx.abs;have hlt:=hx.lt;have q1:((l.length:Int) == 0)=false:=by
  rw[beq_eq_false_iff_ne];have:=(hx.num.num.len_zero (by decide)).2;omega
 have HX:=Hi hx.num;obtain⟨x,hxx⟩:=nm X.natAbs;rw[hxx] at HX hK;have hx0:x≠0:=by omega
 have HXK:=Hi hK;clear hx hK;go_enter func92,ntmps92;go_wp2_with fail;refine(Qdb a cap l x _ HX.o).mono ?_;rintro e w1 ⟨⟨a1,cap1,rfl,hu1⟩,hb1⟩;have c0:=ce hb1 hlt k0;obtain⟨HU1,HB1⟩:=Ia hu1 hb1;clear hu1 hb1;go_wp2_with fail;go_loopw [5,6] (fun bv av wr=>∃(k:Nat) (ds:List Nat) (a:Option Addr) (cap:Nat) (l:List Nat),ds.length=k/\av=.slice a l.length cap/\U32 wr a cap l (x / 10 ^ k)/\wr.ownsRow w.heap.size 5 1 bv k (ds.map byteV)/\Small 10 ds/\val 10 ds+10 ^ k*(x / 10 ^ k)=x/\(k=0∨10 ^ (k - 1)<=x)/\Below w.heap.size w wr) (fun bv _ _=>x+1 - sliceLen bv)
 case atStart=>exact⟨0,[],a1,cap1,l,rfl,rfl,by rw[Nat.pow_zero,Nat.div_one];exact HU1.o,World.ownsRow_nil _ _ _ _,Small.nil _,by simp[val],.inl rfl,HB1.o⟩
 case round=>
  obtain⟨k,ds,a,cap,l,hk,rfl,hu,hown,hsm,hv,hp,hb⟩:=hrel;have hsl:=Qey hown;obtain⟨HU,HB,HO,HV,HSM,HP⟩:=Ie hu hb hown hv hsm hp;have hsz:=hb.size;clear hu hb hown hv hsm hp;by_cases hz:l.length=0
  .
   have hx10:x / 10 ^ k=0:=(HU.o.num.len_zero (by decide)).2 hz;have hkp:0<k:=by
    rcases Nat.eq_zero_or_pos k with h0|h0
    .
     subst h0;rw[Nat.pow_zero,Nat.div_one] at hx10;omega
    . exact h0
   have HN:O (Num 10 ds x):=Hi (Qnd HSM.o hk (by have:=HV.o;rw[hx10,Nat.mul_zero,Nat.add_zero] at this;exact this) (by rcases HP.o with h|h;omega;exact h) hkp);have hkK:k - 1<K:=by
    rcases HP.o with h|h
    . omega
    . exact Qhu h HXK.o
   have d0:=ce HB.o hlt k0;have EBS:=Hi (Qow ds);by_cases hneg:X<0
   .
    rw[show decide (X<0)=true by simpa using hneg] at d0;go_wp2_with (at_builtin;refine wpList_append_lies _ rfl _ _ 153 rfl w.heap.size 5 i0 (.int .u8 0) 1 1 underlying153 hi hz0 hz1 hz2 rfl (by decide) _ k (ds.map byteV) rfl (Qbh HO.o (bR.alloc lZ _)) ⟨wr.heap.size,0,none⟩ 1 1 [Value.int .u8 45] rfl rfl ?c1 ?c2 (by decide) ?c3 ?c4 ?c5 _ rfl ?_)
    case c1=>exact World.news_of_block (heap_alloc_new wr _)
    case c2=>intro u hu;rw[List.mem_singleton.1 hu];rfl
    case c3=>unfold maxLen;omega
    case c4=>omega
    case c5=>rw[World.size_alloc];omega
    intro g capg w3 hown3 hgrow hat hlt3;rw[EBS.o,show [Value.int .u8 45]= [45].map (fun b:Nat=>Value.int .u8 (b:Int)) from rfl,<-List.map_append] at hown3;obtain⟨HOB,HBB⟩:=Ia (Qhv hown3 (by omega)) (Below.grown (HB.o.alloc (by omega) (Obj.cells #[Value.int IntKind.u8 45] 5)) hgrow (by rw[World.size_alloc];omega) (fun q hq=>(HO.o.lt q hq).1));have HSTR:O (IntText (strOfNums ((ds.map (48+ ·)++ [45]).reverse.map (fun b:Nat=>(b:Int)))).data.toList X):=Hi ⟨ds.reverse.map (fun d=>UInt8.ofNat (48+d)),.inr ⟨by omega,ds,by rw[hxx];exact HN.o,rfl⟩,by rw[if_pos hneg];exact Qox ds⟩;clear hown3 hgrow hat hlt3 hx10 c0 k0 k1;obtain⟨bs,hbs⟩:=nm ((ds.map (48+ ·)++ [45]));rw[hbs] at HOB HSTR;clear hbs;obtain⟨g,capg,C,hv,hgb,hcg,hbl,hsb,hC⟩:=HOB.o;cases hv;obtain⟨HBL,HSB,HC⟩:=Ib hbl hsb hC;clear hsb hC hbl HOB;go_wp2_with fail
    go_loopw [8,9] (fun i j wr=>∃(m jj:Nat) (C:Array Value),i=.int .i64 m/\j=.int .i64 jj/\m+jj=(k+1) - 1/\SB wr g 5 C/\(∀p,p<(k+1)->C[p]?=some (.int .u8 ((revAt bs (k+1) m p:Nat):Int)))/\Below w.heap.size w wr) (fun i _ _=>(k+1) - (intOf i).toNat)
    case atStart=>exact⟨0,(k+1) - 1,C,rfl,by go_num,by omega,HSB.o,fun p hp=>by rw[Qhw _ _ _ hp];exact HC.o p hp,HBB.o⟩
    case round=>
     obtain⟨m,jj,C',rfl,rfl,hmj,hsb,hC,hb⟩:=hrel;have HSB':=Hi hsb;have HC':=Hi hC;have HB':=Hi hb;by_cases hlt:m<jj
     .
      have hCm:=hC m (by omega);have hCj:=hC jj (by omega);rw[Qhx _ _ _ _ hmj hlt] at hCm;rw[Qhy _ _ _ _ hmj hlt] at hCj;have HST:=Hi (Qhz bs (k+1) m jj hmj hlt HC'.o);obtain⟨y1,hy1⟩:=nm (bs.getD m 0);obtain⟨y2,hy2⟩:=nm (bs.getD jj 0);rw[hy1] at hCm HST;rw[hy2] at hCj HST;have d1:=(hsb.cell m).trans hCm;have d2:=(hsb.cell jj).trans hCj;have f1:=hsb.free m;have f2:=hsb.free jj;have hne:m≠jj:=by omega
      clear hsb hC hb hCm hCj hy1 hy2;go_wp2;go_roundw
      case rel=>exact⟨m+1,jj - 1,_,by go_num,by go_num,by omega,(HSB'.o.set m _).set jj _,HST.o,(HB'.o.setCell hgb _).setCell hgb _⟩
      case measure=>simp[intOf];omega
     .
      have hcv:=Qh1 wr g (k+1) capg m jj bs C' HSB'.o HC'.o hmj hlt HBL.o;obtain⟨st,hst⟩:=nm (strOfNums (bs.reverse.map (fun b:Nat=>(b:Int))));rw[hst] at hcv HSTR;clear hsb hC hb hst;go_wp2;go_ret;exact⟨⟨_,rfl,HSTR.o⟩,HB'.o⟩
   .
    rw[show decide (X<0)=false by simpa using hneg] at d0;have hown3:=HO.o;rw[EBS.o] at hown3;obtain⟨HOB,HBB⟩:=Ia (Qhv hown3 (by omega)) HB.o;have HSTR:O (IntText (strOfNums ((ds.map (48+ ·)).reverse.map (fun b:Nat=>(b:Int)))).data.toList X):=Hi ⟨ds.reverse.map (fun d=>UInt8.ofNat (48+d)),.inr ⟨by omega,ds,by rw[hxx];exact HN.o,rfl⟩,by rw[if_neg hneg];exact Qh0 ds⟩;clear hown3 hx10 c0 k0 k1;obtain⟨bs,hbs⟩:=nm ((ds.map (48+ ·)));rw[hbs] at HOB HSTR;clear hbs;obtain⟨g,capg,C,hv,hgb,hcg,hbl,hsb,hC⟩:=HOB.o;cases hv;obtain⟨HBL,HSB,HC⟩:=Ib hbl hsb hC;clear hsb hC hbl HOB;go_wp2_with fail;go_loopw [8,9] (fun i j wr=>∃(m jj:Nat) (C:Array Value),i=.int .i64 m/\j=.int .i64 jj/\m+jj=k - 1/\SB wr g 5 C/\(∀p,p<k->C[p]?=some (.int .u8 ((revAt bs k m p:Nat):Int)))/\Below w.heap.size w wr) (fun i _ _=>k - (intOf i).toNat)
    case atStart=>exact⟨0,k - 1,C,rfl,by go_num,by omega,HSB.o,fun p hp=>by rw[Qhw _ _ _ hp];exact HC.o p hp,HBB.o⟩
    case round=>
     obtain⟨m,jj,C',rfl,rfl,hmj,hsb,hC,hb⟩:=hrel;have HSB':=Hi hsb;have HC':=Hi hC;have HB':=Hi hb;by_cases hlt:m<jj
     .
      have hCm:=hC m (by omega);have hCj:=hC jj (by omega);rw[Qhx _ _ _ _ hmj hlt] at hCm;rw[Qhy _ _ _ _ hmj hlt] at hCj;have HST:=Hi (Qhz bs k m jj hmj hlt HC'.o);obtain⟨y1,hy1⟩:=nm (bs.getD m 0);obtain⟨y2,hy2⟩:=nm (bs.getD jj 0);rw[hy1] at hCm HST;rw[hy2] at hCj HST;have d1:=(hsb.cell m).trans hCm;have d2:=(hsb.cell jj).trans hCj;have f1:=hsb.free m;have f2:=hsb.free jj;have hne:m≠jj:=by omega
      clear hsb hC hb hCm hCj hy1 hy2;go_wp2;go_roundw
      case rel=>exact⟨m+1,jj - 1,_,by go_num,by go_num,by omega,(HSB'.o.set m _).set jj _,HST.o,(HB'.o.setCell hgb _).setCell hgb _⟩
      case measure=>simp[intOf];omega
     .
      have hcv:=Qh1 wr g k capg m jj bs C' HSB'.o HC'.o hmj hlt HBL.o;obtain⟨st,hst⟩:=nm (strOfNums (bs.reverse.map (fun b:Nat=>(b:Int))));rw[hst] at hcv HSTR;clear hsb hC hb hst;go_wp2;go_ret;exact⟨⟨_,rfl,HSTR.o⟩,HB'.o⟩
  .
   have HPW:=Hi (Qot (fun h0=>hz ((HU.o.num.len_zero (by decide)).1 h0)));have hkK:k<K:=Qhu HPW.o HXK.o;have hkx:k<x:=Nat.lt_of_lt_of_le (Qou k) HPW.o;go_wp2_with fail;refine(Qmz a cap 10 l (x / 10 ^ k) _ HU.o (by decide) (by decide)).mono ?_;rintro e w2 ⟨⟨cap2,r2,rfl,hu2⟩,hb2⟩;have HO2:=Hi (Qbh HO.o hb2);have hob:∀q,u5.ownBlock=some q->q<wr.heap.size:=fun q hq=>(HO.o.lt q hq).2
   obtain⟨HU2,HB2⟩:=Ia hu2 hb2;have hsz2:=hb2.size;clear hu2 hb2;obtain⟨d,hd⟩:=nm (x / 10 ^ k % 10);have hd9:d<10:=by omega
   rw[hd];have HD:=Hi hd;clear hd;go_wp2_with (at_builtin;refine wpList_append_lies _ rfl _ _ 153 rfl w.heap.size 5 i0 (.int .u8 0) 1 1 underlying153 hi hz0 hz1 hz2 rfl (by decide) _ k (ds.map byteV) rfl (Qbh HO2.o (bR.alloc lZ _)) ⟨w2.heap.size,0,none⟩ 1 1 [byteV d] rfl rfl ?c1 ?c2 (by decide) ?c3 ?c4 ?c5 _ rfl ?_)
   case c1=>exact World.news_of_block (heap_alloc_new w2 _)
   case c2=>intro u hu;rw[List.mem_singleton.1 hu];rfl
   case c3=>unfold maxLen;omega
   case c4=>omega
   case c5=>rw[World.size_alloc];omega
   intro g cap' w3 hown3 hgrow hat hlt3;obtain⟨HO3,HG⟩:=Ia hown3 hgrow;clear hown3 hgrow;go_wp2;go_roundw
   case rel=>
    refine⟨k+1,ds++ [d],_,_,r2,by simp[hk],rfl,?_,?_,HSM.o.append (fun e he=>by rw[List.mem_singleton.1 he];exact hd9),Qos hk HD.o HV.o,.inr (by rw[Nat.add_sub_cancel];exact HPW.o),?_⟩
    .
     have hu3:=HU2.o.below ((Below.refl _ w2).alloc lZ (Obj.cells #[Value.int IntKind.u8 (48+(d:Int))] 5));rw[Nat.pow_succ,<-Nat.div_div_eq_div_mul];refine hu3.grown HG.o ?_;intro b' off' he hc;obtain⟨rfl,rfl⟩:wr.heap.size=b'/\0=off':=by simpa using he
     have:=hob _ hc.symm;omega
    . rw[List.map_append]
      exact HO3.o
    .
     refine Below.grown ((HB.o.trans (HB2.o.mono (by omega))).alloc (by omega) _) HG.o (by rw[World.size_alloc];omega) ?_;intro q hq;exact(HO.o.lt q hq).1
   case measure=>rw[hsl];simp[sliceLen];omega
end Go.Proofs.YtldjeecnapgakaaGreatDoor
