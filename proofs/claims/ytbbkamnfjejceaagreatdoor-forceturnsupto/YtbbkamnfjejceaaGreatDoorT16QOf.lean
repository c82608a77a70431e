/- What a text counts as: a fraction. -/
import Derived.Test.YtbbkamnfjejceaaGreatDoorT15RatSmall
import Derived.Deep.AppendLies
import Derived.Laws.BytesArg
import Derived.Lib.IndexMore
import Derived.Lib.Strings
import Derived.Lib.Split
namespace Go.Proofs.YtbbkamnfjejceaaGreatDoor
set_option linter.unusedVariables false
def decVal(l:List UInt8):Nat:=l.foldl (fun a c=>10*a+(c.toNat - 48)) 0
theorem Qh3(l:List UInt8)(a:Nat):l.foldl (fun a c=>10*a+(c.toNat - 48)) a=a*10 ^ l.length+decVal l:=by
 induction l generalizing a with
 |nil=>simp[decVal]
 |cons c l ih=>
  unfold decVal;rw[List.foldl_cons,List.foldl_cons,ih,ih (10*0+(c.toNat - 48)),List.length_cons,Nat.pow_succ,Nat.add_mul,Nat.mul_comm 10 a,Nat.mul_assoc,Nat.mul_comm 10 (10 ^ l.length),Nat.mul_zero,Nat.zero_add];omega
theorem Qbh(l m:List UInt8):decVal (l++m)=decVal l*10 ^ m.length+decVal m:=by
 conv=>lhs;unfold decVal
 rw[List.foldl_append];exact Qh3 m _
theorem Qb9(l:List UInt8)(c:UInt8):decVal (l++ [c])=10*decVal l+(c.toNat - 48):=by
 unfold decVal;rw[List.foldl_append];rfl
def AllDigits(l:List UInt8):Prop:=∀c,c∈ l→48≤c.toNat∧c.toNat≤57
theorem Qau(l:List UInt8)(h:AllDigits l):decVal l<10 ^ l.length:=by
 induction l with
 |nil=>simp[decVal]
 |cons c l ih=>
  have h1:=h c (List.mem_cons_self ..);have h2:=ih fun d hd=>h d (List.mem_cons_of_mem _ hd)
  have e:decVal (c :: l)=(c.toNat - 48)*10 ^ l.length+decVal l:=by
   have:=Qbh [c] l
   simpa [decVal] using this
  rw[e,List.length_cons,Nat.pow_succ];have:(c.toNat - 48)*10 ^ l.length≤9*10 ^ l.length:=Nat.mul_le_mul_right _ (by omega);omega
theorem Qei(k:Nat):10 ^ k≤2 ^ (4*k):=by
 rw[Nat.pow_mul];exact Nat.pow_le_pow_left (by decide) k
theorem Qc7(s:ByteArray)(k:Nat)(h:k<s.size):s.data.toList.take (k+1)=s.data.toList.take k++ [s[k]]:=by
 rw[List.take_succ_eq_append_getElem (by simpa using h)];rfl
theorem Qc8{s:ByteArray}(hd:AllDigits s.data.toList)(k:Nat)(h:k<s.size):48≤s[k].toNat∧s[k].toNat≤57:=
 hd _ (List.mem_iff_getElem.2 ⟨k,by simpa using h,rfl⟩)
theorem AllDigits.take{l:List UInt8}(h:AllDigits l)(k:Nat):AllDigits (l.take k):=fun c hc=>h c (List.mem_of_mem_take hc)
def IsDec(l:List UInt8)(n:Nat):Prop:=(n=0∧l= [48])∨(n≠0∧∃ds,Num 10 ds n∧l=ds.reverse.map (fun d=>UInt8.ofNat (48+d)))
theorem IsDec.inj{l m:List UInt8}{n:Nat}(h:IsDec l n)(k:IsDec m n):l=m:=by
 rcases h with ⟨h0,rfl⟩|⟨h0,ds,h,rfl⟩
 ·
  rcases k with ⟨k0,rfl⟩|⟨k0,es,k,rfl⟩
  · rfl
  · omega
 ·
  rcases k with ⟨k0,rfl⟩|⟨k0,es,k,rfl⟩
  · omega
  · rw[h.inj (by decide) k]
def IntText(l:List UInt8)(X:Int):Prop:=∃m,IsDec m X.natAbs∧l=if X<0 then 45 :: m else m
theorem IntText.inj{l m:List UInt8}{X:Int}(h:IntText l X)(k:IntText m X):l=m:=by
 obtain⟨a,ha,rfl⟩:=h;obtain⟨b,hb,rfl⟩:=k;rw[ha.inj hb]
open Go.RowKit
set_option linter.unusedSimpArgs false
theorem U32.len_dec{w:World}{a:Option Addr}{c:Nat}{l:List Nat}{n k:Nat}(h:U32 w a c l n)(hn:n<10 ^ k):l.length≤4*k:=
 h.len_bits (Nat.lt_of_lt_of_le hn (Qei k))
theorem Qe7(c:UInt8)(h1:48≤c.toNat)(h2:c.toNat≤57):∃d:Nat,d≤9∧c.toNat - 48=d∧(c.toNat:Int)=48+d:=⟨c.toNat - 48,by omega,rfl,by omega⟩
set_option maxRecDepth 100000 in
set_option maxHeartbeats 1000000 in
theorem Qbm(bz:Nat)(s:ByteArray)(w:World)(hs:SB w bz 96 zeroInt)(h0:0<s.size)(hsz:s.size≤1073741824)(hd:AllDigits s.data.toList):
 Calls Tryz.prog 54 #[.pointer (some ⟨bz,0,none⟩),.string s,.int .i64 10] w fun e w'=>e=.returned (.tuple #[.pointer (some ⟨bz,0,none⟩),.bool true])∧∃a cap l,Laid w w' bz 0 96 zeroInt (decVal s.data.toList) a cap l:=by
 have HS:=Hi hs;have HD:=Hi hd;have hd0:=Qc8 hd 0 h0;have q1:((s[0].toNat:Int) == 45)=false:=by rw[beq_eq_false_iff_ne];omega
 have q2:((s[0].toNat:Int) == 43)=false:=by rw[beq_eq_false_iff_ne];omega
 have q3:((s.size:Int) == 0)=false:=by rw[beq_eq_false_iff_ne];omega
 clear hs hd;go_enter Tryz.func54,Tryz.ntmps54;go_wp2;go_loopw [9,10] (fun r i wr=>∃(k:Nat) (a:Option Addr) (cap:Nat) (l:List Nat),k≤s.size∧i=.int .i64 k∧r=.slice a l.length cap∧U32 wr a cap l (decVal (s.data.toList.take k))∧Below w.heap.size w wr) (fun _ i _=>s.size - (intOf i).toNat)
 case atStart=>exact⟨0,none,0,[],by omega,rfl,rfl,⟨Row.nil _ _,by simpa [decVal] using Num.zero _,by simp⟩,Below.refl _ _⟩
 case round=>
  obtain⟨k,a,cap,l,hk,rfl,rfl,hu,hb⟩:=hrel;have HU:=Hi hu;have HB:=Hi hb;clear hu hb;by_cases hlt:k<s.size
  ·
   have hdk:=Qc8 HD.out k hlt;have HT:=Hi (Qc7 s k hlt);obtain⟨d,hd9,hde,hdi⟩:=Qe7 s[k] hdk.1 hdk.2;have HDE:=Hi hde;have b0:(0:Int)≤(k:Int):=by omega
   have b1:(k:Int)<(s.size:Int):=by omega
   clear hde;have e48:(48:Int)+(d:Int) - 48=d:=by omega
   have HDEC:=Hi (Qau _ (HD.out.take k));have hlen:l.length≤4294967296:=by
    have h1:=HU.out.len_dec HDEC.out;have h2:(s.data.toList.take k).length≤k:=by rw[List.length_take];omega
    omega
   clear hdk hd0;go_wp2_with fail;refine(Qa6 10 _ (by decide) (by decide)).mono ?_;rintro e w1 ⟨⟨a1,cap1,r1,rfl,hu1,hr1⟩,hb1⟩;have HU1:=Hi hu1;have HB1:=Hi hb1;clear hu1 hb1;go_wp2_with fail;refine(Qec a a1 cap cap1 l r1 _ _ _ (HU.out.below HB1.out) HU1.out (by omega)).mono ?_;rintro e w2 ⟨⟨a2,cap2,r2,rfl,hu2⟩,hb2⟩;have hr2:r2.length≤l.length+r1.length+1:=HU.out.len_of HU1.out hu2 (.inl (Nat.le_refl _));have HU2:=Hi hu2;have HB2:=Hi hb2;clear hu2 hb2;go_wp2_with fail;refine(Qa6 (d:Int) _ (by omega) (by omega)).mono ?_;rintro e w3 ⟨⟨a3,cap3,r3,rfl,hu3,hr3⟩,hb3⟩;have HU3:=Hi hu3;have HB3:=Hi hb3;clear hu3 hb3;go_wp2_with fail;refine(Qd9 a2 a3 cap2 cap3 r2 r3 _ _ _ (HU2.out.below HB3.out) HU3.out (by omega) (by omega)).mono ?_;rintro e w4 ⟨⟨a4,cap4,r4,rfl,hu4⟩,hb4⟩;have HU4:=Hi hu4;have HB4:=Hi hb4;clear hu4 hb4;go_wp2;go_roundw
   case rel=>
    have s1:=HB.out.size;have s2:=HB1.out.size;have s3:=HB2.out.size;have s4:=HB3.out.size;refine⟨k+1,a4,cap4,r4,by omega,by go_num,rfl,?_,(((HB.out.trans (HB1.out.mono (by omega))).trans (HB2.out.mono (by omega))).trans (HB3.out.mono (by omega))).trans (HB4.out.mono (by omega))⟩;have e:decVal (s.data.toList.take (k+1))=decVal (s.data.toList.take k)*(10:Int).toNat+(d:Int).toNat:=by
     rw[HT.out,Qb9,HDE.out];simp;omega
    rw[e];exact HU4.out
   case measure=>simp[intOf];omega
  ·
   have hk':k=s.size:=by omega
   subst hk';go_wp2_with fail;refine(Qbl bz 0 96 zeroInt false a cap l _ (decVal s.data.toList) _ (HS.out.below HB.out HS.out.lt) Tryz.int_zero (by simp[zeroInt]) HU.out ?_).mono ?_
   · rw[show s.data.toList.take s.size=s.data.toList from List.take_of_length_le (by simp)]
     simp
   rintro e w1 ⟨rfl,hl⟩;have HL:=Hi hl;clear hl;go_wp2;go_ret2;obtain⟨_,a',c',l',hl'⟩:=LaidOk.of (Only.of_below HB.out) ⟨rfl,_,_,_,HL.out⟩;exact⟨rfl,a',c',l',hl'⟩
theorem Qbx{w w':World}{base:Nat}{e:TypeId}{size:Nat}{v:Value}{n:Nat}{xs:List Value}(h:w.ownsRow base e size v n xs)(hb:Below w.heap.size w w'):w'.ownsRow base e size v n xs:=by
 refine⟨h.1,?_⟩;rcases h.2 with h1|⟨g,cap,cur,h1,h2,h3,h4⟩
 · exact .inl h1
 ·
  refine .inr ⟨g,cap,cur,h1,h2,?_,h4⟩;have hlt:g<w.heap.size:=by
   apply Classical.byContradiction;intro hc;rw[Array.getElem?_eq_none (by omega)] at h3;cases h3
  rw[hb.block g hlt];exact h3
def sliceLen:Value→Nat
 | .slice _ n _=>n
 |_=>0
theorem Qfb{w:World}{base:Nat}{e:TypeId}{size:Nat}{v:Value}{n:Nat}{xs:List Value}(h:w.ownsRow base e size v n xs):sliceLen v=n:=by
 rcases h.2 with ⟨rfl,rfl⟩|⟨g,cap,cur,rfl,_⟩<;>rfl
theorem Tryz.info8:(Tryz.prog.info? 5).map (fun i=>(i.zero,i.size,i.bytes))=some (some (.int .u8 0),1,1):=by kernel_rfl
def QText(l:List UInt8)(q:Rat):Prop:=∃m,IntText m q.num∧((q.den=1∧l=m)∨(q.den≠1∧∃d,IsDec d q.den∧l=m++47 :: d))
theorem QText.inj{l m:List UInt8}{q:Rat}(h:QText l q)(k:QText m q):l=m:=by
 obtain⟨a,ha,h⟩:=h;obtain⟨b,hb,k⟩:=k;have:=ha.inj hb;subst this;rcases h with ⟨h1,rfl⟩|⟨h1,d,hd,rfl⟩
 ·
  rcases k with ⟨k1,rfl⟩|⟨k1,_⟩
  · rfl
  · exact absurd h1 k1
 ·
  rcases k with ⟨k1,rfl⟩|⟨k1,e,he,rfl⟩
  · exact absurd k1 h1
  · rw[hd.inj he]
theorem IsDec.len{l:List UInt8}{n K:Nat}(h:IsDec l n)(hn:n<2 ^ K):l.length≤K+1:=by
 rcases h with ⟨_,rfl⟩|⟨_,ds,hd,rfl⟩
 · simp
 · have:=hd.length_le_of_lt (k:=K) (by decide) (Nat.lt_of_lt_of_le hn (Nat.pow_le_pow_left (by decide) K))
   simp;omega
end Go.Proofs.YtbbkamnfjejceaaGreatDoor
namespace Go.Proofs.YtbbkamnfjejceaaGreatDoor
open Go
set_option linter.unusedVariables false
def IsDig(l:List UInt8):Prop:=l≠ []∧AllDigits l
def QForm(t:List UInt8):Prop:=IsDig (Lib.cut t [47]).1∧((Lib.cut t [47]).2.2=true→IsDig (Lib.cut t [47]).2.1∧decVal (Lib.cut t [47]).2.1≠0)
def IsQ(t:List UInt8)(v:Rat):Prop:=(QForm t∧v=mkRat (decVal (Lib.cut t [47]).1:Nat) (if (Lib.cut t [47]).2.2=true then decVal (Lib.cut t [47]).2.1 else 1))∨(¬QForm t∧v=0)
def QOf(l:List UInt8)(q:Rat):Prop:=∃v,IsQ (Lib.trimPrefix l [45]) v∧q=if Lib.hasPrefix l [45]=true then -v else v
theorem IsQ.inj{t:List UInt8}{u v:Rat}(h:IsQ t u)(k:IsQ t v):u=v:=by
 rcases h with ⟨h1,rfl⟩|⟨h1,rfl⟩<;>rcases k with ⟨k1,rfl⟩|⟨k1,rfl⟩
 · rfl
 · exact absurd h1 k1
 · exact absurd k1 h1
 · rfl
theorem QOf.inj{t:List UInt8}{u v:Rat}(h:QOf t u)(k:QOf t v):u=v:=by
 obtain⟨a,ha,rfl⟩:=h;obtain⟨b,hb,rfl⟩:=k;rw[ha.inj hb]
theorem IsQ.ex(t:List UInt8):∃v,IsQ t v:=by
 by_cases h:QForm t
 · exact⟨_,.inl ⟨h,rfl⟩⟩
 · exact⟨_,.inr ⟨h,rfl⟩⟩
theorem QOf.ex(t:List UInt8):∃v,QOf t v:=by
 obtain⟨v,hv⟩:=IsQ.ex (Lib.trimPrefix t [45]);exact⟨_,v,hv,rfl⟩
theorem Fits.mono{q:Rat}{j k:Nat}(h:Fits q j)(hk:j≤k):Fits q k:=
 have:=Nat.pow_le_pow_right (by decide:0<2) hk
 ⟨Nat.lt_of_lt_of_le h.1 this,Nat.lt_of_lt_of_le h.2 this⟩
theorem Fits.zero:Fits 0 1:=⟨by decide,by decide⟩
theorem Fits.mk{a:Int}{b k:Nat}(ha:a.natAbs<2 ^ k)(hb:b<2 ^ k)(hk:0<k):Fits (mkRat a b) k:=by
 by_cases h0:b=0
 ·
  subst h0;rw[Rat.mkRat_zero];exact Fits.zero.mono hk
 constructor
 ·
  rw[Rat.num_mkRat,if_neg h0];refine Nat.lt_of_le_of_lt ?_ ha;exact Int.natAbs_ediv_le_natAbs _ _
 · rw[Rat.den_mkRat,if_neg h0]
   exact Nat.lt_of_le_of_lt (Nat.div_le_self _ _) hb
theorem Fits.neg{q:Rat}{k:Nat}(h:Fits q k):Fits (-q) k:=by
 constructor
 · rw[Rat.neg_num,Int.natAbs_neg];exact h.1
 · rw[Rat.neg_den];exact h.2
theorem Qga(t:List UInt8):(Lib.cut t [47]).1.length≤t.length:=by
 unfold Lib.cut
 split
 · simp;omega
 · simp
theorem Qgb(t:List UInt8):(Lib.cut t [47]).2.1.length≤t.length:=by
 unfold Lib.cut
 split
 · simp
 · simp
theorem Qcv{l:List UInt8}{n:Nat}(h:AllDigits l)(hl:l.length≤n):decVal l<2 ^ (4*n):=
 Nat.lt_of_lt_of_le (Qau l h) (Nat.le_trans (Nat.pow_le_pow_right (by decide) hl) (Qei n))
theorem IsQ.fits{t:List UInt8}{v:Rat}{n:Nat}(h:IsQ t v)(hn:t.length≤n):Fits v (4*n+1):=by
 rcases h with ⟨h,rfl⟩|⟨_,rfl⟩
 ·
  have e:(2:Nat) ^ (4*n)≤2 ^ (4*n+1):=Nat.pow_le_pow_right (by decide) (by omega);have h1:=Qcv h.1.2 (Nat.le_trans (Qga t) hn);refine Fits.mk ?_ ?_ (by omega)
  · rw[Int.natAbs_natCast];omega
  ·
   split
   ·
    rename_i hb;have:=Qcv (h.2 hb).1.2 (Nat.le_trans (Qgb t) hn);omega
   · exact Nat.one_lt_two_pow (by omega)
 · exact Fits.zero.mono (by omega)
theorem Qcw(l p:List UInt8):(Lib.trimPrefix l p).length≤l.length:=by
 unfold Lib.trimPrefix
 split
 · simp
 · simp
theorem QOf.fits{t:List UInt8}{q:Rat}{n:Nat}(h:QOf t q)(hn:t.length≤n):Fits q (4*n+1):=by
 obtain⟨v,hv,rfl⟩:=h;have:=hv.fits (Nat.le_trans (Qcw t [45]) hn)
 split
 · exact this.neg
 · exact this
end Go.Proofs.YtbbkamnfjejceaaGreatDoor
