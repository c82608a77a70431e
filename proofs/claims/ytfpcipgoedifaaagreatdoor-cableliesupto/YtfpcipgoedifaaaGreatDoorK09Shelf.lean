/- The library's contracts, laid at this program. -/
import Derived.Test.YtfpcipgoedifaaaGreatDoorK08RatSmall
import Derived.Deep.AppendLies
import Derived.Laws.BytesArg
import Derived.Lib.IndexMore
import Derived.Lib.Strings
import Derived.Lib.Split
import Derived.Shelf.Small.Wraps
import Derived.Shelf.Small.Bits
import Derived.Shelf.Strings.Prefix
import Derived.Shelf.Strings.Trim
import Derived.Shelf.Strings.SlTrimAscii
import Derived.Shelf.Strings.Cut
import Derived.Shelf.Strings.Split
import Derived.Shelf.Bits.Mul64
import Derived.Shelf.Spec.BitsCarry
import Derived.Test.YtfpcipgoedifaaaGreatDoorProg
namespace Go.Proofs.YtfpcipgoedifaaaGreatDoor
set_option linter.unusedVariables false
def decVal(l:List UInt8):Nat:=l.foldl (fun a c=>10*a+(c.toNat - 48)) 0
theorem Qn5(l:List UInt8)(a:Nat):l.foldl (fun a c=>10*a+(c.toNat - 48)) a=a*10 ^ l.length+decVal l:=by
 induction l generalizing a with
 |nil=>simp[decVal]
 |cons c l ih=>
  unfold decVal;rw[List.foldl_cons,List.foldl_cons,ih,ih (10*0+(c.toNat - 48)),List.length_cons,Nat.pow_succ,Nat.add_mul,Nat.mul_comm 10 a,Nat.mul_assoc,Nat.mul_comm 10 (10 ^ l.length),Nat.mul_zero,Nat.zero_add];omega
theorem Qbz(l m:List UInt8):decVal (l++m)=decVal l*10 ^ m.length+decVal m:=by
 conv=>lhs;unfold decVal
 rw[List.foldl_append];exact Qn5 m _
theorem Qda(l:List UInt8)(c:UInt8):decVal (l++ [c])=10*decVal l+(c.toNat - 48):=by
 unfold decVal;rw[List.foldl_append];rfl
def AllDigits(l:List UInt8):Prop:=∀c,c∈ l→48≤c.toNat∧c.toNat≤57
theorem Qaz(l:List UInt8)(h:AllDigits l):decVal l<10 ^ l.length:=by
 induction l with
 |nil=>simp[decVal]
 |cons c l ih=>
  have h1:=h c (List.mem_cons_self ..);have h2:=ih fun d hd=>h d (List.mem_cons_of_mem _ hd)
  have e:decVal (c :: l)=(c.toNat - 48)*10 ^ l.length+decVal l:=by
   have:=Qbz [c] l
   simpa [decVal] using this
  rw[e,List.length_cons,Nat.pow_succ];have:(c.toNat - 48)*10 ^ l.length≤9*10 ^ l.length:=Nat.mul_le_mul_right _ (by omega);omega
theorem Qhr(k:Nat):10 ^ k≤2 ^ (4*k):=by
 rw[Nat.pow_mul];exact Nat.pow_le_pow_left (by decide) k
theorem Qe2(s:ByteArray)(k:Nat)(h:k<s.size):s.data.toList.take (k+1)=s.data.toList.take k++ [s[k]]:=by
 rw[List.take_succ_eq_append_getElem (by simpa using h)];rfl
theorem Qe3{s:ByteArray}(hd:AllDigits s.data.toList)(k:Nat)(h:k<s.size):48≤s[k].toNat∧s[k].toNat≤57:=
 hd _ (List.mem_iff_getElem.2 ⟨k,by simpa using h,rfl⟩)
theorem AllDigits.take{l:List UInt8}(h:AllDigits l)(k:Nat):AllDigits (l.take k):=fun c hc=>h c (List.mem_of_mem_take hc)
def IsDec(l:List UInt8)(n:Nat):Prop:=(n=0∧l= [48])∨(n≠0∧∃ds,Num 10 ds n∧l=ds.reverse.map (fun d=>UInt8.ofNat (48+d)))
theorem IsDec.inj{l m:List UInt8}{n:Nat}(h:IsDec l n)(k:IsDec m n):l=m:=by
 rcases h with ⟨h0,rfl⟩|⟨h0,ds,h,rfl⟩
 ·
  rcases k with ⟨k0,rfl⟩|⟨k0,es,k,rfl⟩
  · rfl
  · omega
 ·
  rcases k with ⟨k0,rfl⟩|⟨k0,es,k,rfl⟩
  · omega
  · rw[h.inj (by decide) k]
def IntText(l:List UInt8)(X:Int):Prop:=∃m,IsDec m X.natAbs∧l=if X<0 then 45 :: m else m
theorem IntText.inj{l m:List UInt8}{X:Int}(h:IntText l X)(k:IntText m X):l=m:=by
 obtain⟨a,ha,rfl⟩:=h;obtain⟨b,hb,rfl⟩:=k;rw[ha.inj hb]
open Go.RowKit
set_option linter.unusedSimpArgs false
theorem U32.len_dec{w:World}{a:Option Addr}{c:Nat}{l:List Nat}{n k:Nat}(h:U32 w a c l n)(hn:n<10 ^ k):l.length<=4*k:=
 h.len_bits (Nat.lt_of_lt_of_le hn (Qhr k))
theorem Qif(c:UInt8)(h1:48<=c.toNat)(h2:c.toNat<=57):∃d:Nat,d<=9/\c.toNat - 48=d/\(c.toNat:Int)=48+d:=⟨c.toNat - 48,by omega,rfl,by omega⟩
set_option maxRecDepth 100000 in
set_option maxHeartbeats 1000000 in
theorem Qb5(bz:Nat)(s:ByteArray)(w:World)(hs:SB w bz 53 zeroInt)(h0:0<s.size)(hsz:s.size<=1073741824)(hd:AllDigits s.data.toList):
 Calls Tryz.prog 33 #[.pointer (some ⟨bz,0,none⟩),.string s,.int .i64 10] w fun e w'=>e=.returned (.tuple #[.pointer (some ⟨bz,0,none⟩),.bool true])/\∃a cap l,Laid w w' bz 0 53 zeroInt (decVal s.data.toList) a cap l:=by
 have HS:=Hi hs;have HD:=Hi hd;have hd0:=Qe3 hd 0 h0;have q1:((s[0].toNat:Int) == 45)=false:=by rw[beq_eq_false_iff_ne];omega
 have q2:((s[0].toNat:Int) == 43)=false:=by rw[beq_eq_false_iff_ne];omega
 have q3:((s.size:Int) == 0)=false:=by rw[beq_eq_false_iff_ne];omega
 clear hs hd;go_enter Tryz.func33,Tryz.ntmps33;go_wp2;go_loopw [9,10] (fun r i wr=>∃(k:Nat) (a:Option Addr) (cap:Nat) (l:List Nat),k<=s.size/\i=.int .i64 k/\r=.slice a l.length cap/\U32 wr a cap l (decVal (s.data.toList.take k))/\Below w.heap.size w wr) (fun _ i _=>s.size - (intOf i).toNat)
 case atStart=>exact⟨0,none,0,[],by omega,rfl,rfl,⟨Row.nil _ _,by simpa [decVal] using Num.zero _,by simp⟩,Below.refl _ _⟩
 case round=>
  obtain⟨k,a,cap,l,hk,rfl,rfl,hu,hb⟩:=hrel;have HU:=Hi hu;have HB:=Hi hb;clear hu hb;by_cases hlt:k<s.size
  ·
   have hdk:=Qe3 HD.out k hlt;have HT:=Hi (Qe2 s k hlt);obtain⟨d,hd9,hde,hdi⟩:=Qif s[k] hdk.1 hdk.2;have HDE:=Hi hde;have b0:(0:Int)<=(k:Int):=by omega
   have b1:(k:Int)<(s.size:Int):=by omega
   clear hde;have e48:(48:Int)+(d:Int) - 48=d:=by omega
   have HDEC:=Hi (Qaz _ (HD.out.take k));have hlen:l.length<=4294967296:=by
    have h1:=HU.out.len_dec HDEC.out;have h2:(s.data.toList.take k).length<=k:=by rw[List.length_take];omega
    omega
   clear hdk hd0;go_wp2_with fail;refine(Qbi 10 _ (by decide) (by decide)).mono ?_;rintro e w1 ⟨⟨a1,cap1,r1,rfl,hu1,hr1⟩,hb1⟩;have HU1:=Hi hu1;have HB1:=Hi hb1;clear hu1 hb1;go_wp2_with fail;refine(Qgl a a1 cap cap1 l r1 _ _ _ (HU.out.below HB1.out) HU1.out (by omega)).mono ?_;rintro e w2 ⟨⟨a2,cap2,r2,rfl,hu2⟩,hb2⟩;have hr2:r2.length<=l.length+r1.length+1:=HU.out.len_of HU1.out hu2 (.inl lZ);have HU2:=Hi hu2;have HB2:=Hi hb2;clear hu2 hb2;go_wp2_with fail;refine(Qbi (d:Int) _ (by omega) (by omega)).mono ?_;rintro e w3 ⟨⟨a3,cap3,r3,rfl,hu3,hr3⟩,hb3⟩;have HU3:=Hi hu3;have HB3:=Hi hb3;clear hu3 hb3;go_wp2_with fail;refine(Qgi a2 a3 cap2 cap3 r2 r3 _ _ _ (HU2.out.below HB3.out) HU3.out (by omega) (by omega)).mono ?_;rintro e w4 ⟨⟨a4,cap4,r4,rfl,hu4⟩,hb4⟩;have HU4:=Hi hu4;have HB4:=Hi hb4;clear hu4 hb4;go_wp2;go_roundw
   case rel=>
    have s1:=HB.out.size;have s2:=HB1.out.size;have s3:=HB2.out.size;have s4:=HB3.out.size;refine⟨k+1,a4,cap4,r4,by omega,by go_num,rfl,?_,(((HB.out.trans (HB1.out.mono (by omega))).trans (HB2.out.mono (by omega))).trans (HB3.out.mono (by omega))).trans (HB4.out.mono (by omega))⟩;have e:decVal (s.data.toList.take (k+1))=decVal (s.data.toList.take k)*(10:Int).toNat+(d:Int).toNat:=by
     rw[HT.out,Qda,HDE.out];simp;omega
    rw[e];exact HU4.out
   case measure=>simp[intOf];omega
  ·
   have hk':k=s.size:=by omega
   subst hk';go_wp2_with fail;refine(Qbo bz 0 53 zeroInt false a cap l _ (decVal s.data.toList) _ (HS.out.below HB.out HS.out.lt) Tryz.int_zero (by simp[zeroInt]) HU.out ?_).mono ?_
   · rw[show s.data.toList.take s.size=s.data.toList from List.take_of_length_le (by simp)]
     simp
   rintro e w1 ⟨rfl,hl⟩;have HL:=Hi hl;clear hl;go_wp2;go_ret2;obtain⟨_,a',c',l',hl'⟩:=LaidOk.of (Only.of_below HB.out) ⟨rfl,_,_,_,HL.out⟩;exact⟨rfl,a',c',l',hl'⟩
theorem Qcj{w w':World}{base:Nat}{e:TypeId}{size:Nat}{v:Value}{n:Nat}{xs:List Value}(h:w.ownsRow base e size v n xs)(hb:Below w.heap.size w w'):w'.ownsRow base e size v n xs:=by
 refine⟨h.1,?_⟩;rcases h.2 with h1|⟨g,cap,cur,h1,h2,h3,h4⟩
 · exact .inl h1
 ·
  refine .inr ⟨g,cap,cur,h1,h2,?_,h4⟩;have hlt:g<w.heap.size:=by
   apply bC;intro hc;rw[Array.getElem?_eq_none (by omega)] at h3;cases h3
  rw[hb.block g hlt];exact h3
def sliceLen:Value->Nat
 | .slice _ n _=>n
 |_=>0
theorem Qik{w:World}{base:Nat}{e:TypeId}{size:Nat}{v:Value}{n:Nat}{xs:List Value}(h:w.ownsRow base e size v n xs):sliceLen v=n:=by
 rcases h.2 with ⟨rfl,rfl⟩|⟨g,cap,cur,rfl,_⟩<;>rfl
theorem Tryz.info8:(Tryz.prog.info? 5).map (fun i=>(i.zero,i.size,i.bytes))=some (some (.int .u8 0),1,1):=by kernel_rfl
def QText(l:List UInt8)(q:Rat):Prop:=∃m,IntText m q.num/\((q.den=1/\l=m)∨(q.den≠1/\∃d,IsDec d q.den/\l=m++47 :: d))
theorem QText.inj{l m:List UInt8}{q:Rat}(h:QText l q)(k:QText m q):l=m:=by
 obtain⟨a,ha,h⟩:=h;obtain⟨b,hb,k⟩:=k;have:=ha.inj hb;subst this;rcases h with ⟨h1,rfl⟩|⟨h1,d,hd,rfl⟩
 ·
  rcases k with ⟨k1,rfl⟩|⟨k1,_⟩
  · rfl
  · exact absurd h1 k1
 ·
  rcases k with ⟨k1,rfl⟩|⟨k1,e,he,rfl⟩
  · exact absurd k1 h1
  · rw[hd.inj he]
end Go.Proofs.YtfpcipgoedifaaaGreatDoor
namespace Go.Proofs.YtfpcipgoedifaaaGreatDoor
open Go
set_option linter.unusedVariables false
def IsDig(l:List UInt8):Prop:=l≠ []/\AllDigits l
def QForm(t:List UInt8):Prop:=IsDig (Lib.cut t [47]).1/\((Lib.cut t [47]).2.2=true->IsDig (Lib.cut t [47]).2.1/\decVal (Lib.cut t [47]).2.1≠0)
def IsQ(t:List UInt8)(v:Rat):Prop:=(QForm t/\v=mkRat (decVal (Lib.cut t [47]).1:Nat) (if (Lib.cut t [47]).2.2=true then decVal (Lib.cut t [47]).2.1 else 1))∨(¬QForm t/\v=0)
def QOf(l:List UInt8)(q:Rat):Prop:=∃v,IsQ (Lib.trimPrefix l [45]) v/\q=if Lib.hasPrefix l [45]=true then -v else v
theorem IsQ.inj{t:List UInt8}{u v:Rat}(h:IsQ t u)(k:IsQ t v):u=v:=by
 rcases h with ⟨h1,rfl⟩|⟨h1,rfl⟩<;>rcases k with ⟨k1,rfl⟩|⟨k1,rfl⟩
 · rfl
 · exact absurd h1 k1
 · exact absurd k1 h1
 · rfl
theorem QOf.inj{t:List UInt8}{u v:Rat}(h:QOf t u)(k:QOf t v):u=v:=by
 obtain⟨a,ha,rfl⟩:=h;obtain⟨b,hb,rfl⟩:=k;rw[ha.inj hb]
theorem IsQ.ex(t:List UInt8):∃v,IsQ t v:=by
 by_cases h:QForm t
 · exact⟨_,.inl ⟨h,rfl⟩⟩
 · exact⟨_,.inr ⟨h,rfl⟩⟩
theorem QOf.ex(t:List UInt8):∃v,QOf t v:=by
 obtain⟨v,hv⟩:=IsQ.ex (Lib.trimPrefix t [45]);exact⟨_,v,hv,rfl⟩
theorem Fits.mono{q:Rat}{j k:Nat}(h:Fits q j)(hk:j<=k):Fits q k:=
 have:=Nat.pow_le_pow_right (by decide:0<2) hk
 ⟨Nat.lt_of_lt_of_le h.1 this,Nat.lt_of_lt_of_le h.2 this⟩
theorem Fits.zero:Fits 0 1:=⟨by decide,by decide⟩
theorem Fits.mk{a:Int}{b k:Nat}(ha:a.natAbs<2 ^ k)(hb:b<2 ^ k)(hk:0<k):Fits (mkRat a b) k:=by
 by_cases h0:b=0
 ·
  subst h0;rw[Rat.mkRat_zero];exact Fits.zero.mono hk
 constructor
 ·
  rw[Rat.num_mkRat,if_neg h0];refine Nat.lt_of_le_of_lt ?_ ha;exact Int.natAbs_ediv_le_natAbs _ _
 · rw[Rat.den_mkRat,if_neg h0]
   exact Nat.lt_of_le_of_lt (Nat.div_le_self _ _) hb
theorem Fits.neg{q:Rat}{k:Nat}(h:Fits q k):Fits (-q) k:=by
 constructor
 · rw[Rat.neg_num,Int.natAbs_neg];exact h.1
 · rw[Rat.neg_den];exact h.2
theorem Qjt(t:List UInt8):(Lib.cut t [47]).1.length<=t.length:=by
 unfold Lib.cut
 split
 · simp;omega
 · simp
theorem Qju(t:List UInt8):(Lib.cut t [47]).2.1.length<=t.length:=by
 unfold Lib.cut
 split
 · simp
 · simp
theorem Qd3{l:List UInt8}{n:Nat}(h:AllDigits l)(hl:l.length<=n):decVal l<2 ^ (4*n):=
 Nat.lt_of_lt_of_le (Qaz l h) (Nat.le_trans (Nat.pow_le_pow_right (by decide) hl) (Qhr n))
theorem IsQ.fits{t:List UInt8}{v:Rat}{n:Nat}(h:IsQ t v)(hn:t.length<=n):Fits v (4*n+1):=by
 rcases h with ⟨h,rfl⟩|⟨_,rfl⟩
 ·
  have e:(2:Nat) ^ (4*n)<=2 ^ (4*n+1):=Nat.pow_le_pow_right (by decide) (by omega);have h1:=Qd3 h.1.2 (Nat.le_trans (Qjt t) hn);refine Fits.mk ?_ ?_ (by omega)
  · rw[Int.natAbs_natCast];omega
  ·
   split
   ·
    rename_i hb;have:=Qd3 (h.2 hb).1.2 (Nat.le_trans (Qju t) hn);omega
   · exact Nat.one_lt_two_pow (by omega)
 · exact Fits.zero.mono (by omega)
theorem Qd4(l p:List UInt8):(Lib.trimPrefix l p).length<=l.length:=by
 unfold Lib.trimPrefix
 split
 · simp
 · simp
theorem QOf.fits{t:List UInt8}{q:Rat}{n:Nat}(h:QOf t q)(hn:t.length<=n):Fits q (4*n+1):=by
 obtain⟨v,hv,rfl⟩:=h;have:=hv.fits (Nat.le_trans (Qd4 t [45]) hn)
 split
 · exact this.neg
 · exact this
end Go.Proofs.YtfpcipgoedifaaaGreatDoor
namespace Go.Proofs
open Go.Shelf
def Tryz.lays99_ren:Go.Shelf.Ren:=⟨fun|99=>29|206=>57|n=>n,fun|9=>9|4=>4|3=>3|n=>n,fun|n=>n⟩
theorem Tryz.lays99:Go.Proofs.Lays.n99 Tryz.prog Tryz.lays99_ren:={
 mixed:=by kernel_rfl
 f99:=Tryz.func29.trans (congrArg some (by kernel_rfl))
 f206:=Tryz.func57.trans (congrArg some (by kernel_rfl))
 t3:=Tryz.underlying3
 a3:=Tryz.isAgg3
 z3:=Tryz.sizeOf3
 v3:=Tryz.zeroValue3
 t4:=Tryz.underlying4
 a4:=Tryz.isAgg4
 z4:=Tryz.sizeOf4
 v4:=Tryz.zeroValue4
 t9:=Tryz.underlying9
 a9:=Tryz.isAgg9
 z9:=Tryz.sizeOf9
 v9:=Tryz.zeroValue9 }
def Tryz.lays147_ren:Go.Shelf.Ren:=⟨fun|147=>30|221=>58|268=>102|138=>103|143=>104|195=>144|197=>106|218=>145|219=>146|260=>147|217=>173|225=>174|224=>175|267=>176|266=>185|314=>186|n=>n,fun|9=>9|3=>3|31=>81|4=>4|0=>0|105=>152|21=>21|5=>5|46=>156|119=>214|139=>217|138=>216|146=>225|51=>155|n=>n,fun|1=>0|3=>1|4=>2|n=>n⟩
theorem Tryz.lays147:Go.Proofs.Lays.n147 Tryz.prog Tryz.lays147_ren:={
 mixed:=by kernel_rfl
 f138:=Tryz.func103.trans (congrArg some (by kernel_rfl))
 f143:=Tryz.func104.trans (congrArg some (by kernel_rfl))
 f147:=Tryz.func30.trans (congrArg some (by kernel_rfl))
 f195:=Tryz.func144.trans (congrArg some (by kernel_rfl))
 f197:=Tryz.func106.trans (congrArg some (by kernel_rfl))
 f217:=Tryz.func173.trans (congrArg some (by kernel_rfl))
 f218:=Tryz.func145.trans (congrArg some (by kernel_rfl))
 f219:=Tryz.func146.trans (congrArg some (by kernel_rfl))
 f221:=Tryz.func58.trans (congrArg some (by kernel_rfl))
 f224:=Tryz.func175.trans (congrArg some (by kernel_rfl))
 f225:=Tryz.func174.trans (congrArg some (by kernel_rfl))
 f260:=Tryz.func147.trans (congrArg some (by kernel_rfl))
 f266:=Tryz.func185.trans (congrArg some (by kernel_rfl))
 f267:=Tryz.func176.trans (congrArg some (by kernel_rfl))
 f268:=Tryz.func102.trans (congrArg some (by kernel_rfl))
 f314:=Tryz.func186.trans (congrArg some (by kernel_rfl))
 t0:=Tryz.underlying0
 a0:=Tryz.isAgg0
 z0:=Tryz.sizeOf0
 v0:=Tryz.zeroValue0
 t3:=Tryz.underlying3
 a3:=Tryz.isAgg3
 z3:=Tryz.sizeOf3
 v3:=Tryz.zeroValue3
 t4:=Tryz.underlying4
 a4:=Tryz.isAgg4
 z4:=Tryz.sizeOf4
 v4:=Tryz.zeroValue4
 t5:=Tryz.underlying5
 a5:=Tryz.isAgg5
 z5:=Tryz.sizeOf5
 v5:=Tryz.zeroValue5
 t9:=Tryz.underlying9
 a9:=Tryz.isAgg9
 z9:=Tryz.sizeOf9
 v9:=Tryz.zeroValue9
 t21:=Tryz.underlying21
 a21:=Tryz.isAgg21
 z21:=Tryz.sizeOf21
 v21:=Tryz.zeroValue21
 t31:=Tryz.underlying81
 a31:=Tryz.isAgg81
 z31:=Tryz.sizeOf81
 v31:=Tryz.zeroValue81
 t46:=Tryz.underlying156
 a46:=Tryz.isAgg156
 z46:=Tryz.sizeOf156
 v46:=Tryz.zeroValue156
 t51:=Tryz.underlying155
 a51:=Tryz.isAgg155
 z51:=Tryz.sizeOf155
 v51:=Tryz.zeroValue155
 t105:=Tryz.underlying152
 a105:=Tryz.isAgg152
 z105:=Tryz.sizeOf152
 v105:=Tryz.zeroValue152
 t119:=Tryz.underlying214
 a119:=Tryz.isAgg214
 z119:=Tryz.sizeOf214
 t138:=Tryz.underlying216
 a138:=Tryz.isAgg216
 z138:=Tryz.sizeOf216
 v138:=Tryz.zeroValue216
 t139:=Tryz.underlying217
 a139:=Tryz.isAgg217
 z139:=Tryz.sizeOf217
 v139:=Tryz.zeroValue217
 t146:=Tryz.underlying225
 a146:=Tryz.isAgg225
 z146:=Tryz.sizeOf225
 v146:=Tryz.zeroValue225
 g1:=by kernel_rfl
 g3:=by kernel_rfl
 g4:=by kernel_rfl }
def Tryz.lays160_ren:Go.Shelf.Ren:=⟨fun|160=>32|232=>60|231=>59|227=>61|234=>63|233=>62|236=>65|235=>64|228=>105|271=>108|151=>107|197=>106|120=>149|152=>148|260=>147|137=>177|119=>178|224=>175|225=>174|217=>173|266=>185|n=>n,fun|9=>9|4=>4|3=>3|5=>5|117=>117|116=>116|0=>0|124=>120|21=>21|105=>152|46=>156|119=>214|139=>217|138=>216|n=>n,fun|3=>1|4=>2|n=>n⟩
theorem Tryz.lays160:Go.Proofs.Lays.n160 Tryz.prog Tryz.lays160_ren:={
 mixed:=by kernel_rfl
 f119:=Tryz.func178.trans (congrArg some (by kernel_rfl))
 f120:=Tryz.func149.trans (congrArg some (by kernel_rfl))
 f137:=Tryz.func177.trans (congrArg some (by kernel_rfl))
 f151:=Tryz.func107.trans (congrArg some (by kernel_rfl))
 f152:=Tryz.func148.trans (congrArg some (by kernel_rfl))
 f160:=Tryz.func32.trans (congrArg some (by kernel_rfl))
 f197:=Tryz.func106.trans (congrArg some (by kernel_rfl))
 f217:=Tryz.func173.trans (congrArg some (by kernel_rfl))
 f224:=Tryz.func175.trans (congrArg some (by kernel_rfl))
 f225:=Tryz.func174.trans (congrArg some (by kernel_rfl))
 f227:=Tryz.func61.trans (congrArg some (by kernel_rfl))
 f228:=Tryz.func105.trans (congrArg some (by kernel_rfl))
 f231:=Tryz.func59.trans (congrArg some (by kernel_rfl))
 f232:=Tryz.func60.trans (congrArg some (by kernel_rfl))
 f233:=Tryz.func62.trans (congrArg some (by kernel_rfl))
 f234:=Tryz.func63.trans (congrArg some (by kernel_rfl))
 f235:=Tryz.func64.trans (congrArg some (by kernel_rfl))
 f236:=Tryz.func65.trans (congrArg some (by kernel_rfl))
 f260:=Tryz.func147.trans (congrArg some (by kernel_rfl))
 f266:=Tryz.func185.trans (congrArg some (by kernel_rfl))
 f271:=Tryz.func108.trans (congrArg some (by kernel_rfl))
 t0:=Tryz.underlying0
 a0:=Tryz.isAgg0
 z0:=Tryz.sizeOf0
 v0:=Tryz.zeroValue0
 t3:=Tryz.underlying3
 a3:=Tryz.isAgg3
 z3:=Tryz.sizeOf3
 v3:=Tryz.zeroValue3
 t4:=Tryz.underlying4
 a4:=Tryz.isAgg4
 z4:=Tryz.sizeOf4
 v4:=Tryz.zeroValue4
 t5:=Tryz.underlying5
 a5:=Tryz.isAgg5
 z5:=Tryz.sizeOf5
 v5:=Tryz.zeroValue5
 t9:=Tryz.underlying9
 a9:=Tryz.isAgg9
 z9:=Tryz.sizeOf9
 v9:=Tryz.zeroValue9
 t21:=Tryz.underlying21
 a21:=Tryz.isAgg21
 z21:=Tryz.sizeOf21
 v21:=Tryz.zeroValue21
 t46:=Tryz.underlying156
 a46:=Tryz.isAgg156
 z46:=Tryz.sizeOf156
 v46:=Tryz.zeroValue156
 t105:=Tryz.underlying152
 a105:=Tryz.isAgg152
 z105:=Tryz.sizeOf152
 v105:=Tryz.zeroValue152
 t116:=Tryz.underlying116
 a116:=Tryz.isAgg116
 z116:=Tryz.sizeOf116
 t117:=Tryz.underlying117
 a117:=Tryz.isAgg117
 z117:=Tryz.sizeOf117
 v117:=Tryz.zeroValue117
 t119:=Tryz.underlying214
 a119:=Tryz.isAgg214
 z119:=Tryz.sizeOf214
 t124:=Tryz.underlying120
 a124:=Tryz.isAgg120
 z124:=Tryz.sizeOf120
 v124:=Tryz.zeroValue120
 t138:=Tryz.underlying216
 a138:=Tryz.isAgg216
 z138:=Tryz.sizeOf216
 v138:=Tryz.zeroValue216
 t139:=Tryz.underlying217
 a139:=Tryz.isAgg217
 z139:=Tryz.sizeOf217
 v139:=Tryz.zeroValue217
 g3:=by kernel_rfl
 g4:=by kernel_rfl }
def Tryz.lays161_ren:Go.Shelf.Ren:=⟨fun|161=>134|231=>59|227=>61|233=>62|235=>64|228=>105|197=>106|151=>107|260=>147|152=>148|137=>177|119=>178|224=>175|225=>174|217=>173|266=>185|n=>n,fun|9=>9|4=>4|3=>3|5=>5|117=>117|116=>116|0=>0|124=>120|105=>152|21=>21|119=>214|46=>156|139=>217|138=>216|n=>n,fun|3=>1|4=>2|n=>n⟩
theorem Tryz.lays161:Go.Proofs.Lays.n161 Tryz.prog Tryz.lays161_ren:={
 mixed:=by kernel_rfl
 f119:=Tryz.func178.trans (congrArg some (by kernel_rfl))
 f137:=Tryz.func177.trans (congrArg some (by kernel_rfl))
 f151:=Tryz.func107.trans (congrArg some (by kernel_rfl))
 f152:=Tryz.func148.trans (congrArg some (by kernel_rfl))
 f161:=Tryz.func134.trans (congrArg some (by kernel_rfl))
 f197:=Tryz.func106.trans (congrArg some (by kernel_rfl))
 f217:=Tryz.func173.trans (congrArg some (by kernel_rfl))
 f224:=Tryz.func175.trans (congrArg some (by kernel_rfl))
 f225:=Tryz.func174.trans (congrArg some (by kernel_rfl))
 f227:=Tryz.func61.trans (congrArg some (by kernel_rfl))
 f228:=Tryz.func105.trans (congrArg some (by kernel_rfl))
 f231:=Tryz.func59.trans (congrArg some (by kernel_rfl))
 f233:=Tryz.func62.trans (congrArg some (by kernel_rfl))
 f235:=Tryz.func64.trans (congrArg some (by kernel_rfl))
 f260:=Tryz.func147.trans (congrArg some (by kernel_rfl))
 f266:=Tryz.func185.trans (congrArg some (by kernel_rfl))
 t0:=Tryz.underlying0
 a0:=Tryz.isAgg0
 z0:=Tryz.sizeOf0
 v0:=Tryz.zeroValue0
 t3:=Tryz.underlying3
 a3:=Tryz.isAgg3
 z3:=Tryz.sizeOf3
 v3:=Tryz.zeroValue3
 t4:=Tryz.underlying4
 a4:=Tryz.isAgg4
 z4:=Tryz.sizeOf4
 v4:=Tryz.zeroValue4
 t5:=Tryz.underlying5
 a5:=Tryz.isAgg5
 z5:=Tryz.sizeOf5
 v5:=Tryz.zeroValue5
 t9:=Tryz.underlying9
 a9:=Tryz.isAgg9
 z9:=Tryz.sizeOf9
 v9:=Tryz.zeroValue9
 t21:=Tryz.underlying21
 a21:=Tryz.isAgg21
 z21:=Tryz.sizeOf21
 v21:=Tryz.zeroValue21
 t46:=Tryz.underlying156
 a46:=Tryz.isAgg156
 z46:=Tryz.sizeOf156
 v46:=Tryz.zeroValue156
 t105:=Tryz.underlying152
 a105:=Tryz.isAgg152
 z105:=Tryz.sizeOf152
 v105:=Tryz.zeroValue152
 t116:=Tryz.underlying116
 a116:=Tryz.isAgg116
 z116:=Tryz.sizeOf116
 t117:=Tryz.underlying117
 a117:=Tryz.isAgg117
 z117:=Tryz.sizeOf117
 v117:=Tryz.zeroValue117
 t119:=Tryz.underlying214
 a119:=Tryz.isAgg214
 z119:=Tryz.sizeOf214
 t124:=Tryz.underlying120
 a124:=Tryz.isAgg120
 z124:=Tryz.sizeOf120
 v124:=Tryz.zeroValue120
 t138:=Tryz.underlying216
 a138:=Tryz.isAgg216
 z138:=Tryz.sizeOf216
 v138:=Tryz.zeroValue216
 t139:=Tryz.underlying217
 a139:=Tryz.isAgg217
 z139:=Tryz.sizeOf217
 v139:=Tryz.zeroValue217
 g3:=by kernel_rfl
 g4:=by kernel_rfl }
def Tryz.lays145_ren:Go.Shelf.Ren:=⟨fun|145=>92|220=>133|219=>146|217=>173|225=>174|224=>175|267=>176|266=>185|314=>186|n=>n,fun|9=>9|4=>4|59=>140|3=>3|5=>5|46=>156|146=>225|51=>155|n=>n,fun|1=>0|n=>n⟩
theorem Tryz.lays145:Go.Proofs.Lays.n145 Tryz.prog Tryz.lays145_ren:={
 mixed:=by kernel_rfl
 f145:=Tryz.func92.trans (congrArg some (by kernel_rfl))
 f217:=Tryz.func173.trans (congrArg some (by kernel_rfl))
 f219:=Tryz.func146.trans (congrArg some (by kernel_rfl))
 f220:=Tryz.func133.trans (congrArg some (by kernel_rfl))
 f224:=Tryz.func175.trans (congrArg some (by kernel_rfl))
 f225:=Tryz.func174.trans (congrArg some (by kernel_rfl))
 f266:=Tryz.func185.trans (congrArg some (by kernel_rfl))
 f267:=Tryz.func176.trans (congrArg some (by kernel_rfl))
 f314:=Tryz.func186.trans (congrArg some (by kernel_rfl))
 t3:=Tryz.underlying3
 a3:=Tryz.isAgg3
 z3:=Tryz.sizeOf3
 v3:=Tryz.zeroValue3
 t4:=Tryz.underlying4
 a4:=Tryz.isAgg4
 z4:=Tryz.sizeOf4
 v4:=Tryz.zeroValue4
 t5:=Tryz.underlying5
 a5:=Tryz.isAgg5
 z5:=Tryz.sizeOf5
 v5:=Tryz.zeroValue5
 t9:=Tryz.underlying9
 a9:=Tryz.isAgg9
 z9:=Tryz.sizeOf9
 v9:=Tryz.zeroValue9
 t46:=Tryz.underlying156
 a46:=Tryz.isAgg156
 z46:=Tryz.sizeOf156
 v46:=Tryz.zeroValue156
 t51:=Tryz.underlying155
 a51:=Tryz.isAgg155
 z51:=Tryz.sizeOf155
 v51:=Tryz.zeroValue155
 t59:=Tryz.underlying140
 a59:=Tryz.isAgg140
 z59:=Tryz.sizeOf140
 v59:=Tryz.zeroValue140
 t146:=Tryz.underlying225
 a146:=Tryz.isAgg225
 z146:=Tryz.sizeOf225
 v146:=Tryz.zeroValue225
 g1:=by kernel_rfl }
def Tryz.lays103_ren:Go.Shelf.Ren:=⟨fun|103=>91|210=>132|206=>57|n=>n,fun|9=>9|4=>4|24=>138|3=>3|n=>n,fun|n=>n⟩
theorem Tryz.lays103:Go.Proofs.Lays.n103 Tryz.prog Tryz.lays103_ren:={
 mixed:=by kernel_rfl
 f103:=Tryz.func91.trans (congrArg some (by kernel_rfl))
 f206:=Tryz.func57.trans (congrArg some (by kernel_rfl))
 f210:=Tryz.func132.trans (congrArg some (by kernel_rfl))
 t3:=Tryz.underlying3
 a3:=Tryz.isAgg3
 z3:=Tryz.sizeOf3
 v3:=Tryz.zeroValue3
 t4:=Tryz.underlying4
 a4:=Tryz.isAgg4
 z4:=Tryz.sizeOf4
 v4:=Tryz.zeroValue4
 t9:=Tryz.underlying9
 a9:=Tryz.isAgg9
 z9:=Tryz.sizeOf9
 v9:=Tryz.zeroValue9
 t24:=Tryz.underlying138
 a24:=Tryz.isAgg138
 z24:=Tryz.sizeOf138
 v24:=Tryz.zeroValue138 }
def Tryz.lays134_ren:Go.Shelf.Ren:=⟨fun|134=>159|129=>180|n=>n,fun|53=>123|3=>3|4=>4|46=>156|5=>5|9=>9|n=>n,fun|n=>n⟩
theorem Tryz.lays134:Go.Proofs.Lays.n134 Tryz.prog Tryz.lays134_ren:={
 mixed:=by kernel_rfl
 f129:=Tryz.func180.trans (congrArg some (by kernel_rfl))
 f134:=Tryz.func159.trans (congrArg some (by kernel_rfl))
 t3:=Tryz.underlying3
 a3:=Tryz.isAgg3
 z3:=Tryz.sizeOf3
 v3:=Tryz.zeroValue3
 t4:=Tryz.underlying4
 a4:=Tryz.isAgg4
 z4:=Tryz.sizeOf4
 v4:=Tryz.zeroValue4
 t5:=Tryz.underlying5
 a5:=Tryz.isAgg5
 z5:=Tryz.sizeOf5
 v5:=Tryz.zeroValue5
 t9:=Tryz.underlying9
 a9:=Tryz.isAgg9
 z9:=Tryz.sizeOf9
 v9:=Tryz.zeroValue9
 t46:=Tryz.underlying156
 a46:=Tryz.isAgg156
 z46:=Tryz.sizeOf156
 v46:=Tryz.zeroValue156
 t53:=Tryz.underlying123
 a53:=Tryz.isAgg123
 z53:=Tryz.sizeOf123
 v53:=Tryz.zeroValue123 }
def Tryz.lays264_ren:Go.Shelf.Ren:=⟨fun|264=>168|n=>n,fun|53=>123|46=>156|n=>n,fun|n=>n⟩
theorem Tryz.lays264:Go.Proofs.Lays.n264 Tryz.prog Tryz.lays264_ren:={
 mixed:=by kernel_rfl
 f264:=Tryz.func168.trans (congrArg some (by kernel_rfl))
 t46:=Tryz.underlying156
 a46:=Tryz.isAgg156
 z46:=Tryz.sizeOf156
 v46:=Tryz.zeroValue156
 t53:=Tryz.underlying123
 a53:=Tryz.isAgg123
 z53:=Tryz.sizeOf123
 v53:=Tryz.zeroValue123 }
def Tryz.lays25_ren:Go.Shelf.Ren:=⟨fun|25=>165|n=>n,fun|22=>123|n=>n,fun|n=>n⟩
theorem Tryz.lays25:Go.Proofs.Lays7.n25 Tryz.prog Tryz.lays25_ren:={
 mixed:=by kernel_rfl
 f25:=Tryz.func165.trans (congrArg some (by kernel_rfl))
 t22:=Tryz.underlying123
 a22:=Tryz.isAgg123
 z22:=Tryz.sizeOf123
 v22:=Tryz.zeroValue123
 i22:=by kernel_rfl }
def Tryz.lays26_ren:Go.Shelf.Ren:=⟨fun|26=>167|n=>n,fun|22=>123|n=>n,fun|n=>n⟩
theorem Tryz.lays26:Go.Proofs.Lays7.n26 Tryz.prog Tryz.lays26_ren:={
 mixed:=by kernel_rfl
 f26:=Tryz.func167.trans (congrArg some (by kernel_rfl))
 t22:=Tryz.underlying123
 a22:=Tryz.isAgg123
 z22:=Tryz.sizeOf123
 v22:=Tryz.zeroValue123
 i22:=by kernel_rfl }
end Go.Proofs
