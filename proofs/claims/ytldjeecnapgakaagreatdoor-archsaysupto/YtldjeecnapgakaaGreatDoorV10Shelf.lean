/- The library's contracts, laid at this program. -/
import Derived.Test.YtldjeecnapgakaaGreatDoorV09IntText
import Derived.Lib.IndexMore
import Derived.Lib.Strings
import Derived.Lib.Split
import Derived.Shelf.Small.Wraps
import Derived.Shelf.Small.Bits
import Derived.Shelf.Strings.Prefix
import Derived.Shelf.Strings.Trim
import Derived.Shelf.Strings.SlTrimAscii
import Derived.Shelf.Strings.Cut
import Derived.Shelf.Strings.Split
import Derived.Shelf.Bits.Mul64
import Derived.Shelf.Spec.BitsCarry
import Derived.Test.YtldjeecnapgakaaGreatDoorProg
namespace Go.Proofs.YtldjeecnapgakaaGreatDoor
open Go.RowKit
open Go.Proofs.Tryz
set_option linter.unusedSimpArgs false
set_option linter.unusedVariables false
set_option maxHeartbeats 8000000
set_option maxRecDepth 1000000
theorem Qr3(b o:Nat)(a:Option Addr)(cap:Nat)(l:List Nat)(w:World)(hx:IntAt w b o 0 a cap l):
 Calls prog 92 #[.pointer (some ⟨b,o,none⟩),.int .i64 10] w fun e w'=>(∃s,e=.returned (.string s)/\IntText s.data.toList 0)/\Below w.heap.size w w':=by
 have k1:=hx.abs;have q1:((l.length:Int) == 0)=true:=by
  have:=(hx.num.num.len_zero (by decide)).1 rfl;simp[this]
 clear hx;go_enter func92,ntmps92;go_wp2;go_ret;exact⟨⟨_,rfl,[48],.inl ⟨rfl,rfl⟩,rfl⟩,Below.refl _ _⟩
theorem Qfj(b o K:Nat)(X:Int)(a:Option Addr)(cap:Nat)(l:List Nat)(w:World)(hx:IntAt w b o X a cap l)(hK:X.natAbs<2 ^ K)(hKK:K<=1099511627776):
 Calls prog 46 #[.pointer (some ⟨b,o,none⟩)] w fun e w'=>(∃s,e=.returned (.string s)/\IntText s.data.toList X)/\Below w.heap.size w w':=by
 have HC:O (Calls prog 92 #[.pointer (some ⟨b,o,none⟩),.int .i64 10] w fun e w'=>(∃s,e=.returned (.string s)/\IntText s.data.toList X)/\Below w.heap.size w w'):=by
  by_cases h0:X=0
  . subst h0;exact Hi (Qr3 b o a cap l w hx)
  . exact Hi (Qoy b o K X a cap l w hx h0 hK hKK)
 clear hx hK;go_enter func46,ntmps46;go_wp2_with fail;refine HC.o.mono ?_;rintro e w1 ⟨⟨s,rfl,hs⟩,hb⟩;obtain⟨HS,HB⟩:=Ia hs hb;clear hs hb HC;go_wp2;go_ret;exact⟨⟨s,rfl,HS.o⟩,HB.o⟩
def QText(l:List UInt8)(q:Rat):Prop:=∃m,IntText m q.num/\((q.den=1/\l=m)∨(q.den≠1/\∃d,IsDec d q.den/\l=m++47 :: d))
theorem QText.inj{l m:List UInt8}{q:Rat}(h:QText l q)(k:QText m q):l=m:=by
 obtain⟨a,ha,h⟩:=h;obtain⟨b,hb,k⟩:=k;have:=ha.inj hb;subst this;rcases h with ⟨h1,rfl⟩|⟨h1,d,hd,rfl⟩
 .
  rcases k with ⟨k1,rfl⟩|⟨k1,_⟩
  . rfl
  . exact absurd h1 k1
 .
  rcases k with ⟨k1,rfl⟩|⟨k1,e,he,rfl⟩
  . exact absurd k1 h1
  . rw[hd.inj he]
theorem IntText.dec{l:List UInt8}{n:Nat}(h:IntText l (n:Int)):IsDec l n:=by
 obtain⟨m,hm,h1⟩:=h;rw[if_neg (by omega)] at h1;subst h1;exact hm
theorem IsDec.len{l:List UInt8}{n K:Nat}(h:IsDec l n)(hn:n<2 ^ K):l.length<=K+1:=by
 rcases h with ⟨_,rfl⟩|⟨_,ds,hd,rfl⟩
 . simp
 . have:=hd.length_le_of_lt (k:=K) (by decide) (Nat.lt_of_lt_of_le hn (Nat.pow_le_pow_left (by decide) K))
   simp;omega
theorem IntText.len{s:ByteArray}{X:Int}{K:Nat}(h:IntText s.data.toList X)(hn:X.natAbs<2 ^ K):s.size<=K+2:=by
 obtain⟨m,hm,h1⟩:=h;have h2:=hm.len hn;have h3:s.data.toList.length<=m.length+1:=by rw[h1];split<;>simp
 have h4:s.data.toList.length=s.size:=by simp
 omega
theorem ref_T(b K:Nat)(q:Rat)(w:World)(hx:RatVal w b q)(hK:Fits q K)(hKK:K<=1099511627776):
 Calls prog 17 #[.pointer (some ⟨b,0,none⟩)] w fun e w'=>(∃s,e=.returned (.string s)/\QText s.data.toList q)/\Below w.heap.size w w':=by
 obtain⟨HX,HK⟩:=Ia hx hK;clear hx hK;by_cases hd:q.den=1
 .
  go_enter func17,ntmps17;go_wp2_with fail;refine(Qi9 b q _ HX.o).mono ?_;rw[show decide (q.den=1)=true by simpa using hd];rintro e w1 ⟨rfl,hb1⟩;have HB1:=Hi hb1;clear hb1;go_wp2_with fail;refine(Qi6 b _).mono ?_;rintro e w2 ⟨rfl,hw⟩;subst hw;go_wp2_with fail;obtain⟨D,a1,c1,l1,a2,c2,l2,h,_⟩:=HX.o.below HB1.o;refine(Qfj b 0 K q.num a1 c1 l1 _ h.upper HK.o.1 hKK).mono ?_;clear h;rintro e w2 ⟨⟨s,rfl,hs⟩,hb2⟩;obtain⟨HS,HB2⟩:=Ia hs hb2;clear hs hb2;go_wp2;go_ret;exact⟨⟨s,rfl,s.data.toList,HS.o,.inl ⟨hd,rfl⟩⟩,HB1.o.trans (HB2.o.mono HB1.o.size)⟩
 .
  go_enter func17,ntmps17;go_wp2_with fail;refine(Qi9 b q _ HX.o).mono ?_;rw[show decide (q.den=1)=false by simpa using hd];rintro e w1 ⟨rfl,hb1⟩;have HB1:=Hi hb1;clear hb1;go_wp2_with fail;refine(Qi6 b _).mono ?_;rintro e w2 ⟨rfl,hw⟩;subst hw;go_wp2_with fail;obtain⟨D,a1,c1,l1,a2,c2,l2,h,_⟩:=HX.o.below HB1.o;refine(Qfj b 0 K q.num a1 c1 l1 _ h.upper HK.o.1 hKK).mono ?_;clear h;rintro e w2 ⟨⟨s,rfl,hs⟩,hb2⟩;obtain⟨HS,HB2⟩:=Ia hs hb2;have hsz:=hs.len HK.o.1;clear hs hb2;go_wp2_with fail;refine(Qrs b q _ ((HX.o.below HB1.o).below HB2.o)).mono ?_;rintro e w3 ⟨⟨b',a',cap',l',rfl,hi⟩,hb3⟩;obtain⟨HI,HB3⟩:=Ia hi hb3;clear hi hb3;go_wp2_with fail;refine(Qfj b' 0 K q.den a' cap' l' _ HI.o (by rw[Int.natAbs_natCast];exact HK.o.2) hKK).mono ?_;rintro e w4 ⟨⟨s',rfl,hs⟩,hb4⟩;have HS':=Hi hs;have hsz':=hs.len (K:=K) (by rw[Int.natAbs_natCast];exact HK.o.2)
  have HB4:=Hi hb4;clear hs hb4;go_wp2;go_ret;have e1:=HB1.o.size;have e2:=HB2.o.size;have e3:=HB3.o.size;refine⟨⟨_,rfl,s.data.toList,HS.o,.inr ⟨hd,s'.data.toList,HS'.o.dec,?_⟩⟩,((HB1.o.trans (HB2.o.mono (by omega))).trans (HB3.o.mono (by omega))).trans (HB4.o.mono (by omega))⟩;simp[ByteArray.data_append]
end Go.Proofs.YtldjeecnapgakaaGreatDoor
namespace Go.Proofs.YtldjeecnapgakaaGreatDoor
open Go
open Go.Proofs.Tryz
set_option linter.unusedSimpArgs false
set_option linter.unusedVariables false
set_option maxHeartbeats 8000000
set_option maxRecDepth 1000000
def IsDig(l:List UInt8):Prop:=l≠ []/\AllDigits l
def QForm(t:List UInt8):Prop:=IsDig (Lib.cut t [47]).1/\((Lib.cut t [47]).2.2=true->IsDig (Lib.cut t [47]).2.1/\decVal (Lib.cut t [47]).2.1≠0)
def IsQ(t:List UInt8)(v:Rat):Prop:=(QForm t/\v=mkRat (decVal (Lib.cut t [47]).1:Nat) (if (Lib.cut t [47]).2.2=true then decVal (Lib.cut t [47]).2.1 else 1))∨(¬QForm t/\v=0)
def QOf(l:List UInt8)(q:Rat):Prop:=∃v,IsQ (Lib.trimPrefix l [45]) v/\q=if Lib.hasPrefix l [45]=true then -v else v
theorem IsQ.inj{t:List UInt8}{u v:Rat}(h:IsQ t u)(k:IsQ t v):u=v:=by
 rcases h with ⟨h1,rfl⟩|⟨h1,rfl⟩<;>rcases k with ⟨k1,rfl⟩|⟨k1,rfl⟩
 . rfl
 . exact absurd h1 k1
 . exact absurd k1 h1
 . rfl
theorem QOf.inj{t:List UInt8}{u v:Rat}(h:QOf t u)(k:QOf t v):u=v:=by
 obtain⟨a,ha,rfl⟩:=h;obtain⟨b,hb,rfl⟩:=k;rw[ha.inj hb]
theorem IsQ.ex(t:List UInt8):∃v,IsQ t v:=by
 by_cases h:QForm t
 . exact⟨_,.inl ⟨h,rfl⟩⟩
 . exact⟨_,.inr ⟨h,rfl⟩⟩
theorem QOf.ex(t:List UInt8):∃v,QOf t v:=by
 obtain⟨v,hv⟩:=IsQ.ex (Lib.trimPrefix t [45]);exact⟨_,v,hv,rfl⟩
theorem Fits.mono{q:Rat}{j k:Nat}(h:Fits q j)(hk:j<=k):Fits q k:=
 have:=Nat.pow_le_pow_right (by decide:0<2) hk
 ⟨Nat.lt_of_lt_of_le h.1 this,Nat.lt_of_lt_of_le h.2 this⟩
theorem Fits.zero:Fits 0 1:=⟨by decide,by decide⟩
theorem Fits.mk{a:Int}{b k:Nat}(ha:a.natAbs<2 ^ k)(hb:b<2 ^ k)(hk:0<k):Fits (mkRat a b) k:=by
 by_cases h0:b=0
 .
  subst h0;rw[Rat.mkRat_zero];exact Fits.zero.mono hk
 constructor
 .
  rw[Rat.num_mkRat,if_neg h0];refine Nat.lt_of_le_of_lt ?_ ha;exact Int.natAbs_ediv_le_natAbs _ _
 . rw[Rat.den_mkRat,if_neg h0]
   exact Nat.lt_of_le_of_lt (Nat.div_le_self _ _) hb
theorem Fits.neg{q:Rat}{k:Nat}(h:Fits q k):Fits (-q) k:=by
 constructor
 . rw[Rat.neg_num,Int.natAbs_neg];exact h.1
 . rw[Rat.neg_den];exact h.2
theorem Qi0(t:List UInt8):(Lib.cut t [47]).1.length<=t.length:=by
 unfold Lib.cut
 split
 . simp;omega
 . simp
theorem Qi1(t:List UInt8):(Lib.cut t [47]).2.1.length<=t.length:=by
 unfold Lib.cut
 split
 . simp
 . simp
theorem Qdu{l:List UInt8}{n:Nat}(h:AllDigits l)(hl:l.length<=n):decVal l<2 ^ (4*n):=
 Nat.lt_of_lt_of_le (Qa1 l h) (Nat.le_trans (Nat.pow_le_pow_right (by decide) hl) (Qg3 n))
theorem IsQ.fits{t:List UInt8}{v:Rat}{n:Nat}(h:IsQ t v)(hn:t.length<=n):Fits v (4*n+1):=by
 rcases h with ⟨h,rfl⟩|⟨_,rfl⟩
 .
  have e:(2:Nat) ^ (4*n)<=2 ^ (4*n+1):=Nat.pow_le_pow_right (by decide) (by omega);have h1:=Qdu h.1.2 (Nat.le_trans (Qi0 t) hn);refine Fits.mk ?_ ?_ (by omega)
  . rw[Int.natAbs_natCast];omega
  .
   split
   .
    rename_i hb;have:=Qdu (h.2 hb).1.2 (Nat.le_trans (Qi1 t) hn);omega
   . exact Nat.one_lt_two_pow (by omega)
 . exact Fits.zero.mono (by omega)
theorem Qdv(l p:List UInt8):(Lib.trimPrefix l p).length<=l.length:=by
 unfold Lib.trimPrefix
 split
 . simp
 . simp
theorem QOf.fits{t:List UInt8}{q:Rat}{n:Nat}(h:QOf t q)(hn:t.length<=n):Fits q (4*n+1):=by
 obtain⟨v,hv,rfl⟩:=h;have:=hv.fits (Nat.le_trans (Qdv t [45]) hn)
 split
 . exact this.neg
 . exact this
end Go.Proofs.YtldjeecnapgakaaGreatDoor
namespace Go.Proofs
open Go.Shelf
def Tryz.lays99_ren:Go.Shelf.Ren:=⟨fun|99=>48|206=>94|n=>n,fun|9=>9|4=>4|3=>3|n=>n,fun|n=>n⟩
theorem Tryz.lays99:Go.Proofs.Lays.n99 Tryz.prog Tryz.lays99_ren:={
 mixed:=by kernel_rfl
 f99:=Tryz.func48.trans (congrArg some (by kernel_rfl))
 f206:=Tryz.func94.trans (congrArg some (by kernel_rfl))
 t3:=Tryz.underlying3
 a3:=Tryz.isAgg3
 z3:=Tryz.sizeOf3
 v3:=Tryz.zeroValue3
 t4:=Tryz.underlying4
 a4:=Tryz.isAgg4
 z4:=Tryz.sizeOf4
 v4:=Tryz.zeroValue4
 t9:=Tryz.underlying9
 a9:=Tryz.isAgg9
 z9:=Tryz.sizeOf9
 v9:=Tryz.zeroValue9 }
def Tryz.lays147_ren:Go.Shelf.Ren:=⟨fun|147=>49|221=>95|268=>134|138=>135|143=>136|195=>160|197=>138|218=>161|219=>156|260=>162|217=>182|225=>183|224=>184|267=>185|266=>194|314=>195|n=>n,fun|9=>9|3=>3|31=>93|4=>4|0=>0|105=>172|21=>21|5=>5|46=>175|119=>213|139=>216|138=>215|146=>219|51=>166|n=>n,fun|1=>1|3=>2|4=>3|n=>n⟩
theorem Tryz.lays147:Go.Proofs.Lays.n147 Tryz.prog Tryz.lays147_ren:={
 mixed:=by kernel_rfl
 f138:=Tryz.func135.trans (congrArg some (by kernel_rfl))
 f143:=Tryz.func136.trans (congrArg some (by kernel_rfl))
 f147:=Tryz.func49.trans (congrArg some (by kernel_rfl))
 f195:=Tryz.func160.trans (congrArg some (by kernel_rfl))
 f197:=Tryz.func138.trans (congrArg some (by kernel_rfl))
 f217:=Tryz.func182.trans (congrArg some (by kernel_rfl))
 f218:=Tryz.func161.trans (congrArg some (by kernel_rfl))
 f219:=Tryz.func156.trans (congrArg some (by kernel_rfl))
 f221:=Tryz.func95.trans (congrArg some (by kernel_rfl))
 f224:=Tryz.func184.trans (congrArg some (by kernel_rfl))
 f225:=Tryz.func183.trans (congrArg some (by kernel_rfl))
 f260:=Tryz.func162.trans (congrArg some (by kernel_rfl))
 f266:=Tryz.func194.trans (congrArg some (by kernel_rfl))
 f267:=Tryz.func185.trans (congrArg some (by kernel_rfl))
 f268:=Tryz.func134.trans (congrArg some (by kernel_rfl))
 f314:=Tryz.func195.trans (congrArg some (by kernel_rfl))
 t0:=Tryz.underlying0
 a0:=Tryz.isAgg0
 z0:=Tryz.sizeOf0
 v0:=Tryz.zeroValue0
 t3:=Tryz.underlying3
 a3:=Tryz.isAgg3
 z3:=Tryz.sizeOf3
 v3:=Tryz.zeroValue3
 t4:=Tryz.underlying4
 a4:=Tryz.isAgg4
 z4:=Tryz.sizeOf4
 v4:=Tryz.zeroValue4
 t5:=Tryz.underlying5
 a5:=Tryz.isAgg5
 z5:=Tryz.sizeOf5
 v5:=Tryz.zeroValue5
 t9:=Tryz.underlying9
 a9:=Tryz.isAgg9
 z9:=Tryz.sizeOf9
 v9:=Tryz.zeroValue9
 t21:=Tryz.underlying21
 a21:=Tryz.isAgg21
 z21:=Tryz.sizeOf21
 v21:=Tryz.zeroValue21
 t31:=Tryz.underlying93
 a31:=Tryz.isAgg93
 z31:=Tryz.sizeOf93
 v31:=Tryz.zeroValue93
 t46:=Tryz.underlying175
 a46:=Tryz.isAgg175
 z46:=Tryz.sizeOf175
 v46:=Tryz.zeroValue175
 t51:=Tryz.underlying166
 a51:=Tryz.isAgg166
 z51:=Tryz.sizeOf166
 v51:=Tryz.zeroValue166
 t105:=Tryz.underlying172
 a105:=Tryz.isAgg172
 z105:=Tryz.sizeOf172
 v105:=Tryz.zeroValue172
 t119:=Tryz.underlying213
 a119:=Tryz.isAgg213
 z119:=Tryz.sizeOf213
 t138:=Tryz.underlying215
 a138:=Tryz.isAgg215
 z138:=Tryz.sizeOf215
 v138:=Tryz.zeroValue215
 t139:=Tryz.underlying216
 a139:=Tryz.isAgg216
 z139:=Tryz.sizeOf216
 v139:=Tryz.zeroValue216
 t146:=Tryz.underlying219
 a146:=Tryz.isAgg219
 z146:=Tryz.sizeOf219
 v146:=Tryz.zeroValue219
 g1:=by kernel_rfl
 g3:=by kernel_rfl
 g4:=by kernel_rfl }
def Tryz.lays160_ren:Go.Shelf.Ren:=⟨fun|160=>51|232=>97|231=>96|227=>98|234=>100|233=>99|236=>102|235=>101|228=>137|271=>140|151=>139|197=>138|120=>164|152=>163|260=>162|137=>186|119=>187|224=>184|225=>183|217=>182|266=>194|n=>n,fun|9=>9|4=>4|3=>3|5=>5|117=>138|116=>137|0=>0|124=>141|21=>21|105=>172|46=>175|119=>213|139=>216|138=>215|n=>n,fun|3=>2|4=>3|n=>n⟩
theorem Tryz.lays160:Go.Proofs.Lays.n160 Tryz.prog Tryz.lays160_ren:={
 mixed:=by kernel_rfl
 f119:=Tryz.func187.trans (congrArg some (by kernel_rfl))
 f120:=Tryz.func164.trans (congrArg some (by kernel_rfl))
 f137:=Tryz.func186.trans (congrArg some (by kernel_rfl))
 f151:=Tryz.func139.trans (congrArg some (by kernel_rfl))
 f152:=Tryz.func163.trans (congrArg some (by kernel_rfl))
 f160:=Tryz.func51.trans (congrArg some (by kernel_rfl))
 f197:=Tryz.func138.trans (congrArg some (by kernel_rfl))
 f217:=Tryz.func182.trans (congrArg some (by kernel_rfl))
 f224:=Tryz.func184.trans (congrArg some (by kernel_rfl))
 f225:=Tryz.func183.trans (congrArg some (by kernel_rfl))
 f227:=Tryz.func98.trans (congrArg some (by kernel_rfl))
 f228:=Tryz.func137.trans (congrArg some (by kernel_rfl))
 f231:=Tryz.func96.trans (congrArg some (by kernel_rfl))
 f232:=Tryz.func97.trans (congrArg some (by kernel_rfl))
 f233:=Tryz.func99.trans (congrArg some (by kernel_rfl))
 f234:=Tryz.func100.trans (congrArg some (by kernel_rfl))
 f235:=Tryz.func101.trans (congrArg some (by kernel_rfl))
 f236:=Tryz.func102.trans (congrArg some (by kernel_rfl))
 f260:=Tryz.func162.trans (congrArg some (by kernel_rfl))
 f266:=Tryz.func194.trans (congrArg some (by kernel_rfl))
 f271:=Tryz.func140.trans (congrArg some (by kernel_rfl))
 t0:=Tryz.underlying0
 a0:=Tryz.isAgg0
 z0:=Tryz.sizeOf0
 v0:=Tryz.zeroValue0
 t3:=Tryz.underlying3
 a3:=Tryz.isAgg3
 z3:=Tryz.sizeOf3
 v3:=Tryz.zeroValue3
 t4:=Tryz.underlying4
 a4:=Tryz.isAgg4
 z4:=Tryz.sizeOf4
 v4:=Tryz.zeroValue4
 t5:=Tryz.underlying5
 a5:=Tryz.isAgg5
 z5:=Tryz.sizeOf5
 v5:=Tryz.zeroValue5
 t9:=Tryz.underlying9
 a9:=Tryz.isAgg9
 z9:=Tryz.sizeOf9
 v9:=Tryz.zeroValue9
 t21:=Tryz.underlying21
 a21:=Tryz.isAgg21
 z21:=Tryz.sizeOf21
 v21:=Tryz.zeroValue21
 t46:=Tryz.underlying175
 a46:=Tryz.isAgg175
 z46:=Tryz.sizeOf175
 v46:=Tryz.zeroValue175
 t105:=Tryz.underlying172
 a105:=Tryz.isAgg172
 z105:=Tryz.sizeOf172
 v105:=Tryz.zeroValue172
 t116:=Tryz.underlying137
 a116:=Tryz.isAgg137
 z116:=Tryz.sizeOf137
 t117:=Tryz.underlying138
 a117:=Tryz.isAgg138
 z117:=Tryz.sizeOf138
 v117:=Tryz.zeroValue138
 t119:=Tryz.underlying213
 a119:=Tryz.isAgg213
 z119:=Tryz.sizeOf213
 t124:=Tryz.underlying141
 a124:=Tryz.isAgg141
 z124:=Tryz.sizeOf141
 v124:=Tryz.zeroValue141
 t138:=Tryz.underlying215
 a138:=Tryz.isAgg215
 z138:=Tryz.sizeOf215
 v138:=Tryz.zeroValue215
 t139:=Tryz.underlying216
 a139:=Tryz.isAgg216
 z139:=Tryz.sizeOf216
 v139:=Tryz.zeroValue216
 g3:=by kernel_rfl
 g4:=by kernel_rfl }
def Tryz.lays161_ren:Go.Shelf.Ren:=⟨fun|161=>125|231=>96|227=>98|233=>99|235=>101|228=>137|197=>138|151=>139|260=>162|152=>163|137=>186|119=>187|224=>184|225=>183|217=>182|266=>194|n=>n,fun|9=>9|4=>4|3=>3|5=>5|117=>138|116=>137|0=>0|124=>141|105=>172|21=>21|119=>213|46=>175|139=>216|138=>215|n=>n,fun|3=>2|4=>3|n=>n⟩
theorem Tryz.lays161:Go.Proofs.Lays.n161 Tryz.prog Tryz.lays161_ren:={
 mixed:=by kernel_rfl
 f119:=Tryz.func187.trans (congrArg some (by kernel_rfl))
 f137:=Tryz.func186.trans (congrArg some (by kernel_rfl))
 f151:=Tryz.func139.trans (congrArg some (by kernel_rfl))
 f152:=Tryz.func163.trans (congrArg some (by kernel_rfl))
 f161:=Tryz.func125.trans (congrArg some (by kernel_rfl))
 f197:=Tryz.func138.trans (congrArg some (by kernel_rfl))
 f217:=Tryz.func182.trans (congrArg some (by kernel_rfl))
 f224:=Tryz.func184.trans (congrArg some (by kernel_rfl))
 f225:=Tryz.func183.trans (congrArg some (by kernel_rfl))
 f227:=Tryz.func98.trans (congrArg some (by kernel_rfl))
 f228:=Tryz.func137.trans (congrArg some (by kernel_rfl))
 f231:=Tryz.func96.trans (congrArg some (by kernel_rfl))
 f233:=Tryz.func99.trans (congrArg some (by kernel_rfl))
 f235:=Tryz.func101.trans (congrArg some (by kernel_rfl))
 f260:=Tryz.func162.trans (congrArg some (by kernel_rfl))
 f266:=Tryz.func194.trans (congrArg some (by kernel_rfl))
 t0:=Tryz.underlying0
 a0:=Tryz.isAgg0
 z0:=Tryz.sizeOf0
 v0:=Tryz.zeroValue0
 t3:=Tryz.underlying3
 a3:=Tryz.isAgg3
 z3:=Tryz.sizeOf3
 v3:=Tryz.zeroValue3
 t4:=Tryz.underlying4
 a4:=Tryz.isAgg4
 z4:=Tryz.sizeOf4
 v4:=Tryz.zeroValue4
 t5:=Tryz.underlying5
 a5:=Tryz.isAgg5
 z5:=Tryz.sizeOf5
 v5:=Tryz.zeroValue5
 t9:=Tryz.underlying9
 a9:=Tryz.isAgg9
 z9:=Tryz.sizeOf9
 v9:=Tryz.zeroValue9
 t21:=Tryz.underlying21
 a21:=Tryz.isAgg21
 z21:=Tryz.sizeOf21
 v21:=Tryz.zeroValue21
 t46:=Tryz.underlying175
 a46:=Tryz.isAgg175
 z46:=Tryz.sizeOf175
 v46:=Tryz.zeroValue175
 t105:=Tryz.underlying172
 a105:=Tryz.isAgg172
 z105:=Tryz.sizeOf172
 v105:=Tryz.zeroValue172
 t116:=Tryz.underlying137
 a116:=Tryz.isAgg137
 z116:=Tryz.sizeOf137
 t117:=Tryz.underlying138
 a117:=Tryz.isAgg138
 z117:=Tryz.sizeOf138
 v117:=Tryz.zeroValue138
 t119:=Tryz.underlying213
 a119:=Tryz.isAgg213
 z119:=Tryz.sizeOf213
 t124:=Tryz.underlying141
 a124:=Tryz.isAgg141
 z124:=Tryz.sizeOf141
 v124:=Tryz.zeroValue141
 t138:=Tryz.underlying215
 a138:=Tryz.isAgg215
 z138:=Tryz.sizeOf215
 v138:=Tryz.zeroValue215
 t139:=Tryz.underlying216
 a139:=Tryz.isAgg216
 z139:=Tryz.sizeOf216
 v139:=Tryz.zeroValue216
 g3:=by kernel_rfl
 g4:=by kernel_rfl }
def Tryz.lays145_ren:Go.Shelf.Ren:=⟨fun|145=>77|220=>124|219=>156|217=>182|225=>183|224=>184|267=>185|266=>194|314=>195|n=>n,fun|9=>9|4=>4|59=>122|3=>3|5=>5|46=>175|146=>219|51=>166|n=>n,fun|1=>1|n=>n⟩
theorem Tryz.lays145:Go.Proofs.Lays.n145 Tryz.prog Tryz.lays145_ren:={
 mixed:=by kernel_rfl
 f145:=Tryz.func77.trans (congrArg some (by kernel_rfl))
 f217:=Tryz.func182.trans (congrArg some (by kernel_rfl))
 f219:=Tryz.func156.trans (congrArg some (by kernel_rfl))
 f220:=Tryz.func124.trans (congrArg some (by kernel_rfl))
 f224:=Tryz.func184.trans (congrArg some (by kernel_rfl))
 f225:=Tryz.func183.trans (congrArg some (by kernel_rfl))
 f266:=Tryz.func194.trans (congrArg some (by kernel_rfl))
 f267:=Tryz.func185.trans (congrArg some (by kernel_rfl))
 f314:=Tryz.func195.trans (congrArg some (by kernel_rfl))
 t3:=Tryz.underlying3
 a3:=Tryz.isAgg3
 z3:=Tryz.sizeOf3
 v3:=Tryz.zeroValue3
 t4:=Tryz.underlying4
 a4:=Tryz.isAgg4
 z4:=Tryz.sizeOf4
 v4:=Tryz.zeroValue4
 t5:=Tryz.underlying5
 a5:=Tryz.isAgg5
 z5:=Tryz.sizeOf5
 v5:=Tryz.zeroValue5
 t9:=Tryz.underlying9
 a9:=Tryz.isAgg9
 z9:=Tryz.sizeOf9
 v9:=Tryz.zeroValue9
 t46:=Tryz.underlying175
 a46:=Tryz.isAgg175
 z46:=Tryz.sizeOf175
 v46:=Tryz.zeroValue175
 t51:=Tryz.underlying166
 a51:=Tryz.isAgg166
 z51:=Tryz.sizeOf166
 v51:=Tryz.zeroValue166
 t59:=Tryz.underlying122
 a59:=Tryz.isAgg122
 z59:=Tryz.sizeOf122
 v59:=Tryz.zeroValue122
 t146:=Tryz.underlying219
 a146:=Tryz.isAgg219
 z146:=Tryz.sizeOf219
 v146:=Tryz.zeroValue219
 g1:=by kernel_rfl }
def Tryz.lays103_ren:Go.Shelf.Ren:=⟨fun|103=>76|210=>123|206=>94|n=>n,fun|9=>9|4=>4|24=>120|3=>3|n=>n,fun|n=>n⟩
theorem Tryz.lays103:Go.Proofs.Lays.n103 Tryz.prog Tryz.lays103_ren:={
 mixed:=by kernel_rfl
 f103:=Tryz.func76.trans (congrArg some (by kernel_rfl))
 f206:=Tryz.func94.trans (congrArg some (by kernel_rfl))
 f210:=Tryz.func123.trans (congrArg some (by kernel_rfl))
 t3:=Tryz.underlying3
 a3:=Tryz.isAgg3
 z3:=Tryz.sizeOf3
 v3:=Tryz.zeroValue3
 t4:=Tryz.underlying4
 a4:=Tryz.isAgg4
 z4:=Tryz.sizeOf4
 v4:=Tryz.zeroValue4
 t9:=Tryz.underlying9
 a9:=Tryz.isAgg9
 z9:=Tryz.sizeOf9
 v9:=Tryz.zeroValue9
 t24:=Tryz.underlying120
 a24:=Tryz.isAgg120
 z24:=Tryz.sizeOf120
 v24:=Tryz.zeroValue120 }
def Tryz.lays134_ren:Go.Shelf.Ren:=⟨fun|134=>172|129=>188|n=>n,fun|53=>119|3=>3|4=>4|46=>175|5=>5|9=>9|n=>n,fun|n=>n⟩
theorem Tryz.lays134:Go.Proofs.Lays.n134 Tryz.prog Tryz.lays134_ren:={
 mixed:=by kernel_rfl
 f129:=Tryz.func188.trans (congrArg some (by kernel_rfl))
 f134:=Tryz.func172.trans (congrArg some (by kernel_rfl))
 t3:=Tryz.underlying3
 a3:=Tryz.isAgg3
 z3:=Tryz.sizeOf3
 v3:=Tryz.zeroValue3
 t4:=Tryz.underlying4
 a4:=Tryz.isAgg4
 z4:=Tryz.sizeOf4
 v4:=Tryz.zeroValue4
 t5:=Tryz.underlying5
 a5:=Tryz.isAgg5
 z5:=Tryz.sizeOf5
 v5:=Tryz.zeroValue5
 t9:=Tryz.underlying9
 a9:=Tryz.isAgg9
 z9:=Tryz.sizeOf9
 v9:=Tryz.zeroValue9
 t46:=Tryz.underlying175
 a46:=Tryz.isAgg175
 z46:=Tryz.sizeOf175
 v46:=Tryz.zeroValue175
 t53:=Tryz.underlying119
 a53:=Tryz.isAgg119
 z53:=Tryz.sizeOf119
 v53:=Tryz.zeroValue119 }
def Tryz.lays264_ren:Go.Shelf.Ren:=⟨fun|264=>158|n=>n,fun|53=>119|46=>175|n=>n,fun|n=>n⟩
theorem Tryz.lays264:Go.Proofs.Lays.n264 Tryz.prog Tryz.lays264_ren:={
 mixed:=by kernel_rfl
 f264:=Tryz.func158.trans (congrArg some (by kernel_rfl))
 t46:=Tryz.underlying175
 a46:=Tryz.isAgg175
 z46:=Tryz.sizeOf175
 v46:=Tryz.zeroValue175
 t53:=Tryz.underlying119
 a53:=Tryz.isAgg119
 z53:=Tryz.sizeOf119
 v53:=Tryz.zeroValue119 }
def Tryz.lays25_ren:Go.Shelf.Ren:=⟨fun|25=>159|n=>n,fun|22=>119|n=>n,fun|n=>n⟩
theorem Tryz.lays25:Go.Proofs.Lays7.n25 Tryz.prog Tryz.lays25_ren:={
 mixed:=by kernel_rfl
 f25:=Tryz.func159.trans (congrArg some (by kernel_rfl))
 t22:=Tryz.underlying119
 a22:=Tryz.isAgg119
 z22:=Tryz.sizeOf119
 v22:=Tryz.zeroValue119
 i22:=by kernel_rfl }
def Tryz.lays26_ren:Go.Shelf.Ren:=⟨fun|26=>178|n=>n,fun|22=>119|n=>n,fun|n=>n⟩
theorem Tryz.lays26:Go.Proofs.Lays7.n26 Tryz.prog Tryz.lays26_ren:={
 mixed:=by kernel_rfl
 f26:=Tryz.func178.trans (congrArg some (by kernel_rfl))
 t22:=Tryz.underlying119
 a22:=Tryz.isAgg119
 z22:=Tryz.sizeOf119
 v22:=Tryz.zeroValue119
 i22:=by kernel_rfl }
end Go.Proofs
