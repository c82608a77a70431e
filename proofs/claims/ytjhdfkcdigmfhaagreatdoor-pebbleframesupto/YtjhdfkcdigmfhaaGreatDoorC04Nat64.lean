/- num's words: natOfWord, trim, isOne, word, compareNats; the library's sums of words. -/
import Derived.Test.YtjhdfkcdigmfhaaGreatDoorC03IntText
import Derived.Lib.IndexMore
import Derived.Lib.Strings
import Derived.Lib.Split
import Derived.Shelf.Small.Wraps
import Derived.Shelf.Small.Bits
import Derived.Shelf.Strings.Prefix
import Derived.Shelf.Strings.Trim
import Derived.Shelf.Strings.SlTrimAscii
import Derived.Shelf.Strings.Cut
import Derived.Shelf.Strings.Split
import Derived.Shelf.Bits.Mul64
import Derived.Shelf.Spec.BitsCarry
import Derived.Test.YtjhdfkcdigmfhaaGreatDoorProg
namespace Go.Proofs.YtjhdfkcdigmfhaaGreatDoor
open Go.RowKit
set_option linter.unusedVariables false
set_option linter.unusedSimpArgs false
def QText(l:List UInt8)(q:Rat):Prop:=∃m,IntText m q.num∧((q.den=1∧l=m)∨(q.den≠1∧∃d,IsDec d q.den∧l=m++47 :: d))
theorem QText.inj{l m:List UInt8}{q:Rat}(h:QText l q)(k:QText m q):l=m:=by
 obtain⟨a,ha,h⟩:=h
 obtain⟨b,hb,k⟩:=k
 have:=ha.inj hb
 subst this
 rcases h with ⟨h1,rfl⟩|⟨h1,d,hd,rfl⟩
 ·
  rcases k with ⟨k1,rfl⟩|⟨k1,_⟩
  · rfl
  · exact absurd h1 k1
 ·
  rcases k with ⟨k1,rfl⟩|⟨k1,e,he,rfl⟩
  · exact absurd k1 h1
  · rw[hd.inj he]
end Go.Proofs.YtjhdfkcdigmfhaaGreatDoor
namespace Go.Proofs.YtjhdfkcdigmfhaaGreatDoor
open Go
set_option linter.unusedVariables false
def IsDig(l:List UInt8):Prop:=l≠ []∧AllDigits l
def QForm(t:List UInt8):Prop:=IsDig (Lib.cut t [47]).1∧((Lib.cut t [47]).2.2=true→IsDig (Lib.cut t [47]).2.1∧decVal (Lib.cut t [47]).2.1≠0)
def IsQ(t:List UInt8)(v:Rat):Prop:=(QForm t∧v=mkRat (decVal (Lib.cut t [47]).1:Nat) (if (Lib.cut t [47]).2.2=true then decVal (Lib.cut t [47]).2.1 else 1))∨(¬QForm t∧v=0)
def QOf(l:List UInt8)(q:Rat):Prop:=∃v,IsQ (Lib.trimPrefix l [45]) v∧q=if Lib.hasPrefix l [45]=true then -v else v
theorem IsQ.inj{t:List UInt8}{u v:Rat}(h:IsQ t u)(k:IsQ t v):u=v:=by
 rcases h with ⟨h1,rfl⟩|⟨h1,rfl⟩<;>rcases k with ⟨k1,rfl⟩|⟨k1,rfl⟩
 · rfl
 · exact absurd h1 k1
 · exact absurd k1 h1
 · rfl
theorem QOf.inj{t:List UInt8}{u v:Rat}(h:QOf t u)(k:QOf t v):u=v:=by
 obtain⟨a,ha,rfl⟩:=h
 obtain⟨b,hb,rfl⟩:=k
 rw[ha.inj hb]
theorem IsQ.ex(t:List UInt8):∃v,IsQ t v:=by
 by_cases h:QForm t
 · exact⟨_,.inl ⟨h,rfl⟩⟩
 · exact⟨_,.inr ⟨h,rfl⟩⟩
theorem QOf.ex(t:List UInt8):∃v,QOf t v:=by
 obtain⟨v,hv⟩:=IsQ.ex (Lib.trimPrefix t [45])
 exact⟨_,v,hv,rfl⟩
theorem Fits.mono{q:Rat}{j k:Nat}(h:Fits q j)(hk:j≤k):Fits q k:=
 have:=Nat.pow_le_pow_right (by decide:0<2) hk
 ⟨Nat.lt_of_lt_of_le h.1 this,Nat.lt_of_lt_of_le h.2 this⟩
theorem Fits.zero:Fits 0 1:=⟨by decide,by decide⟩
theorem Fits.mk{a:Int}{b k:Nat}(ha:a.natAbs<2 ^ k)(hb:b<2 ^ k)(hk:0<k):Fits (mkRat a b) k:=by
 by_cases h0:b=0
 ·
  subst h0
  rw[Rat.mkRat_zero]
  exact Fits.zero.mono hk
 constructor
 ·
  rw[Rat.num_mkRat,if_neg h0]
  refine Nat.lt_of_le_of_lt ?_ ha
  exact Int.natAbs_ediv_le_natAbs _ _
 · rw[Rat.den_mkRat,if_neg h0]
   exact Nat.lt_of_le_of_lt (Nat.div_le_self _ _) hb
theorem Fits.neg{q:Rat}{k:Nat}(h:Fits q k):Fits (-q) k:=by
 constructor
 · rw[Rat.neg_num,Int.natAbs_neg];exact h.1
 · rw[Rat.neg_den];exact h.2
theorem Qhq(t:List UInt8):(Lib.cut t [47]).1.length≤t.length:=by
 unfold Lib.cut
 split
 · simp;omega
 · simp
theorem Qhr(t:List UInt8):(Lib.cut t [47]).2.1.length≤t.length:=by
 unfold Lib.cut
 split
 · simp
 · simp
theorem Qct{l:List UInt8}{n:Nat}(h:AllDigits l)(hl:l.length≤n):decVal l<2 ^ (4*n):=
 Nat.lt_of_lt_of_le (Qb9 l h) (Nat.le_trans (Nat.pow_le_pow_right (by decide) hl) (Qjo n))
theorem IsQ.fits{t:List UInt8}{v:Rat}{n:Nat}(h:IsQ t v)(hn:t.length≤n):Fits v (4*n+1):=by
 rcases h with ⟨h,rfl⟩|⟨_,rfl⟩
 ·
  have e:(2:Nat) ^ (4*n)≤2 ^ (4*n+1):=Nat.pow_le_pow_right (by decide) (by omega)
  have h1:=Qct h.1.2 (Nat.le_trans (Qhq t) hn)
  refine Fits.mk ?_ ?_ (by omega)
  · rw[Int.natAbs_natCast];omega
  ·
   split
   ·
    rename_i hb
    have:=Qct (h.2 hb).1.2 (Nat.le_trans (Qhr t) hn)
    omega
   · exact Nat.one_lt_two_pow (by omega)
 · exact Fits.zero.mono (by omega)
theorem Qhs(l p:List UInt8):(Lib.trimPrefix l p).length≤l.length:=by
 unfold Lib.trimPrefix
 split
 · simp
 · simp
theorem QOf.fits{t:List UInt8}{q:Rat}{n:Nat}(h:QOf t q)(hn:t.length≤n):Fits q (4*n+1):=by
 obtain⟨v,hv,rfl⟩:=h
 have:=hv.fits (Nat.le_trans (Qhs t [45]) hn)
 split
 · exact this.neg
 · exact this
end Go.Proofs.YtjhdfkcdigmfhaaGreatDoor
namespace Go.Proofs
open Go.Shelf
def Tryz.lays99_ren:Go.Shelf.Ren:=⟨fun|99=>82|206=>162|n=>n,fun|9=>9|4=>4|3=>3|n=>n,fun|n=>n⟩
theorem Tryz.lays99:Go.Proofs.Lays.n99 Tryz.prog Tryz.lays99_ren:={
 mixed:=by kernel_rfl
 f99:=Tryz.func82.trans (congrArg some (by kernel_rfl))
 f206:=Tryz.func162.trans (congrArg some (by kernel_rfl))
 t3:=Tryz.underlying3
 a3:=Tryz.isAgg3
 z3:=Tryz.sizeOf3
 v3:=Tryz.zeroValue3
 t4:=Tryz.underlying4
 a4:=Tryz.isAgg4
 z4:=Tryz.sizeOf4
 v4:=Tryz.zeroValue4
 t9:=Tryz.underlying9
 a9:=Tryz.isAgg9
 z9:=Tryz.sizeOf9
 v9:=Tryz.zeroValue9 }
def Tryz.lays147_ren:Go.Shelf.Ren:=⟨fun|147=>83|221=>163|268=>228|138=>229|143=>115|195=>278|197=>231|218=>279|219=>192|260=>280|217=>246|225=>247|224=>248|267=>249|266=>296|314=>297|n=>n,fun|9=>9|3=>3|31=>146|4=>4|0=>0|105=>291|21=>21|5=>5|46=>294|119=>355|139=>358|138=>357|146=>341|51=>286|n=>n,fun|1=>5|3=>6|4=>7|n=>n⟩
theorem Tryz.lays147:Go.Proofs.Lays.n147 Tryz.prog Tryz.lays147_ren:={
 mixed:=by kernel_rfl
 f138:=Tryz.func229.trans (congrArg some (by kernel_rfl))
 f143:=Tryz.func115.trans (congrArg some (by kernel_rfl))
 f147:=Tryz.func83.trans (congrArg some (by kernel_rfl))
 f195:=Tryz.func278.trans (congrArg some (by kernel_rfl))
 f197:=Tryz.func231.trans (congrArg some (by kernel_rfl))
 f217:=Tryz.func246.trans (congrArg some (by kernel_rfl))
 f218:=Tryz.func279.trans (congrArg some (by kernel_rfl))
 f219:=Tryz.func192.trans (congrArg some (by kernel_rfl))
 f221:=Tryz.func163.trans (congrArg some (by kernel_rfl))
 f224:=Tryz.func248.trans (congrArg some (by kernel_rfl))
 f225:=Tryz.func247.trans (congrArg some (by kernel_rfl))
 f260:=Tryz.func280.trans (congrArg some (by kernel_rfl))
 f266:=Tryz.func296.trans (congrArg some (by kernel_rfl))
 f267:=Tryz.func249.trans (congrArg some (by kernel_rfl))
 f268:=Tryz.func228.trans (congrArg some (by kernel_rfl))
 f314:=Tryz.func297.trans (congrArg some (by kernel_rfl))
 t0:=Tryz.underlying0
 a0:=Tryz.isAgg0
 z0:=Tryz.sizeOf0
 v0:=Tryz.zeroValue0
 t3:=Tryz.underlying3
 a3:=Tryz.isAgg3
 z3:=Tryz.sizeOf3
 v3:=Tryz.zeroValue3
 t4:=Tryz.underlying4
 a4:=Tryz.isAgg4
 z4:=Tryz.sizeOf4
 v4:=Tryz.zeroValue4
 t5:=Tryz.underlying5
 a5:=Tryz.isAgg5
 z5:=Tryz.sizeOf5
 v5:=Tryz.zeroValue5
 t9:=Tryz.underlying9
 a9:=Tryz.isAgg9
 z9:=Tryz.sizeOf9
 v9:=Tryz.zeroValue9
 t21:=Tryz.underlying21
 a21:=Tryz.isAgg21
 z21:=Tryz.sizeOf21
 v21:=Tryz.zeroValue21
 t31:=Tryz.underlying146
 a31:=Tryz.isAgg146
 z31:=Tryz.sizeOf146
 v31:=Tryz.zeroValue146
 t46:=Tryz.underlying294
 a46:=Tryz.isAgg294
 z46:=Tryz.sizeOf294
 v46:=Tryz.zeroValue294
 t51:=Tryz.underlying286
 a51:=Tryz.isAgg286
 z51:=Tryz.sizeOf286
 v51:=Tryz.zeroValue286
 t105:=Tryz.underlying291
 a105:=Tryz.isAgg291
 z105:=Tryz.sizeOf291
 v105:=Tryz.zeroValue291
 t119:=Tryz.underlying355
 a119:=Tryz.isAgg355
 z119:=Tryz.sizeOf355
 t138:=Tryz.underlying357
 a138:=Tryz.isAgg357
 z138:=Tryz.sizeOf357
 v138:=Tryz.zeroValue357
 t139:=Tryz.underlying358
 a139:=Tryz.isAgg358
 z139:=Tryz.sizeOf358
 v139:=Tryz.zeroValue358
 t146:=Tryz.underlying341
 a146:=Tryz.isAgg341
 z146:=Tryz.sizeOf341
 v146:=Tryz.zeroValue341
 g1:=by kernel_rfl
 g3:=by kernel_rfl
 g4:=by kernel_rfl }
def Tryz.lays160_ren:Go.Shelf.Ren:=⟨fun|160=>85|232=>165|231=>164|227=>166|234=>168|233=>167|236=>170|235=>169|228=>230|271=>233|151=>232|197=>231|120=>282|152=>281|260=>280|137=>241|119=>315|224=>248|225=>247|217=>246|266=>296|n=>n,fun|9=>9|4=>4|3=>3|5=>5|117=>229|116=>228|0=>0|124=>232|21=>21|105=>291|46=>294|119=>355|139=>358|138=>357|n=>n,fun|3=>6|4=>7|n=>n⟩
theorem Tryz.lays160:Go.Proofs.Lays.n160 Tryz.prog Tryz.lays160_ren:={
 mixed:=by kernel_rfl
 f119:=Tryz.func315.trans (congrArg some (by kernel_rfl))
 f120:=Tryz.func282.trans (congrArg some (by kernel_rfl))
 f137:=Tryz.func241.trans (congrArg some (by kernel_rfl))
 f151:=Tryz.func232.trans (congrArg some (by kernel_rfl))
 f152:=Tryz.func281.trans (congrArg some (by kernel_rfl))
 f160:=Tryz.func85.trans (congrArg some (by kernel_rfl))
 f197:=Tryz.func231.trans (congrArg some (by kernel_rfl))
 f217:=Tryz.func246.trans (congrArg some (by kernel_rfl))
 f224:=Tryz.func248.trans (congrArg some (by kernel_rfl))
 f225:=Tryz.func247.trans (congrArg some (by kernel_rfl))
 f227:=Tryz.func166.trans (congrArg some (by kernel_rfl))
 f228:=Tryz.func230.trans (congrArg some (by kernel_rfl))
 f231:=Tryz.func164.trans (congrArg some (by kernel_rfl))
 f232:=Tryz.func165.trans (congrArg some (by kernel_rfl))
 f233:=Tryz.func167.trans (congrArg some (by kernel_rfl))
 f234:=Tryz.func168.trans (congrArg some (by kernel_rfl))
 f235:=Tryz.func169.trans (congrArg some (by kernel_rfl))
 f236:=Tryz.func170.trans (congrArg some (by kernel_rfl))
 f260:=Tryz.func280.trans (congrArg some (by kernel_rfl))
 f266:=Tryz.func296.trans (congrArg some (by kernel_rfl))
 f271:=Tryz.func233.trans (congrArg some (by kernel_rfl))
 t0:=Tryz.underlying0
 a0:=Tryz.isAgg0
 z0:=Tryz.sizeOf0
 v0:=Tryz.zeroValue0
 t3:=Tryz.underlying3
 a3:=Tryz.isAgg3
 z3:=Tryz.sizeOf3
 v3:=Tryz.zeroValue3
 t4:=Tryz.underlying4
 a4:=Tryz.isAgg4
 z4:=Tryz.sizeOf4
 v4:=Tryz.zeroValue4
 t5:=Tryz.underlying5
 a5:=Tryz.isAgg5
 z5:=Tryz.sizeOf5
 v5:=Tryz.zeroValue5
 t9:=Tryz.underlying9
 a9:=Tryz.isAgg9
 z9:=Tryz.sizeOf9
 v9:=Tryz.zeroValue9
 t21:=Tryz.underlying21
 a21:=Tryz.isAgg21
 z21:=Tryz.sizeOf21
 v21:=Tryz.zeroValue21
 t46:=Tryz.underlying294
 a46:=Tryz.isAgg294
 z46:=Tryz.sizeOf294
 v46:=Tryz.zeroValue294
 t105:=Tryz.underlying291
 a105:=Tryz.isAgg291
 z105:=Tryz.sizeOf291
 v105:=Tryz.zeroValue291
 t116:=Tryz.underlying228
 a116:=Tryz.isAgg228
 z116:=Tryz.sizeOf228
 t117:=Tryz.underlying229
 a117:=Tryz.isAgg229
 z117:=Tryz.sizeOf229
 v117:=Tryz.zeroValue229
 t119:=Tryz.underlying355
 a119:=Tryz.isAgg355
 z119:=Tryz.sizeOf355
 t124:=Tryz.underlying232
 a124:=Tryz.isAgg232
 z124:=Tryz.sizeOf232
 v124:=Tryz.zeroValue232
 t138:=Tryz.underlying357
 a138:=Tryz.isAgg357
 z138:=Tryz.sizeOf357
 v138:=Tryz.zeroValue357
 t139:=Tryz.underlying358
 a139:=Tryz.isAgg358
 z139:=Tryz.sizeOf358
 v139:=Tryz.zeroValue358
 g3:=by kernel_rfl
 g4:=by kernel_rfl }
def Tryz.lays161_ren:Go.Shelf.Ren:=⟨fun|161=>273|231=>164|227=>166|233=>167|235=>169|228=>230|197=>231|151=>232|260=>280|152=>281|137=>241|119=>315|224=>248|225=>247|217=>246|266=>296|n=>n,fun|9=>9|4=>4|3=>3|5=>5|117=>229|116=>228|0=>0|124=>232|105=>291|21=>21|119=>355|46=>294|139=>358|138=>357|n=>n,fun|3=>6|4=>7|n=>n⟩
theorem Tryz.lays161:Go.Proofs.Lays.n161 Tryz.prog Tryz.lays161_ren:={
 mixed:=by kernel_rfl
 f119:=Tryz.func315.trans (congrArg some (by kernel_rfl))
 f137:=Tryz.func241.trans (congrArg some (by kernel_rfl))
 f151:=Tryz.func232.trans (congrArg some (by kernel_rfl))
 f152:=Tryz.func281.trans (congrArg some (by kernel_rfl))
 f161:=Tryz.func273.trans (congrArg some (by kernel_rfl))
 f197:=Tryz.func231.trans (congrArg some (by kernel_rfl))
 f217:=Tryz.func246.trans (congrArg some (by kernel_rfl))
 f224:=Tryz.func248.trans (congrArg some (by kernel_rfl))
 f225:=Tryz.func247.trans (congrArg some (by kernel_rfl))
 f227:=Tryz.func166.trans (congrArg some (by kernel_rfl))
 f228:=Tryz.func230.trans (congrArg some (by kernel_rfl))
 f231:=Tryz.func164.trans (congrArg some (by kernel_rfl))
 f233:=Tryz.func167.trans (congrArg some (by kernel_rfl))
 f235:=Tryz.func169.trans (congrArg some (by kernel_rfl))
 f260:=Tryz.func280.trans (congrArg some (by kernel_rfl))
 f266:=Tryz.func296.trans (congrArg some (by kernel_rfl))
 t0:=Tryz.underlying0
 a0:=Tryz.isAgg0
 z0:=Tryz.sizeOf0
 v0:=Tryz.zeroValue0
 t3:=Tryz.underlying3
 a3:=Tryz.isAgg3
 z3:=Tryz.sizeOf3
 v3:=Tryz.zeroValue3
 t4:=Tryz.underlying4
 a4:=Tryz.isAgg4
 z4:=Tryz.sizeOf4
 v4:=Tryz.zeroValue4
 t5:=Tryz.underlying5
 a5:=Tryz.isAgg5
 z5:=Tryz.sizeOf5
 v5:=Tryz.zeroValue5
 t9:=Tryz.underlying9
 a9:=Tryz.isAgg9
 z9:=Tryz.sizeOf9
 v9:=Tryz.zeroValue9
 t21:=Tryz.underlying21
 a21:=Tryz.isAgg21
 z21:=Tryz.sizeOf21
 v21:=Tryz.zeroValue21
 t46:=Tryz.underlying294
 a46:=Tryz.isAgg294
 z46:=Tryz.sizeOf294
 v46:=Tryz.zeroValue294
 t105:=Tryz.underlying291
 a105:=Tryz.isAgg291
 z105:=Tryz.sizeOf291
 v105:=Tryz.zeroValue291
 t116:=Tryz.underlying228
 a116:=Tryz.isAgg228
 z116:=Tryz.sizeOf228
 t117:=Tryz.underlying229
 a117:=Tryz.isAgg229
 z117:=Tryz.sizeOf229
 v117:=Tryz.zeroValue229
 t119:=Tryz.underlying355
 a119:=Tryz.isAgg355
 z119:=Tryz.sizeOf355
 t124:=Tryz.underlying232
 a124:=Tryz.isAgg232
 z124:=Tryz.sizeOf232
 v124:=Tryz.zeroValue232
 t138:=Tryz.underlying357
 a138:=Tryz.isAgg357
 z138:=Tryz.sizeOf357
 v138:=Tryz.zeroValue357
 t139:=Tryz.underlying358
 a139:=Tryz.isAgg358
 z139:=Tryz.sizeOf358
 v139:=Tryz.zeroValue358
 g3:=by kernel_rfl
 g4:=by kernel_rfl }
def Tryz.lays145_ren:Go.Shelf.Ren:=⟨fun|145=>111|220=>191|219=>192|217=>246|225=>247|224=>248|267=>249|266=>296|314=>297|n=>n,fun|9=>9|4=>4|59=>177|3=>3|5=>5|46=>294|146=>341|51=>286|n=>n,fun|1=>5|n=>n⟩
theorem Tryz.lays145:Go.Proofs.Lays.n145 Tryz.prog Tryz.lays145_ren:={
 mixed:=by kernel_rfl
 f145:=Tryz.func111.trans (congrArg some (by kernel_rfl))
 f217:=Tryz.func246.trans (congrArg some (by kernel_rfl))
 f219:=Tryz.func192.trans (congrArg some (by kernel_rfl))
 f220:=Tryz.func191.trans (congrArg some (by kernel_rfl))
 f224:=Tryz.func248.trans (congrArg some (by kernel_rfl))
 f225:=Tryz.func247.trans (congrArg some (by kernel_rfl))
 f266:=Tryz.func296.trans (congrArg some (by kernel_rfl))
 f267:=Tryz.func249.trans (congrArg some (by kernel_rfl))
 f314:=Tryz.func297.trans (congrArg some (by kernel_rfl))
 t3:=Tryz.underlying3
 a3:=Tryz.isAgg3
 z3:=Tryz.sizeOf3
 v3:=Tryz.zeroValue3
 t4:=Tryz.underlying4
 a4:=Tryz.isAgg4
 z4:=Tryz.sizeOf4
 v4:=Tryz.zeroValue4
 t5:=Tryz.underlying5
 a5:=Tryz.isAgg5
 z5:=Tryz.sizeOf5
 v5:=Tryz.zeroValue5
 t9:=Tryz.underlying9
 a9:=Tryz.isAgg9
 z9:=Tryz.sizeOf9
 v9:=Tryz.zeroValue9
 t46:=Tryz.underlying294
 a46:=Tryz.isAgg294
 z46:=Tryz.sizeOf294
 v46:=Tryz.zeroValue294
 t51:=Tryz.underlying286
 a51:=Tryz.isAgg286
 z51:=Tryz.sizeOf286
 v51:=Tryz.zeroValue286
 t59:=Tryz.underlying177
 a59:=Tryz.isAgg177
 z59:=Tryz.sizeOf177
 v59:=Tryz.zeroValue177
 t146:=Tryz.underlying341
 a146:=Tryz.isAgg341
 z146:=Tryz.sizeOf341
 v146:=Tryz.zeroValue341
 g1:=by kernel_rfl }
def Tryz.lays103_ren:Go.Shelf.Ren:=⟨fun|103=>220|210=>272|206=>162|n=>n,fun|9=>9|4=>4|24=>279|3=>3|n=>n,fun|n=>n⟩
theorem Tryz.lays103:Go.Proofs.Lays.n103 Tryz.prog Tryz.lays103_ren:={
 mixed:=by kernel_rfl
 f103:=Tryz.func220.trans (congrArg some (by kernel_rfl))
 f206:=Tryz.func162.trans (congrArg some (by kernel_rfl))
 f210:=Tryz.func272.trans (congrArg some (by kernel_rfl))
 t3:=Tryz.underlying3
 a3:=Tryz.isAgg3
 z3:=Tryz.sizeOf3
 v3:=Tryz.zeroValue3
 t4:=Tryz.underlying4
 a4:=Tryz.isAgg4
 z4:=Tryz.sizeOf4
 v4:=Tryz.zeroValue4
 t9:=Tryz.underlying9
 a9:=Tryz.isAgg9
 z9:=Tryz.sizeOf9
 v9:=Tryz.zeroValue9
 t24:=Tryz.underlying279
 a24:=Tryz.isAgg279
 z24:=Tryz.sizeOf279
 v24:=Tryz.zeroValue279 }
def Tryz.lays134_ren:Go.Shelf.Ren:=⟨fun|134=>303|129=>318|n=>n,fun|53=>222|3=>3|4=>4|46=>294|5=>5|9=>9|n=>n,fun|n=>n⟩
theorem Tryz.lays134:Go.Proofs.Lays.n134 Tryz.prog Tryz.lays134_ren:={
 mixed:=by kernel_rfl
 f129:=Tryz.func318.trans (congrArg some (by kernel_rfl))
 f134:=Tryz.func303.trans (congrArg some (by kernel_rfl))
 t3:=Tryz.underlying3
 a3:=Tryz.isAgg3
 z3:=Tryz.sizeOf3
 v3:=Tryz.zeroValue3
 t4:=Tryz.underlying4
 a4:=Tryz.isAgg4
 z4:=Tryz.sizeOf4
 v4:=Tryz.zeroValue4
 t5:=Tryz.underlying5
 a5:=Tryz.isAgg5
 z5:=Tryz.sizeOf5
 v5:=Tryz.zeroValue5
 t9:=Tryz.underlying9
 a9:=Tryz.isAgg9
 z9:=Tryz.sizeOf9
 v9:=Tryz.zeroValue9
 t46:=Tryz.underlying294
 a46:=Tryz.isAgg294
 z46:=Tryz.sizeOf294
 v46:=Tryz.zeroValue294
 t53:=Tryz.underlying222
 a53:=Tryz.isAgg222
 z53:=Tryz.sizeOf222
 v53:=Tryz.zeroValue222 }
def Tryz.lays264_ren:Go.Shelf.Ren:=⟨fun|264=>311|n=>n,fun|53=>222|46=>294|n=>n,fun|n=>n⟩
theorem Tryz.lays264:Go.Proofs.Lays.n264 Tryz.prog Tryz.lays264_ren:={
 mixed:=by kernel_rfl
 f264:=Tryz.func311.trans (congrArg some (by kernel_rfl))
 t46:=Tryz.underlying294
 a46:=Tryz.isAgg294
 z46:=Tryz.sizeOf294
 v46:=Tryz.zeroValue294
 t53:=Tryz.underlying222
 a53:=Tryz.isAgg222
 z53:=Tryz.sizeOf222
 v53:=Tryz.zeroValue222 }
def Tryz.lays25_ren:Go.Shelf.Ren:=⟨fun|25=>309|n=>n,fun|22=>222|n=>n,fun|n=>n⟩
theorem Tryz.lays25:Go.Proofs.Lays7.n25 Tryz.prog Tryz.lays25_ren:={
 mixed:=by kernel_rfl
 f25:=Tryz.func309.trans (congrArg some (by kernel_rfl))
 t22:=Tryz.underlying222
 a22:=Tryz.isAgg222
 z22:=Tryz.sizeOf222
 v22:=Tryz.zeroValue222
 i22:=by kernel_rfl }
def Tryz.lays26_ren:Go.Shelf.Ren:=⟨fun|26=>310|n=>n,fun|22=>222|n=>n,fun|n=>n⟩
theorem Tryz.lays26:Go.Proofs.Lays7.n26 Tryz.prog Tryz.lays26_ren:={
 mixed:=by kernel_rfl
 f26:=Tryz.func310.trans (congrArg some (by kernel_rfl))
 t22:=Tryz.underlying222
 a22:=Tryz.isAgg222
 z22:=Tryz.sizeOf222
 v22:=Tryz.zeroValue222
 i22:=by kernel_rfl }
end Go.Proofs
namespace Go.Proofs.YtjhdfkcdigmfhaaGreatDoor
open Go.RowKit
set_option linter.unusedVariables false
set_option linter.unusedSimpArgs false
theorem Qbj{a b j k:Nat}(ha:a<2 ^ j)(hb:b<2 ^ k):a*b<2 ^ (j+k):=by rw[Nat.pow_add];exact Nat.mul_lt_mul'' ha hb
theorem Fits.mul{p q:Rat}{j k:Nat}(h:Fits p j)(h':Fits q k)(hj:0<j):Fits (p*q) (j+k):=by
 rw[←Qht]
 refine Fits.mk ?_ ?_ (by omega)
 · rw[Int.natAbs_mul];exact Qbj h.1 h'.1
 · rw[Int.natAbs_mul];exact Qbj h.2 h'.2
theorem Fits.add{p q:Rat}{j k:Nat}(h:Fits p j)(h':Fits q k):Fits (p+q) (j+k+1):=by
 rw[←Qhu]
 have e1:=Qbj h.1 h'.2
 have e2:=Qbj h'.1 h.2
 have e3:(2:Nat) ^ (j+k+1)=2 ^ (j+k)*2:=Nat.pow_succ _ _
 rw[Nat.add_comm k j] at e2
 refine Fits.mk ?_ ?_ (by omega)
 ·
  have h1:=Int.natAbs_add_le (p.num*(q.den:Int)) (q.num*(p.den:Int))
  rw[Int.natAbs_mul,Int.natAbs_mul,Int.natAbs_natCast,Int.natAbs_natCast] at h1
  omega
 ·
  rw[Int.natAbs_mul,Int.natAbs_natCast,Int.natAbs_natCast]
  have:=Qbj h.2 h'.2
  omega
theorem Fits.sub{p q:Rat}{j k:Nat}(h:Fits p j)(h':Fits q k):Fits (p - q) (j+k+1):=by
 rw[Rat.sub_eq_add_neg];exact h.add h'.neg
theorem SB.other{w:World}{b g:Nat}{t:TypeId}{C:Array Value}(h:SB w b t C)(hne:b≠g)(i:Nat)(v:Value):SB (w.setCell ⟨g,i,none⟩ v) b t C:=by
 unfold SB at h ⊢
 rw[Below.heap_setCell _ _ _ _ hne];exact h
structure U64 (w:World) (a:Option Addr) (cap:Nat) (l:List Nat) (n:Nat):Prop where
 row:Row .u64 w a cap l
 num:Num 18446744073709551616 l n
 short:l.length≤1099511627776
theorem U64.below{w w':World}{a:Option Addr}{cap:Nat}{l:List Nat}{n:Nat}(h:U64 w a cap l n)(hb:Below w.heap.size w w'):U64 w' a cap l n:=⟨h.row.below hb,h.num,h.short⟩
theorem U64.drew{w:World}{a:Option Addr}{cap:Nat}{l:List Nat}{n:Nat}(h:U64 w a cap l n):U64 w.drew a cap l n:=h.below (Below.refl _ _).drew
theorem U64.nil(w:World):U64 w none 0 [] 0:=⟨Row.nil _ _,Num.zero _,by simp⟩
theorem Qbt(L:Int)(n:Nat)(hL:L=n)(hn:n≤2199023255552)(w:World):
 (Instr.makeSlice 126 (.int .i64 L) (.int .i64 L)).run Tryz.prog w=.ok (.slice (some ⟨w.heap.size,0,none⟩) n n) (w.alloc (.cells (wordCells .u64 (zeros n)) 222)):=by
 subst hL
 rw[←Qdq]
 exact Go.run_make_row' 126 222 (.int .u64 0) 8 Tryz.underlying126 Tryz.info64 rfl .i64 .i64 n (by omega) (by omega) w
theorem add64(x y c:Nat)(hx:x<18446744073709551616)(hy:y<18446744073709551616)(hc:c≤1):∃r d:Nat,r<18446744073709551616∧d≤1∧r+18446744073709551616*d=x+y+c∧
 ∀w,(callFunc 309 #[.int .u64 x,.int .u64 y,.int .u64 c]).run Tryz.prog w=.ok (.value (.tuple #[.int .u64 (r:Int),.int .u64 (d:Int)])) w:=
 ⟨(x+y+c) % 18446744073709551616,(x+y+c) / 18446744073709551616,by omega,by omega,by omega,fun w=>Any7.bits_Add64 Tryz.lays25 x y c hc w⟩
theorem Qbu(x y:Nat)(hx:x<18446744073709551616)(hy:y<18446744073709551616):∃r d:Nat,r<18446744073709551616∧d≤1∧r+18446744073709551616*d=x+y∧
 ∀w,(callFunc 309 #[.int .u64 x,.int .u64 y,.int .u64 0]).run Tryz.prog w=.ok (.value (.tuple #[.int .u64 (r:Int),.int .u64 (d:Int)])) w:=
 add64 x y 0 hx hy (by decide)
theorem sub64(x y c:Nat)(hx:x<18446744073709551616)(hy:y<18446744073709551616)(hc:c≤1):∃r d:Nat,r<18446744073709551616∧d≤1∧r+c+y=x+18446744073709551616*d∧
 ∀w,(callFunc 310 #[.int .u64 x,.int .u64 y,.int .u64 c]).run Tryz.prog w=.ok (.value (.tuple #[.int .u64 (r:Int),.int .u64 (d:Int)])) w:=by
 refine⟨(x+18446744073709551616 - y - c) % 18446744073709551616,if x<y+c then 1 else 0,by omega,by split<;>omega,by split<;>omega,fun w=>Any7.bits_Sub64 Tryz.lays26 x y c hc w⟩
theorem Qge(x y:Nat)(hx:x<18446744073709551616)(hy:y<18446744073709551616):∃r d:Nat,r<18446744073709551616∧d≤1∧r+y=x+18446744073709551616*d∧
 ∀w,(callFunc 310 #[.int .u64 x,.int .u64 y,.int .u64 0]).run Tryz.prog w=.ok (.value (.tuple #[.int .u64 (r:Int),.int .u64 (d:Int)])) w:=
 sub64 x y 0 hx hy (by decide)
theorem mul64(x y:Nat)(hx:x<18446744073709551616)(hy:y<18446744073709551616):∃h l:Nat,h<18446744073709551616∧l<18446744073709551616∧l+18446744073709551616*h=x*y∧
 ∀w,Calls Tryz.prog 311 #[.int .u64 x,.int .u64 y] w fun e w'=>e=.returned (.tuple #[.int .u64 (h:Int),.int .u64 (l:Int)])∧w'=w:=by
 refine⟨x*y / 18446744073709551616,x*y % 18446744073709551616,?_,Nat.mod_lt _ (by decide),Nat.mod_add_div _ _,fun w=>Any.bits_Mul64 Tryz.lays264 x y hx hy w⟩
 rw[Nat.div_lt_iff_lt_mul (by decide)]
 exact Nat.mul_lt_mul'' hx hy
set_option maxHeartbeats 400000 in
theorem Qa8(a:Option Addr)(cap:Nat)(l:List Nat)(i:Nat)(w:World)(h:Row .u64 w a cap l)(hl:l.length≤1099511627776)(hi:i≤2199023255552):
 Calls Tryz.prog 277 #[.slice a l.length cap,.int .i64 i] w fun e w'=>e=.returned (.int .u64 ((l.getD i 0:Nat):Int))∧w'=w:=by
 by_cases hlt:i<l.length
 ·
  obtain⟨b,off,rfl,hb,hc⟩:=h.cell i hlt
  obtain⟨d,hd⟩:∃d,l.getD i 0=d:=⟨_,rfl⟩
  rw[hd] at hc
  rw[hd]
  clear hd h
  go_enter Tryz.func277,Tryz.ntmps277
  go_wp2
  go_ret
  exact⟨rfl,rfl⟩
 ·
  rw[Qfj l i (by omega)]
  clear h
  go_enter Tryz.func277,Tryz.ntmps277
  go_wp2
  go_ret
  exact⟨rfl,rfl⟩
theorem Qk9(l:List Nat)(k:Nat)(hk:k≤l.length)(h:k=0∨l.getD (k - 1) 0≠0):Trim (l.take k):=by
 rcases h with rfl|h
 · left;simp
 ·
  by_cases h0:k=0
  · left;subst h0;simp
  ·
   right
   rw[List.length_take,Nat.min_eq_left hk,List.getD_eq_getElem?_getD,List.getElem?_take_of_lt (by omega),←List.getD_eq_getElem?_getD]
   exact h
theorem Qla(l:List Nat)(k:Nat)(hk:k<l.length)(h:l.getD k 0=0):val 18446744073709551616 (l.take (k+1))=val 18446744073709551616 (l.take k):=by
 rw[Qbm _ l k hk,h];simp
set_option maxHeartbeats 400000 in
theorem Qdu(a:Option Addr)(cap:Nat)(l:List Nat)(w:World)(h:Row .u64 w a cap l)(hl:l.length≤1099511627776):
 Calls Tryz.prog 271 #[.slice a l.length cap] w fun e w'=>(∃k,k≤l.length∧e=.returned (.slice a k cap)∧val 18446744073709551616 (l.take k)=val 18446744073709551616 l∧Trim (l.take k))∧w'=w:=by
 have hcap:=h.fit
 go_enter Tryz.func271,Tryz.ntmps271
 go_wp2
 go_loop [3] (fun n=>∃k:Nat,k≤l.length∧n=.int .i64 k∧val 18446744073709551616 (l.take k)=val 18446744073709551616 l) (fun n=>(intOf n).toNat)
 case atStart=>exact⟨l.length,Nat.le_refl _,rfl,by rw[List.take_length]⟩
 case round=>
  obtain⟨k,hk,rfl,hv⟩:=hrel
  have HV:Hid (val 18446744073709551616 (l.take k)=val 18446744073709551616 l):=hv
  clear hv
  by_cases h0:k=0
  ·
   subst h0
   rcases h.shape with ⟨rfl,rfl⟩|⟨b,off,rfl,hb⟩
   all_goals
    go_wp2
    go_ret
    exact⟨⟨0,by omega,by simp,HV.out,.inl (by simp)⟩,rfl⟩
  ·
   obtain⟨b,off,rfl,hb,hc⟩:=h.cell (k - 1) (by omega)
   obtain⟨j,rfl⟩:∃j,k=j+1:=⟨k - 1,by omega⟩
   simp only[Nat.add_sub_cancel] at hc
   obtain⟨d,hd⟩:∃d,l.getD j 0=d:=⟨_,rfl⟩
   rw[hd] at hc
   have HD:Hid (l.getD j 0=d):=hd
   clear hd
   by_cases hz:d=0
   ·
    subst hz
    go_wp2
    go_round
    case rel=>exact⟨j,by omega,by go_num,(Qla l j (by omega) HD.out).symm.trans HV.out⟩
    case measure=>simp[intOf]
   ·
    have hz':((d:Int) == 0)=false:=by simp;omega
    go_wp2
    go_ret
    exact⟨⟨j+1,hk,by simp,HV.out,Qk9 l (j+1) hk (.inr (by rw[Nat.add_sub_cancel,HD.out];exact hz))⟩,rfl⟩
theorem Qbv(g n cap x:Nat)(rs:List Nat)(w:World)(h:Blk .u64 222 w g rs)(hl:rs.length=n)(hs:Small 18446744073709551616 rs)(hc:n≤cap)(hn:n≤1099511627776)(hx:val 18446744073709551616 rs=x):
 Calls Tryz.prog 271 #[.slice (some ⟨g,0,none⟩) n cap] w fun e w'=>(∃r,e=.returned (.slice (some ⟨g,0,none⟩) r.length cap)∧U64 w (some ⟨g,0,none⟩) cap r x)∧w'=w:=by
 have hR:=h.row n (by omega) cap hc
 rw[List.take_of_length_le (by omega)] at hR
 have hT:=Qdu (some ⟨g,0,none⟩) cap rs w hR (by omega)
 rw[hl] at hT
 refine hT.mono ?_
 rintro e w1 ⟨⟨q,hq,rfl,hqv,hqt⟩,rfl⟩
 have hql:(rs.take q).length=q:=by rw[List.length_take];omega
 exact⟨⟨rs.take q,by rw[hql],hR.take q (by omega),⟨hs.take q,hqt,hqv.trans hx⟩,by rw[hql];omega⟩,rfl⟩
theorem Qlb{l:List Nat}(h:Num 18446744073709551616 l 1):l= [1]:=h.inj (by decide) ⟨fun d hd=>by simp at hd;omega,.inr (by simp),by simp[val]⟩
set_option maxHeartbeats 400000 in
theorem Qbw(a:Option Addr)(cap:Nat)(l:List Nat)(n:Nat)(w:World)(h:U64 w a cap l n):
 Calls Tryz.prog 265 #[.slice a l.length cap] w fun e w'=>e=.returned (.bool (decide (n=1)))∧w'=w:=by
 have hs:=h.short
 by_cases h1:l.length=1
 ·
  obtain⟨b,off,rfl,hb,hc⟩:=h.row.cell 0 (by omega)
  obtain⟨d,hd⟩:∃d,l.getD 0 0=d:=⟨_,rfl⟩
  rw[hd] at hc
  have hn:n=d:=by
   rw[←h.num.eq]
   match l,h1 with
   | [x],_=>simp at hd;simp[val,hd]
  subst hn
  rw[Nat.add_zero] at hc
  by_cases hd1:n=1
  ·
   subst hd1
   clear h hd
   go_enter Tryz.func265,Tryz.ntmps265
   go_wp2
   go_ret
   exact⟨rfl,rfl⟩
  ·
   have q1:((n:Int) == 1)=false:=by rw[beq_eq_false_iff_ne];omega
   rw[show decide (n=1)=false by simpa using hd1]
   clear h hd hd1
   go_enter Tryz.func265,Tryz.ntmps265
   go_wp2
   go_ret
   exact⟨by simp[q1],rfl⟩
 ·
  have hn1:n≠1:=fun hc=>h1 (by subst hc;rw[Qlb h.num];rfl)
  have q1:((l.length:Int) == 1)=false:=by rw[beq_eq_false_iff_ne];omega
  rw[show decide (n=1)=false by simpa using hn1]
  clear h h1 hn1
  go_enter Tryz.func265,Tryz.ntmps265
  go_wp2
  go_ret
  exact⟨rfl,rfl⟩
end Go.Proofs.YtjhdfkcdigmfhaaGreatDoor
