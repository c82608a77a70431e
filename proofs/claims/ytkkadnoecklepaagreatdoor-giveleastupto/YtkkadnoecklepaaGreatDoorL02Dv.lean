import Derived.Test.YtkkadnoecklepaaGreatDoorL01IntText
import Derived.Lib.IndexMore
import Derived.Lib.Strings
import Derived.Lib.Split
import Derived.Shelf.Small.Wraps
import Derived.Shelf.Small.Bits
import Derived.Shelf.Strings.Prefix
import Derived.Shelf.Strings.Trim
import Derived.Shelf.Strings.SlTrimAscii
import Derived.Shelf.Strings.Cut
import Derived.Shelf.Strings.Split
import Derived.Shelf.Bits.Mul64
import Derived.Shelf.Spec.BitsCarry
import Derived.Test.YtkkadnoecklepaaGreatDoorProg
namespace Go.Proofs.YtkkadnoecklepaaGreatDoor
open Go.RowKit
open Go.Proofs.Tryz
set_option linter.unusedSimpArgs false
set_option linter.unusedVariables false
set_option maxHeartbeats 8000000
set_option maxRecDepth 1000000
theorem Qu3(b o:Nat)(a:Vx)(c:Nat)(l:Vy)(w:Vz)(d:IntAt w b o 0 a c l):
 Calls prog 132 #[.pointer (some ⟨b,o,none⟩),.int .i64 10] w fun e w'=>(∃s,e=.returned (.string s)/\IntText s.data.toList 0)/\Below w.heap.size w w':=by
 have k1:=d.abs;have f:((l.length:Int) == 0)=true:=by
  have:=(d.num.num.len_zero (by decide)).1 rfl;simp[this]
 clear d;go_enter func132,ntmps132;go_wp2;go_ret;exact⟨⟨_,rfl,[48],.inl ⟨rfl,rfl⟩,rfl⟩,Below.refl _ _⟩
theorem Qg0(b o K:Nat)(X:Int)(a:Vx)(c:Nat)(l:Vy)(w:Vz)(d:IntAt w b o X a c l)(g:X.natAbs<2 ^ K)(f:K<=1099511627776):
 Calls prog 71 #[.pointer (some ⟨b,o,none⟩)] w fun e w'=>(∃s,e=.returned (.string s)/\IntText s.data.toList X)/\Below w.heap.size w w':=by
 have h:O (Calls prog 132 #[.pointer (some ⟨b,o,none⟩),.int .i64 10] w fun e w'=>(∃s,e=.returned (.string s)/\IntText s.data.toList X)/\Below w.heap.size w w'):=by
  by_cases i:X=0
  . subst i;exact Hi (Qu3 b o a c l w d)
  . exact Hi (Qrv b o K X a c l w d i g f)
 clear d g;go_enter func71,ntmps71;go_wp2_with fail;refine h.o.mono ?_;rintro e p ⟨⟨s,rfl,j⟩,k⟩;obtain⟨m,n⟩:=Ia j k;clear j k h;go_wp2;go_ret;exact⟨⟨s,rfl,m.o⟩,n.o⟩
def QText(l:Vu)(q:Rat):Prop:=∃m,IntText m q.num/\((q.den=1/\l=m)∨(q.den≠1/\∃d,IsDec d q.den/\l=m++47 :: d))
theorem QText.inj{l m:Vu}{q:Rat}(h:QText l q)(k:QText m q):l=m:=by
 obtain⟨a,f,h⟩:=h;obtain⟨b,g,k⟩:=k;have:=f.inj g;subst this;rcases h with ⟨c,rfl⟩|⟨c,d,i,rfl⟩
 .
  rcases k with ⟨k1,rfl⟩|⟨k1,_⟩
  . rfl
  . exact absurd c k1
 .
  rcases k with ⟨k1,rfl⟩|⟨k1,e,j,rfl⟩
  . exact absurd k1 c
  . rw[i.inj j]
theorem IntText.dec{l:Vu}{n:Nat}(h:IntText l (n:Int)):IsDec l n:=by
 obtain⟨m,b,a⟩:=h;rw[if_neg (by omega)] at a;subst a;exact b
theorem IsDec.len{l:Vu}{n K:Nat}(h:IsDec l n)(a:n<2 ^ K):l.length<=K+1:=by
 rcases h with ⟨_,rfl⟩|⟨_,c,b,rfl⟩
 . simp
 . have:=b.length_le_of_lt (k:=K) (by decide) (Nat.lt_of_lt_of_le a (Nat.pow_le_pow_left (by decide) K))
   simp;omega
theorem IntText.len{s:Vs}{X:Int}{K:Nat}(h:IntText s.data.toList X)(a:X.natAbs<2 ^ K):s.size<=K+2:=by
 obtain⟨m,b,c⟩:=h;have d:=b.len a;have e:s.data.toList.length<=m.length+1:=by rw[c];split<;>simp
 have f:s.data.toList.length=s.size:=by simp
 omega
theorem ref_T(b K:Nat)(q:Rat)(w:Vz)(A:RatVal w b q)(B:Fits q K)(i:K<=1099511627776):
 Calls prog 22 #[.pointer (some ⟨b,0,none⟩)] w fun e w'=>(∃s,e=.returned (.string s)/\QText s.data.toList q)/\Below w.heap.size w w':=by
 obtain⟨j,k⟩:=Ia A B;clear A B;by_cases p:q.den=1
 .
  go_enter func22,ntmps22;go_wp2_with fail;refine(Qli b q _ j.o).mono ?_;rw[show decide (q.den=1)=true by simpa using p];rintro e F ⟨rfl,c⟩;have a:=Hi c;clear c;go_wp2_with fail;refine(Qlf b _).mono ?_;rintro e r ⟨rfl,t⟩;subst t;go_wp2_with fail;obtain⟨D,u,c1,v,G,c2,H,h,_⟩:=j.o.below a.o;refine(Qg0 b 0 K q.num u c1 v _ h.upper k.o.1 i).mono ?_;clear h;rintro e r ⟨⟨s,rfl,g⟩,d⟩;obtain⟨x,f⟩:=Ia g d;clear g d;go_wp2;go_ret;exact⟨⟨s,rfl,s.data.toList,x.o,.inl ⟨p,rfl⟩⟩,a.o.trans (f.o.mono a.o.size)⟩
 .
  go_enter func22,ntmps22;go_wp2_with fail;refine(Qli b q _ j.o).mono ?_;rw[show decide (q.den=1)=false by simpa using p];rintro e F ⟨rfl,c⟩;have a:=Hi c;clear c;go_wp2_with fail;refine(Qlf b _).mono ?_;rintro e r ⟨rfl,t⟩;subst t;go_wp2_with fail;obtain⟨D,u,c1,v,G,c2,H,h,_⟩:=j.o.below a.o;refine(Qg0 b 0 K q.num u c1 v _ h.upper k.o.1 i).mono ?_;clear h;rintro e r ⟨⟨s,rfl,g⟩,d⟩;obtain⟨x,f⟩:=Ia g d;have I:=g.len k.o.1;clear g d;go_wp2_with fail;refine(Qur b q _ ((j.o.below a.o).below f.o)).mono ?_;rintro e P ⟨⟨J,L,cap',M,rfl,C⟩,l⟩;obtain⟨N,m⟩:=Ia C l;clear C l;go_wp2_with fail;refine(Qg0 J 0 K q.den L cap' M _ N.o (by rw[Int.natAbs_natCast];exact k.o.2) i).mono ?_;rintro e Q ⟨⟨O,rfl,g⟩,n⟩;have y:=Hi g;have E:=g.len (K:=K) (by rw[Int.natAbs_natCast];exact k.o.2)
  have z:=Hi n;clear g n;go_wp2;go_ret;have R:=a.o.size;have S:=f.o.size;have T:=m.o.size;refine⟨⟨_,rfl,s.data.toList,x.o,.inr ⟨p,O.data.toList,y.o.dec,?_⟩⟩,((a.o.trans (f.o.mono (by omega))).trans (m.o.mono (by omega))).trans (z.o.mono (by omega))⟩;simp[ByteArray.data_append]
open Go
def IsDig(l:Vu):Prop:=l≠ []/\AllDigits l
def QForm(t:Vu):Prop:=IsDig (Lib.cut t [47]).1/\((Lib.cut t [47]).2.2=true->IsDig (Lib.cut t [47]).2.1/\decVal (Lib.cut t [47]).2.1≠0)
def IsQ(t:Vu)(v:Rat):Prop:=(QForm t/\v=mkRat (decVal (Lib.cut t [47]).1:Nat) (if (Lib.cut t [47]).2.2=true then decVal (Lib.cut t [47]).2.1 else 1))∨(¬QForm t/\v=0)
def QOf(l:Vu)(q:Rat):Prop:=∃v,IsQ (Lib.trimPrefix l [45]) v/\q=if Lib.hasPrefix l [45]=true then -v else v
theorem IsQ.inj{t:Vu}{u v:Rat}(h:IsQ t u)(k:IsQ t v):u=v:=by
 rcases h with ⟨a,rfl⟩|⟨a,rfl⟩<;>rcases k with ⟨k1,rfl⟩|⟨k1,rfl⟩
 . rfl
 . exact absurd a k1
 . exact absurd k1 a
 . rfl
theorem QOf.inj{t:Vu}{u v:Rat}(h:QOf t u)(k:QOf t v):u=v:=by
 obtain⟨a,c,rfl⟩:=h;obtain⟨b,d,rfl⟩:=k;rw[c.inj d]
theorem IsQ.ex(t:Vu):∃v,IsQ t v:=by
 by_cases h:QForm t
 . exact⟨_,.inl ⟨h,rfl⟩⟩
 . exact⟨_,.inr ⟨h,rfl⟩⟩
theorem QOf.ex(t:Vu):∃v,QOf t v:=by
 obtain⟨v,a⟩:=IsQ.ex (Lib.trimPrefix t [45]);exact⟨_,v,a,rfl⟩
theorem Fits.mono{q:Rat}{j k:Nat}(h:Fits q j)(hk:j<=k):Fits q k:=
 have:=Nat.pow_le_pow_right (by decide:0<2) hk
 ⟨Nat.lt_of_lt_of_le h.1 this,Nat.lt_of_lt_of_le h.2 this⟩
theorem Fits.zero:Fits 0 1:=⟨by decide,by decide⟩
theorem Fits.mk{a:Int}{b k:Nat}(d:a.natAbs<2 ^ k)(e:b<2 ^ k)(hk:0<k):Fits (mkRat a b) k:=by
 by_cases c:b=0
 .
  subst c;rw[Rat.mkRat_zero];exact Fits.zero.mono hk
 constructor
 .
  rw[Rat.num_mkRat,if_neg c];refine Nat.lt_of_le_of_lt ?_ d;exact Int.natAbs_ediv_le_natAbs _ _
 . rw[Rat.den_mkRat,if_neg c]
   exact Nat.lt_of_le_of_lt (Nat.div_le_self _ _) e
theorem Fits.neg{q:Rat}{k:Nat}(h:Fits q k):Fits (-q) k:=by
 constructor
 . rw[Rat.neg_num,Int.natAbs_neg];exact h.1
 . rw[Rat.neg_den];exact h.2
theorem Qla(t:Vu):(Lib.cut t [47]).1.length<=t.length:=by
 unfold Lib.cut
 split
 . simp;omega
 . simp
theorem Qlb(t:Vu):(Lib.cut t [47]).2.1.length<=t.length:=by
 unfold Lib.cut
 split
 . simp
 . simp
theorem Qep{l:Vu}{n:Nat}(h:AllDigits l)(hl:l.length<=n):decVal l<2 ^ (4*n):=
 Nat.lt_of_lt_of_le (Qa1 l h) (Nat.le_trans (Nat.pow_le_pow_right (by decide) hl) (Qh1 n))
theorem IsQ.fits{t:Vu}{v:Rat}{n:Nat}(h:IsQ t v)(a:t.length<=n):Fits v (4*n+1):=by
 rcases h with ⟨h,rfl⟩|⟨_,rfl⟩
 .
  have e:(2:Nat) ^ (4*n)<=2 ^ (4*n+1):=Nat.pow_le_pow_right (by decide) (by omega);have c:=Qep h.1.2 (Nat.le_trans (Qla t) a);refine Fits.mk ?_ ?_ (by omega)
  . rw[Int.natAbs_natCast];omega
  .
   split
   .
    rename_i b;have:=Qep (h.2 b).1.2 (Nat.le_trans (Qlb t) a);omega
   . exact Nat.one_lt_two_pow (by omega)
 . exact Fits.zero.mono (by omega)
theorem Qeq(l p:Vu):(Lib.trimPrefix l p).length<=l.length:=by
 unfold Lib.trimPrefix
 split
 . simp
 . simp
theorem QOf.fits{t:Vu}{q:Rat}{n:Nat}(h:QOf t q)(a:t.length<=n):Fits q (4*n+1):=by
 obtain⟨v,b,rfl⟩:=h;have:=b.fits (Nat.le_trans (Qeq t [45]) a)
 split
 . exact this.neg
 . exact this
end Go.Proofs.YtkkadnoecklepaaGreatDoor
namespace Go.Proofs
open Go.Shelf
def Tryz.lays99_ren:Go.Shelf.Ren:=⟨fun|99=>85|206=>139|n=>n,fun|9=>9|4=>4|3=>3|n=>n,fun|n=>n⟩
theorem Tryz.lays99:Go.Proofs.Lays.n99 Tryz.prog Tryz.lays99_ren:={
 mixed:=by kernel_rfl
 f99:=Tryz.func85.trans (congrArg some (by kernel_rfl))
 f206:=Tryz.func139.trans (congrArg some (by kernel_rfl))
 t3:=Tryz.underlying3
 a3:=Tryz.isAgg3
 z3:=Tryz.sizeOf3
 v3:=Tryz.zeroValue3
 t4:=Tryz.underlying4
 a4:=Tryz.isAgg4
 z4:=Tryz.sizeOf4
 v4:=Tryz.zeroValue4
 t9:=Tryz.underlying9
 a9:=Tryz.isAgg9
 z9:=Tryz.sizeOf9
 v9:=Tryz.zeroValue9 }
def Tryz.lays147_ren:Go.Shelf.Ren:=⟨fun|147=>86|221=>140|268=>195|138=>196|143=>197|195=>229|197=>199|218=>230|219=>212|260=>231|217=>241|225=>242|224=>243|267=>244|266=>254|314=>255|n=>n,fun|9=>9|3=>3|31=>133|4=>4|0=>0|105=>242|21=>21|5=>5|46=>238|119=>281|139=>284|138=>283|146=>286|51=>233|n=>n,fun|1=>4|3=>7|4=>8|n=>n⟩
theorem Tryz.lays147:Go.Proofs.Lays.n147 Tryz.prog Tryz.lays147_ren:={
 mixed:=by kernel_rfl
 f138:=Tryz.func196.trans (congrArg some (by kernel_rfl))
 f143:=Tryz.func197.trans (congrArg some (by kernel_rfl))
 f147:=Tryz.func86.trans (congrArg some (by kernel_rfl))
 f195:=Tryz.func229.trans (congrArg some (by kernel_rfl))
 f197:=Tryz.func199.trans (congrArg some (by kernel_rfl))
 f217:=Tryz.func241.trans (congrArg some (by kernel_rfl))
 f218:=Tryz.func230.trans (congrArg some (by kernel_rfl))
 f219:=Tryz.func212.trans (congrArg some (by kernel_rfl))
 f221:=Tryz.func140.trans (congrArg some (by kernel_rfl))
 f224:=Tryz.func243.trans (congrArg some (by kernel_rfl))
 f225:=Tryz.func242.trans (congrArg some (by kernel_rfl))
 f260:=Tryz.func231.trans (congrArg some (by kernel_rfl))
 f266:=Tryz.func254.trans (congrArg some (by kernel_rfl))
 f267:=Tryz.func244.trans (congrArg some (by kernel_rfl))
 f268:=Tryz.func195.trans (congrArg some (by kernel_rfl))
 f314:=Tryz.func255.trans (congrArg some (by kernel_rfl))
 t0:=Tryz.underlying0
 a0:=Tryz.isAgg0
 z0:=Tryz.sizeOf0
 v0:=Tryz.zeroValue0
 t3:=Tryz.underlying3
 a3:=Tryz.isAgg3
 z3:=Tryz.sizeOf3
 v3:=Tryz.zeroValue3
 t4:=Tryz.underlying4
 a4:=Tryz.isAgg4
 z4:=Tryz.sizeOf4
 v4:=Tryz.zeroValue4
 t5:=Tryz.underlying5
 a5:=Tryz.isAgg5
 z5:=Tryz.sizeOf5
 v5:=Tryz.zeroValue5
 t9:=Tryz.underlying9
 a9:=Tryz.isAgg9
 z9:=Tryz.sizeOf9
 v9:=Tryz.zeroValue9
 t21:=Tryz.underlying21
 a21:=Tryz.isAgg21
 z21:=Tryz.sizeOf21
 v21:=Tryz.zeroValue21
 t31:=Tryz.underlying133
 a31:=Tryz.isAgg133
 z31:=Tryz.sizeOf133
 v31:=Tryz.zeroValue133
 t46:=Tryz.underlying238
 a46:=Tryz.isAgg238
 z46:=Tryz.sizeOf238
 v46:=Tryz.zeroValue238
 t51:=Tryz.underlying233
 a51:=Tryz.isAgg233
 z51:=Tryz.sizeOf233
 v51:=Tryz.zeroValue233
 t105:=Tryz.underlying242
 a105:=Tryz.isAgg242
 z105:=Tryz.sizeOf242
 v105:=Tryz.zeroValue242
 t119:=Tryz.underlying281
 a119:=Tryz.isAgg281
 z119:=Tryz.sizeOf281
 t138:=Tryz.underlying283
 a138:=Tryz.isAgg283
 z138:=Tryz.sizeOf283
 v138:=Tryz.zeroValue283
 t139:=Tryz.underlying284
 a139:=Tryz.isAgg284
 z139:=Tryz.sizeOf284
 v139:=Tryz.zeroValue284
 t146:=Tryz.underlying286
 a146:=Tryz.isAgg286
 z146:=Tryz.sizeOf286
 v146:=Tryz.zeroValue286
 g1:=by kernel_rfl
 g3:=by kernel_rfl
 g4:=by kernel_rfl }
def Tryz.lays160_ren:Go.Shelf.Ren:=⟨fun|160=>88|232=>142|231=>141|227=>143|234=>145|233=>144|236=>147|235=>146|228=>198|271=>201|151=>200|197=>199|120=>233|152=>232|260=>231|137=>252|119=>253|224=>243|225=>242|217=>241|266=>254|n=>n,fun|9=>9|4=>4|3=>3|5=>5|117=>185|116=>184|0=>0|124=>188|21=>21|105=>242|46=>238|119=>281|139=>284|138=>283|n=>n,fun|3=>7|4=>8|n=>n⟩
theorem Tryz.lays160:Go.Proofs.Lays.n160 Tryz.prog Tryz.lays160_ren:={
 mixed:=by kernel_rfl
 f119:=Tryz.func253.trans (congrArg some (by kernel_rfl))
 f120:=Tryz.func233.trans (congrArg some (by kernel_rfl))
 f137:=Tryz.func252.trans (congrArg some (by kernel_rfl))
 f151:=Tryz.func200.trans (congrArg some (by kernel_rfl))
 f152:=Tryz.func232.trans (congrArg some (by kernel_rfl))
 f160:=Tryz.func88.trans (congrArg some (by kernel_rfl))
 f197:=Tryz.func199.trans (congrArg some (by kernel_rfl))
 f217:=Tryz.func241.trans (congrArg some (by kernel_rfl))
 f224:=Tryz.func243.trans (congrArg some (by kernel_rfl))
 f225:=Tryz.func242.trans (congrArg some (by kernel_rfl))
 f227:=Tryz.func143.trans (congrArg some (by kernel_rfl))
 f228:=Tryz.func198.trans (congrArg some (by kernel_rfl))
 f231:=Tryz.func141.trans (congrArg some (by kernel_rfl))
 f232:=Tryz.func142.trans (congrArg some (by kernel_rfl))
 f233:=Tryz.func144.trans (congrArg some (by kernel_rfl))
 f234:=Tryz.func145.trans (congrArg some (by kernel_rfl))
 f235:=Tryz.func146.trans (congrArg some (by kernel_rfl))
 f236:=Tryz.func147.trans (congrArg some (by kernel_rfl))
 f260:=Tryz.func231.trans (congrArg some (by kernel_rfl))
 f266:=Tryz.func254.trans (congrArg some (by kernel_rfl))
 f271:=Tryz.func201.trans (congrArg some (by kernel_rfl))
 t0:=Tryz.underlying0
 a0:=Tryz.isAgg0
 z0:=Tryz.sizeOf0
 v0:=Tryz.zeroValue0
 t3:=Tryz.underlying3
 a3:=Tryz.isAgg3
 z3:=Tryz.sizeOf3
 v3:=Tryz.zeroValue3
 t4:=Tryz.underlying4
 a4:=Tryz.isAgg4
 z4:=Tryz.sizeOf4
 v4:=Tryz.zeroValue4
 t5:=Tryz.underlying5
 a5:=Tryz.isAgg5
 z5:=Tryz.sizeOf5
 v5:=Tryz.zeroValue5
 t9:=Tryz.underlying9
 a9:=Tryz.isAgg9
 z9:=Tryz.sizeOf9
 v9:=Tryz.zeroValue9
 t21:=Tryz.underlying21
 a21:=Tryz.isAgg21
 z21:=Tryz.sizeOf21
 v21:=Tryz.zeroValue21
 t46:=Tryz.underlying238
 a46:=Tryz.isAgg238
 z46:=Tryz.sizeOf238
 v46:=Tryz.zeroValue238
 t105:=Tryz.underlying242
 a105:=Tryz.isAgg242
 z105:=Tryz.sizeOf242
 v105:=Tryz.zeroValue242
 t116:=Tryz.underlying184
 a116:=Tryz.isAgg184
 z116:=Tryz.sizeOf184
 t117:=Tryz.underlying185
 a117:=Tryz.isAgg185
 z117:=Tryz.sizeOf185
 v117:=Tryz.zeroValue185
 t119:=Tryz.underlying281
 a119:=Tryz.isAgg281
 z119:=Tryz.sizeOf281
 t124:=Tryz.underlying188
 a124:=Tryz.isAgg188
 z124:=Tryz.sizeOf188
 v124:=Tryz.zeroValue188
 t138:=Tryz.underlying283
 a138:=Tryz.isAgg283
 z138:=Tryz.sizeOf283
 v138:=Tryz.zeroValue283
 t139:=Tryz.underlying284
 a139:=Tryz.isAgg284
 z139:=Tryz.sizeOf284
 v139:=Tryz.zeroValue284
 g3:=by kernel_rfl
 g4:=by kernel_rfl }
def Tryz.lays161_ren:Go.Shelf.Ren:=⟨fun|161=>173|231=>141|227=>143|233=>144|235=>146|228=>198|197=>199|151=>200|260=>231|152=>232|137=>252|119=>253|224=>243|225=>242|217=>241|266=>254|n=>n,fun|9=>9|4=>4|3=>3|5=>5|117=>185|116=>184|0=>0|124=>188|105=>242|21=>21|119=>281|46=>238|139=>284|138=>283|n=>n,fun|3=>7|4=>8|n=>n⟩
theorem Tryz.lays161:Go.Proofs.Lays.n161 Tryz.prog Tryz.lays161_ren:={
 mixed:=by kernel_rfl
 f119:=Tryz.func253.trans (congrArg some (by kernel_rfl))
 f137:=Tryz.func252.trans (congrArg some (by kernel_rfl))
 f151:=Tryz.func200.trans (congrArg some (by kernel_rfl))
 f152:=Tryz.func232.trans (congrArg some (by kernel_rfl))
 f161:=Tryz.func173.trans (congrArg some (by kernel_rfl))
 f197:=Tryz.func199.trans (congrArg some (by kernel_rfl))
 f217:=Tryz.func241.trans (congrArg some (by kernel_rfl))
 f224:=Tryz.func243.trans (congrArg some (by kernel_rfl))
 f225:=Tryz.func242.trans (congrArg some (by kernel_rfl))
 f227:=Tryz.func143.trans (congrArg some (by kernel_rfl))
 f228:=Tryz.func198.trans (congrArg some (by kernel_rfl))
 f231:=Tryz.func141.trans (congrArg some (by kernel_rfl))
 f233:=Tryz.func144.trans (congrArg some (by kernel_rfl))
 f235:=Tryz.func146.trans (congrArg some (by kernel_rfl))
 f260:=Tryz.func231.trans (congrArg some (by kernel_rfl))
 f266:=Tryz.func254.trans (congrArg some (by kernel_rfl))
 t0:=Tryz.underlying0
 a0:=Tryz.isAgg0
 z0:=Tryz.sizeOf0
 v0:=Tryz.zeroValue0
 t3:=Tryz.underlying3
 a3:=Tryz.isAgg3
 z3:=Tryz.sizeOf3
 v3:=Tryz.zeroValue3
 t4:=Tryz.underlying4
 a4:=Tryz.isAgg4
 z4:=Tryz.sizeOf4
 v4:=Tryz.zeroValue4
 t5:=Tryz.underlying5
 a5:=Tryz.isAgg5
 z5:=Tryz.sizeOf5
 v5:=Tryz.zeroValue5
 t9:=Tryz.underlying9
 a9:=Tryz.isAgg9
 z9:=Tryz.sizeOf9
 v9:=Tryz.zeroValue9
 t21:=Tryz.underlying21
 a21:=Tryz.isAgg21
 z21:=Tryz.sizeOf21
 v21:=Tryz.zeroValue21
 t46:=Tryz.underlying238
 a46:=Tryz.isAgg238
 z46:=Tryz.sizeOf238
 v46:=Tryz.zeroValue238
 t105:=Tryz.underlying242
 a105:=Tryz.isAgg242
 z105:=Tryz.sizeOf242
 v105:=Tryz.zeroValue242
 t116:=Tryz.underlying184
 a116:=Tryz.isAgg184
 z116:=Tryz.sizeOf184
 t117:=Tryz.underlying185
 a117:=Tryz.isAgg185
 z117:=Tryz.sizeOf185
 v117:=Tryz.zeroValue185
 t119:=Tryz.underlying281
 a119:=Tryz.isAgg281
 z119:=Tryz.sizeOf281
 t124:=Tryz.underlying188
 a124:=Tryz.isAgg188
 z124:=Tryz.sizeOf188
 v124:=Tryz.zeroValue188
 t138:=Tryz.underlying283
 a138:=Tryz.isAgg283
 z138:=Tryz.sizeOf283
 v138:=Tryz.zeroValue283
 t139:=Tryz.underlying284
 a139:=Tryz.isAgg284
 z139:=Tryz.sizeOf284
 v139:=Tryz.zeroValue284
 g3:=by kernel_rfl
 g4:=by kernel_rfl }
def Tryz.lays145_ren:Go.Shelf.Ren:=⟨fun|145=>119|220=>171|219=>212|217=>241|225=>242|224=>243|267=>244|266=>254|314=>255|n=>n,fun|9=>9|4=>4|59=>168|3=>3|5=>5|46=>238|146=>286|51=>233|n=>n,fun|1=>4|n=>n⟩
theorem Tryz.lays145:Go.Proofs.Lays.n145 Tryz.prog Tryz.lays145_ren:={
 mixed:=by kernel_rfl
 f145:=Tryz.func119.trans (congrArg some (by kernel_rfl))
 f217:=Tryz.func241.trans (congrArg some (by kernel_rfl))
 f219:=Tryz.func212.trans (congrArg some (by kernel_rfl))
 f220:=Tryz.func171.trans (congrArg some (by kernel_rfl))
 f224:=Tryz.func243.trans (congrArg some (by kernel_rfl))
 f225:=Tryz.func242.trans (congrArg some (by kernel_rfl))
 f266:=Tryz.func254.trans (congrArg some (by kernel_rfl))
 f267:=Tryz.func244.trans (congrArg some (by kernel_rfl))
 f314:=Tryz.func255.trans (congrArg some (by kernel_rfl))
 t3:=Tryz.underlying3
 a3:=Tryz.isAgg3
 z3:=Tryz.sizeOf3
 v3:=Tryz.zeroValue3
 t4:=Tryz.underlying4
 a4:=Tryz.isAgg4
 z4:=Tryz.sizeOf4
 v4:=Tryz.zeroValue4
 t5:=Tryz.underlying5
 a5:=Tryz.isAgg5
 z5:=Tryz.sizeOf5
 v5:=Tryz.zeroValue5
 t9:=Tryz.underlying9
 a9:=Tryz.isAgg9
 z9:=Tryz.sizeOf9
 v9:=Tryz.zeroValue9
 t46:=Tryz.underlying238
 a46:=Tryz.isAgg238
 z46:=Tryz.sizeOf238
 v46:=Tryz.zeroValue238
 t51:=Tryz.underlying233
 a51:=Tryz.isAgg233
 z51:=Tryz.sizeOf233
 v51:=Tryz.zeroValue233
 t59:=Tryz.underlying168
 a59:=Tryz.isAgg168
 z59:=Tryz.sizeOf168
 v59:=Tryz.zeroValue168
 t146:=Tryz.underlying286
 a146:=Tryz.isAgg286
 z146:=Tryz.sizeOf286
 v146:=Tryz.zeroValue286
 g1:=by kernel_rfl }
def Tryz.lays103_ren:Go.Shelf.Ren:=⟨fun|103=>118|210=>170|206=>139|n=>n,fun|9=>9|4=>4|24=>166|3=>3|n=>n,fun|n=>n⟩
theorem Tryz.lays103:Go.Proofs.Lays.n103 Tryz.prog Tryz.lays103_ren:={
 mixed:=by kernel_rfl
 f103:=Tryz.func118.trans (congrArg some (by kernel_rfl))
 f206:=Tryz.func139.trans (congrArg some (by kernel_rfl))
 f210:=Tryz.func170.trans (congrArg some (by kernel_rfl))
 t3:=Tryz.underlying3
 a3:=Tryz.isAgg3
 z3:=Tryz.sizeOf3
 v3:=Tryz.zeroValue3
 t4:=Tryz.underlying4
 a4:=Tryz.isAgg4
 z4:=Tryz.sizeOf4
 v4:=Tryz.zeroValue4
 t9:=Tryz.underlying9
 a9:=Tryz.isAgg9
 z9:=Tryz.sizeOf9
 v9:=Tryz.zeroValue9
 t24:=Tryz.underlying166
 a24:=Tryz.isAgg166
 z24:=Tryz.sizeOf166
 v24:=Tryz.zeroValue166 }
def Tryz.lays134_ren:Go.Shelf.Ren:=⟨fun|134=>217|129=>245|n=>n,fun|53=>190|3=>3|4=>4|46=>238|5=>5|9=>9|n=>n,fun|n=>n⟩
theorem Tryz.lays134:Go.Proofs.Lays.n134 Tryz.prog Tryz.lays134_ren:={
 mixed:=by kernel_rfl
 f129:=Tryz.func245.trans (congrArg some (by kernel_rfl))
 f134:=Tryz.func217.trans (congrArg some (by kernel_rfl))
 t3:=Tryz.underlying3
 a3:=Tryz.isAgg3
 z3:=Tryz.sizeOf3
 v3:=Tryz.zeroValue3
 t4:=Tryz.underlying4
 a4:=Tryz.isAgg4
 z4:=Tryz.sizeOf4
 v4:=Tryz.zeroValue4
 t5:=Tryz.underlying5
 a5:=Tryz.isAgg5
 z5:=Tryz.sizeOf5
 v5:=Tryz.zeroValue5
 t9:=Tryz.underlying9
 a9:=Tryz.isAgg9
 z9:=Tryz.sizeOf9
 v9:=Tryz.zeroValue9
 t46:=Tryz.underlying238
 a46:=Tryz.isAgg238
 z46:=Tryz.sizeOf238
 v46:=Tryz.zeroValue238
 t53:=Tryz.underlying190
 a53:=Tryz.isAgg190
 z53:=Tryz.sizeOf190
 v53:=Tryz.zeroValue190 }
def Tryz.lays264_ren:Go.Shelf.Ren:=⟨fun|264=>226|n=>n,fun|53=>190|46=>238|n=>n,fun|n=>n⟩
theorem Tryz.lays264:Go.Proofs.Lays.n264 Tryz.prog Tryz.lays264_ren:={
 mixed:=by kernel_rfl
 f264:=Tryz.func226.trans (congrArg some (by kernel_rfl))
 t46:=Tryz.underlying238
 a46:=Tryz.isAgg238
 z46:=Tryz.sizeOf238
 v46:=Tryz.zeroValue238
 t53:=Tryz.underlying190
 a53:=Tryz.isAgg190
 z53:=Tryz.sizeOf190
 v53:=Tryz.zeroValue190 }
def Tryz.lays25_ren:Go.Shelf.Ren:=⟨fun|25=>223|n=>n,fun|22=>190|n=>n,fun|n=>n⟩
theorem Tryz.lays25:Go.Proofs.Lays7.n25 Tryz.prog Tryz.lays25_ren:={
 mixed:=by kernel_rfl
 f25:=Tryz.func223.trans (congrArg some (by kernel_rfl))
 t22:=Tryz.underlying190
 a22:=Tryz.isAgg190
 z22:=Tryz.sizeOf190
 v22:=Tryz.zeroValue190
 i22:=by kernel_rfl }
def Tryz.lays26_ren:Go.Shelf.Ren:=⟨fun|26=>225|n=>n,fun|22=>190|n=>n,fun|n=>n⟩
theorem Tryz.lays26:Go.Proofs.Lays7.n26 Tryz.prog Tryz.lays26_ren:={
 mixed:=by kernel_rfl
 f26:=Tryz.func225.trans (congrArg some (by kernel_rfl))
 t22:=Tryz.underlying190
 a22:=Tryz.isAgg190
 z22:=Tryz.sizeOf190
 v22:=Tryz.zeroValue190
 i22:=by kernel_rfl }
end Go.Proofs
namespace Go.Proofs.YtkkadnoecklepaaGreatDoor
open Go.RowKit
open Go.Proofs.Tryz
set_option linter.unusedSimpArgs false
set_option linter.unusedVariables false
set_option maxHeartbeats 8000000
set_option maxRecDepth 1000000
theorem Qll(s p:Vs)(w:Vz):
 Calls prog 85 #[.string s,.string p] w fun e w'=>e=.returned (.bool (Lib.hasPrefix s.data.toList p.data.toList))/\w'=w:=Any.strings_HasPrefix Tryz.lays99 s p w
theorem Qlm(s a:Vs)(n:Nat)(m:Int)(w:Vz)(c:s.size<4294967281)(d:w.cell? ⟨4,0,none⟩=some (.int .i64 m))(f:1<=a.size)(g:1<=n)(b:n<=9223372036854775807):
 Calls prog 86 #[.string s,.string a,.int .i64 n] w fun e w'=>
  e=.returned (.slice (some ⟨w.heap.size,0,none⟩) (Lib.splitB a 0 (min n (s.size+1) - 1) s).length (min n (s.size+1)))/\w'=w.alloc (.cells (Lib.cellsOf (Lib.splitB a 0 (min n (s.size+1) - 1) s) (min n (s.size+1))) 9):=Any.strings_SplitN Tryz.lays147 (by kernel_rfl) s a n m w c d f g b
theorem Qgz(s a:Vs)(w:Vz)(f:s.size<=9223372036854775807)(d:a.size<4294967281)(c:∀(j:Nat) b,a.data.toList[j]?=some b->b.toNat<128):
 Calls prog 88 #[.string s,.string a] w fun e w'=>e=.returned (.string ⟨(Lib.trimS s.data.toList a.data.toList).toArray⟩)/\Below w.heap.size w w':=Any.strings_Trim_laid Tryz.lays160 (by kernel_rfl) s a w f d c
theorem Qln{p:UInt8->Bool}{l:Vu}{c:UInt8}(h:c∈ l.takeWhile p):p c=true:=by
 induction l with
 |nil=>simp at h
 |cons d l b=>
  rw[List.takeWhile_cons] at h;by_cases a:p d=true
  .
   rw[if_pos a] at h;rcases List.mem_cons.1 h with rfl|h
   . exact a
   . exact b h
  . rw[if_neg a] at h;cases h
theorem Quv{p:UInt8->Bool}{l:Vu}(h:∀c,c∈ l->p c=true):l.dropWhile p= []:=by
 induction l with
 |nil=>rfl
 |cons d l a=>
  rw[List.dropWhile_cons,if_pos (h d (List.mem_cons_self ..))];exact a fun c b=>h c (List.mem_cons_of_mem _ b)
theorem Qlo(l a:Vu):Lib.trimS l a= []↔∀c,c∈ l->a.contains c=true:=by
 unfold Lib.trimS Lib.trimLeftS Lib.trimRightS;constructor
 .
  intro h c e;apply bC;intro f;have d:c∈ (l.reverse.dropWhile (a.contains ·)).reverse:=by
   rw[List.mem_reverse];have b:=List.mem_reverse.2 e;rw[<-List.takeWhile_append_dropWhile (p:=(a.contains ·)) (l:=l.reverse)] at b;rcases List.mem_append.1 b with b|b
   . have:=Qln (p:=(a.contains ·)) b
     exact absurd this f
   . exact b
  rw[<-List.takeWhile_append_dropWhile (p:=(a.contains ·)) (l:=(l.reverse.dropWhile (a.contains ·)).reverse),h,List.append_nil] at d;exact absurd (Qln (p:=(a.contains ·)) d) f
 .
  intro h;have d:l.reverse.dropWhile (a.contains ·)= []:=by
   exact Quv fun c e=>h c (List.mem_reverse.1 e)
  rw[d];rfl
theorem Qlp(c:UInt8):([48,49,50,51,52,53,54,55,56,57]:List UInt8).contains c=true↔48<=c.toNat/\c.toNat<=57:=by
 constructor
 .
  intro h;simp at h;rcases h with rfl|rfl|rfl|rfl|rfl|rfl|rfl|rfl|rfl|rfl<;>decide
 .
  rintro⟨a,b⟩;have:c=UInt8.ofNat c.toNat:=by simp
  rw[this];generalize c.toNat=n at*;have:n=48∨n=49∨n=50∨n=51∨n=52∨n=53∨n=54∨n=55∨n=56∨n=57:=by omega
  rcases this with rfl|rfl|rfl|rfl|rfl|rfl|rfl|rfl|rfl|rfl<;>decide
theorem Quw(l:Vu):Lib.trimS l [48,49,50,51,52,53,54,55,56,57]= []↔AllDigits l:=by
 rw[Qlo];exact⟨fun h c a=>(Qlp c).1 (h c a),fun h c a=>(Qlp c).2 (h c a)⟩
theorem Qlq(l:Vu)(h:AllDigits l):Lib.trimS l [48]= []↔decVal l=0:=by
 rw[Qlo]
 induction l with
 |nil=>simp[decVal]
 |cons c l b=>
  have m:=h c (List.mem_cons_self ..);have b:=b fun d a=>h d (List.mem_cons_of_mem _ a)
  have e:decVal (c :: l)=(c.toNat - 48)*10 ^ l.length+decVal l:=by
   have:=Qce [c] l
   simpa [decVal] using this
  have n:0<10 ^ l.length:=Nat.pow_pos (by decide);rw[e];constructor
  .
   intro f;have g:=b.1 fun d a=>f d (List.mem_cons_of_mem _ a)
   have i:=f c (List.mem_cons_self ..);have j:c=48:=by simpa using i
   rw[g,j];simp
  .
   intro f;have g:decVal l=0:=by omega
   have i:(c.toNat - 48)*10 ^ l.length=0:=by omega
   have j:c.toNat - 48=0:=by
    rcases Nat.mul_eq_zero.1 i with h|h
    . exact h
    . omega
   have k:c=48:=by
    have:c.toNat=48:=by omega
    exact UInt8.toNat_inj.1 this
   intro d a;rcases List.mem_cons.1 a with rfl|a
   . rw[k];rfl
   . exact b.2 g d a
theorem Qux{s a:Vs}(h:(⟨(Lib.trimS s.data.toList [48,49,50,51,52,53,54,55,56,57]).toArray⟩:ByteArray)=a):a.toList= []↔AllDigits s.data.toList:=by
 subst h;rw[Lib.toList_data];exact Quw _
theorem Qcp(s:Vs)(w:Vz)(l:s.size<=1073741824):
 Calls prog 87 #[.string s] w fun e w'=>(∃v,e=.returned (.bool v)/\(v=true↔IsDig s.data.toList))/\Below w.heap.size w w':=by
 have f:=Hi (Lib.toList_data s);by_cases b:s.toList= []
 .
  go_enter func87,ntmps87;go_wp2_with fail;go_ret;exact⟨⟨false,rfl,by rw[<-f.o];simp[IsDig,b]⟩,Below.refl _ _⟩
 .
  go_enter func87,ntmps87;go_wp2_with fail;refine(Qgz s _ _ (by omega) (by decide) (ascii_of_all (by decide))).mono ?_;rintro e m ⟨rfl,g⟩;have i:=Hi g;clear g;obtain⟨k,a⟩:=nm ((⟨(Lib.trimS s.data.toList [48,49,50,51,52,53,54,55,56,57]).toArray⟩:ByteArray));rw[show (⟨#[48,49,50,51,52,53,54,55,56,57]⟩:ByteArray).data.toList= [48,49,50,51,52,53,54,55,56,57] from rfl,a];have j:=Hi (Qux a);clear a;by_cases c:k.toList= []
  .
   go_wp2;go_ret;refine⟨⟨_,rfl,?_⟩,i.o⟩;have d:IsDig s.data.toList:=⟨by rw[<-f.o];exact b,j.o.1 c⟩;simp[b,d]
  .
   go_wp2;go_ret;refine⟨⟨_,rfl,?_⟩,i.o⟩;have d:¬IsDig s.data.toList:=fun h=>c (j.o.2 h.2)
   simp[c,d]
theorem Qlr(t:Vs)(k:Nat)(h:(Lib.cut t.data.toList [47]).2.2=false):Lib.splitB ⟨#[47]⟩ 0 k t= [t]/\(Lib.cut t.data.toList [47]).1=t.data.toList:=by
 have a:¬(0<=Lib.index t.data.toList [47]):=by
  intro b;unfold Lib.cut at h;rw[if_pos b] at h;cases h
 constructor
 .
  apply Lib.splitB_miss;have:=Lib.index_ge t.data.toList [47]
  show Lib.index t.data.toList [47]= -1
  omega
 . unfold Lib.cut
   rw[if_neg a]
theorem Qls(t:Vs)(h:(Lib.cut t.data.toList [47]).2.2=true):1<=t.size/\∃t0 t1:Vs,Lib.splitB ⟨#[47]⟩ 0 1 t= [t0,t1]/\t0.data.toList=(Lib.cut t.data.toList [47]).1/\t1.data.toList=(Lib.cut t.data.toList [47]).2.1/\t0.size<=t.size/\t1.size<=t.size:=by
 have b:0<=Lib.index t.data.toList [47]:=by
  apply bC;intro d;unfold Lib.cut at h;rw[if_neg d] at h;cases h
 have c:=Lib.index_room t.data.toList [47] b;obtain⟨i,a⟩:∃i:Nat,Lib.index t.data.toList [47]=i:=⟨(Lib.index t.data.toList [47]).toNat,by omega⟩;have e:t.data.toList.length=t.size:=by simp
 rw[a] at c;simp at c;refine⟨by omega,t.extract 0 (i+0),t.extract (i+1) t.size,?_,?_,?_,?_,?_⟩
 . rw[Lib.splitB_hit ⟨#[47]⟩ 0 0 t i a];rfl
 .
  rw[Lib.extract_data];unfold Lib.cut;rw[if_pos b,a];simp
 .
  rw[Lib.extract_data];unfold Lib.cut;rw[if_pos b,a];simp;rw[List.take_of_length_le (by simp)]
 . simp;omega
 . simp
theorem Qba(w:Vz):RatVal (w.alloc (.cells #[.bool false,.slice none 0 0,.bool false,.slice none 0 0] 123)) w.heap.size 0:=
 ⟨0,none,0,[],none,0,[],⟨SB.new w _ _,⟨Row.nil _ _,Num.zero _,by simp⟩,⟨Row.nil _ _,Num.zero _,by simp⟩⟩,.inr ⟨rfl,rfl⟩⟩
theorem Qlt(w:Vz):(Thing.room w.heap.size).holds (w.alloc (.cells #[.bool false,.slice none 0 0,.bool false,.slice none 0 0] 123)):=RatVal.room (Qba w)
def NewRat(w:Vz)(q:Rat)(e:Ending)(w':Vz):Prop:=(∃b,e=.returned (.pointer (some ⟨b,0,none⟩))/\w.heap.size<=b/\RatVal w' b q)/\Below w.heap.size w w'
theorem Qcq{s:Vs}(h:IsDig s.data.toList):0<s.size:=by
 have:s.data.toList.length=s.size:=by simp
 have b:s.data.toList.length≠0:=fun a=>h.1 (List.length_eq_zero_iff.1 a)
 omega
theorem Qlu{l:Vu}{a:Vs}(h:(⟨l.toArray⟩:ByteArray)=a):a.toList= []↔l= []:=by
 subst h;rw[Lib.toList_data]
theorem Qcr{w w':Vz}{X:Int}{a:Vx}{b:Nat}{l:Vy}(h:Laid (w.alloc (.cells zeroInt 121)) w' w.heap.size 0 121 zeroInt X a b l):IntAt w' w.heap.size 0 X a b l/\Below w.heap.size w w':=
 ⟨h.at (by simp[zeroInt]),Only.fresh (bR.alloc lZ _) h.only lZ⟩
theorem Quy(s:Vs)(m:Int)(w:Vz)(hm:w.cell? ⟨4,0,none⟩=some (.int .i64 m))(hs:s.size<=1073741824)(hp:Lib.hasPrefix s.data.toList [45]=false):
 Calls prog 36 #[.string s] w fun e w'=>∃q,QOf s.data.toList q/\NewRat w q e w':=by
 obtain⟨N,HT⟩:=Ia hp (show Lib.trimPrefix s.data.toList [45]=s.data.toList by unfold Lib.trimPrefix;rw[hp];rfl);clear hp;go_enter func36,ntmps36;go_wp2_with fail;refine(Qll s ⟨#[45]⟩ w).mono ?_;rw[show (⟨#[45]⟩:ByteArray).data.toList= [45] from rfl,N.o];rintro e w ⟨rfl,hw⟩;subst hw;go_wp2_with fail;refine(Qlm s ⟨#[47]⟩ 2 m w (by omega) hm (by decide) (by decide) (by decide)).mono ?_;rintro e D ⟨rfl,r⟩;by_cases M:(Lib.cut s.data.toList [47]).2.2=true
 .
  obtain⟨h1,t0,t1,v,E,aa,al,am⟩:=Qls s M;have e2:min 2 (s.size+1)=2:=by omega
  rw[e2,v] at r;rw[e2,v];have F:Bl w D:=by rw[r];exact(Below.refl _ _).alloc lZ _
  have t:SB D w.heap.size 9 #[.string t0,.string t1]:=by rw[r];exact SB.new w _ _
  have l:D.cell? ⟨w.heap.size,0,none⟩=some (.string t0):=t.cell 0;have c1:D.cell? ⟨w.heap.size,1,none⟩=some (.string t1):=t.cell 1;have a:=t.lt;obtain⟨x,d,j,b,y,G,B⟩:=If F l c1 (Below.refl D.heap.size D) E aa M;clear r t F v e2 E aa M;go_wp2_with fail;refine(Qcp t0 _ (by omega)).mono ?_;rintro e w2 ⟨⟨v0,rfl,H⟩,g⟩;have I:=Hi H;clear H;have c:=Hi (b.o.trans (g.mono b.o.size));clear b l c1;have b:=c;clear c g;obtain⟨l,c1⟩:=Ja b.o a d.o j.o;have f:=fun o=>ce (b.o.alloc b.o.size o) a d.o
  have n:=fun o=>ce (b.o.alloc b.o.size o) a j.o
  cases v0
  .
   have z:O (¬QForm s.data.toList):=Hi (fun h=>Bool.false_ne_true (I.o.2 (by rw[y.o];exact h.1)));go_wp2;go_ret;have i:=x.o.trans (b.o.mono (Nat.le_of_lt a));exact⟨_,⟨0,by rw[HT.o];exact .inr ⟨z.o,rfl⟩,by rw[N.o];rfl⟩,⟨_,rfl,i.size,Qba _⟩,i.alloc i.size _⟩
  .
   go_wp2_with fail;refine(Qcp t1 _ (by omega)).mono ?_;rintro e w3 ⟨⟨v1,rfl,ab⟩,g⟩;have ae:=Hi ab;clear ab;have c:=Hi (b.o.trans (g.mono b.o.size));clear b l c1 f n;have b:=c;clear c g;obtain⟨l,c1⟩:=Ja b.o a d.o j.o;have f:=fun o=>ce (b.o.alloc b.o.size o) a d.o
   have n:=fun o=>ce (b.o.alloc b.o.size o) a j.o
   cases v1
   .
    have z:O (¬QForm s.data.toList):=Hi (fun h=>Bool.false_ne_true (ae.o.2 (by rw[G.o];exact(h.2 B.o).1)));go_wp2;go_ret;have i:=x.o.trans (b.o.mono (Nat.le_of_lt a));exact⟨_,⟨0,by rw[HT.o];exact .inr ⟨z.o,rfl⟩,by rw[N.o];rfl⟩,⟨_,rfl,i.size,Qba _⟩,i.alloc i.size _⟩
   .
    go_wp2_with fail;refine(Qgz t1 _ _ (by omega) (by decide) (ascii_of_all (by decide))).mono ?_;rintro e w4 ⟨rfl,g⟩;obtain⟨st,u⟩:=nm ((⟨(Lib.trimS t1.data.toList [48]).toArray⟩:ByteArray));rw[show (⟨#[48]⟩:ByteArray).data.toList= [48] from rfl,u];obtain⟨p,J⟩:=Ia (I.o.1 (by first|rfl|trivial)) (ae.o.1 (by first|rfl|trivial));have HI:=Hi ((Qlu u).trans (Qlq t1.data.toList J.o.2));clear u;have c:=Hi (b.o.trans (g.mono b.o.size));clear b l c1 f n;have b:=c;clear c g;obtain⟨l,c1⟩:=Ja b.o a d.o j.o;have f:=fun o=>ce (b.o.alloc b.o.size o) a d.o
    have n:=fun o=>ce (b.o.alloc b.o.size o) a j.o
    by_cases u:st.toList= []
    .
     have ai:st.toList.isEmpty=true:=by simp[u]
     have z:O (¬QForm s.data.toList):=Hi (fun h=>(h.2 B.o).2 (by rw[<-G.o];exact HI.o.1 u));go_wp2;go_ret;have i:=x.o.trans (b.o.mono (Nat.le_of_lt a));exact⟨_,⟨0,by rw[HT.o];exact .inr ⟨z.o,rfl⟩,by rw[N.o];rfl⟩,⟨_,rfl,i.size,Qba _⟩,i.alloc i.size _⟩
    .
     have ai:st.toList.isEmpty=false:=by simp[u]
     have af:=Hi (fun h=>u (HI.o.2 h));go_wp2_with fail;refine(Qcn _ t0 _ (SB.new _ _ _) (Qcq p.o) (by omega) p.o.2).mono ?_;rintro e w5 ⟨rfl,an,cn,ln,hl⟩;obtain⟨P,g⟩:=Qcr hl;have Q:ln.length<1099511627770:=by
      have h1:=P.num.len_dec (k:=t0.size) (by rw[Int.natAbs_natCast];have:=Qa1 _ p.o.2;simpa using this);omega
     have HN:=Hi P;clear P hl;have c:=Hi (b.o.trans (g.mono b.o.size));clear b l c1 f n;have b:=c;clear c g;obtain⟨l,c1⟩:=Ja b.o a d.o j.o;have f:=fun o=>ce (b.o.alloc b.o.size o) a d.o
     have n:=fun o=>ce (b.o.alloc b.o.size o) a j.o
     go_wp2_with fail;refine(Qcm 1 _ (by decide) (by decide)).mono ?_;rintro e w6 ⟨⟨b6,a6,aj,l6,rfl,K,C,L⟩,g⟩;have ag:=Hi (HN.o.below g);clear HN K C L;have c:=Hi (b.o.trans (g.mono b.o.size));clear b l c1 f n;have b:=c;clear c g;obtain⟨l,c1⟩:=Ja b.o a d.o j.o;have f:=fun o=>ce (b.o.alloc b.o.size o) a d.o
     have n:=fun o=>ce (b.o.alloc b.o.size o) a j.o
     go_wp2_with fail;refine(Qcn _ t1 _ (SB.new _ _ _) (Qcq J.o) (by omega) J.o.2).mono ?_;rintro e w7 ⟨rfl,ad,cd,ld,hl⟩;obtain⟨R,g⟩:=Qcr hl;have S:ld.length<1099511627770:=by
      have h1:=R.num.len_dec (k:=t1.size) (by rw[Int.natAbs_natCast];have:=Qa1 _ J.o.2;simpa using this);omega
     obtain⟨HD,HN,T⟩:=Ib R (ag.o.below g) (Int.natCast_pos.2 (Nat.pos_of_ne_zero af.o));have U:O (mkRat ((decVal t0.data.toList:Nat):Int) ((decVal t1.data.toList:Nat):Int).natAbs=mkRat (decVal (Lib.cut s.data.toList [47]).1:Nat) (if (Lib.cut s.data.toList [47]).2.2=true then decVal (Lib.cut s.data.toList [47]).2.1 else 1)):=Hi (by rw[Int.natAbs_natCast,y.o,G.o,if_pos B.o]);clear R hl ag;have c:=Hi (b.o.trans (g.mono b.o.size));clear b l c1 f n;have b:=c;clear c g;obtain⟨l,c1⟩:=Ja b.o a d.o j.o;have f:=fun o=>ce (b.o.alloc b.o.size o) a d.o
     have n:=fun o=>ce (b.o.alloc b.o.size o) a j.o
     go_wp2_with fail;have V:O (QForm s.data.toList):=Hi ⟨by rw[<-y.o];exact p.o,fun _=>⟨by rw[<-G.o];exact J.o,by rw[<-G.o];exact af.o⟩⟩;refine(Qdf _ _ _ _ _ _ 0 _ an cn ln _ 0 _ ad cd ld _ (SB.new _ _ _) (Qan _ _ _ _ _ _ _ _) (HN.o.alloc _) (HD.o.alloc _) T.o Q S).mono ?_;rintro e w8 A;have i:=x.o.trans (b.o.mono (Nat.le_of_lt a));have W:=i.size;obtain⟨HV,X⟩:=Ia A.val (Only.fresh (i.alloc i.size _) A.2.1 i.size);obtain⟨rfl,Y,hr⟩:=A;clear Y hr i;go_wp2;go_ret;exact⟨_,⟨_,by rw[HT.o];exact .inl ⟨V.o,U.o⟩,by rw[N.o];rfl⟩,⟨_,rfl,W,HV.o⟩,X.o⟩
 .
  have M:(Lib.cut s.data.toList [47]).2.2=false:=by simpa using M
  obtain⟨v,E⟩:=Qlr s (min 2 (s.size+1) - 1) M;obtain⟨cp,Z,ak⟩:∃cp,min 2 (s.size+1)=cp/\1<=cp:=⟨_,rfl,by omega⟩;rw[v,Z] at r;rw[v,Z];have F:Bl w D:=by rw[r];exact(Below.refl _ _).alloc lZ _
  have t:SB D w.heap.size 9 (Lib.cellsOf [s] cp):=by rw[r];exact SB.new w _ _
  have l:D.cell? ⟨w.heap.size,0,none⟩=some (.string s):=t.cell 0;have c1:=l;have a:=t.lt;obtain⟨x,d,b,y,B⟩:=Id F l (Below.refl D.heap.size D) E M;clear r t F v E M Z c1;rw[show [s].length=1 from rfl];go_wp2_with fail;refine(Qcp s _ (by omega)).mono ?_;rintro e w2 ⟨⟨v0,rfl,H⟩,g⟩;have I:=Hi H;clear H;have c:=Hi (b.o.trans (g.mono b.o.size));clear b l;have b:=c;clear c g;have l:=ce b.o a d.o;have f:=fun o=>ce (b.o.alloc b.o.size o) a d.o
  cases v0
  .
   have z:O (¬QForm s.data.toList):=Hi (fun h=>Bool.false_ne_true (I.o.2 (by rw[<-y.o];exact h.1)));go_wp2;go_ret;have i:=x.o.trans (b.o.mono (Nat.le_of_lt a));exact⟨_,⟨0,by rw[HT.o];exact .inr ⟨z.o,rfl⟩,by rw[N.o];rfl⟩,⟨_,rfl,i.size,Qba _⟩,i.alloc i.size _⟩
  .
   have p:=Hi (I.o.1 (by first|rfl|trivial));go_wp2_with fail;refine(Qcn _ s _ (SB.new _ _ _) (Qcq p.o) (by omega) p.o.2).mono ?_;rintro e w5 ⟨rfl,an,cn,ln,hl⟩;obtain⟨P,g⟩:=Qcr hl;have Q:ln.length<1099511627770:=by
    have h1:=P.num.len_dec (k:=s.size) (by rw[Int.natAbs_natCast];have:=Qa1 _ p.o.2;simpa using this);omega
   have ah:=Hi P;clear P hl;have c:=Hi (b.o.trans (g.mono b.o.size));clear b l f;have b:=c;clear c g;have l:=ce b.o a d.o;have f:=fun o=>ce (b.o.alloc b.o.size o) a d.o
   go_wp2_with fail;refine(Qcm 1 _ (by decide) (by decide)).mono ?_;rintro e w6 ⟨⟨b6,ad,cd,ld,rfl,K,C,L⟩,g⟩;have HN:=Hi (ah.o.below g);have R:IntAt w6 b6 0 1 ad cd ld:=⟨by rw[C.cell];rfl,by rw[C.cell];rfl,L,C.lt⟩;have S:ld.length<1099511627770:=by
    have:=R.num.len_bits (k:=1) (by decide);omega
   have HD:=Hi R;have T:O ((0:Int)<1):=Hi (by decide);have U:O (mkRat ((decVal s.data.toList:Nat):Int) (1:Int).natAbs=mkRat (decVal (Lib.cut s.data.toList [47]).1:Nat) (if (Lib.cut s.data.toList [47]).2.2=true then decVal (Lib.cut s.data.toList [47]).2.1 else 1)):=Hi (by rw[y.o,B.o];rfl);clear R ah K C L;have c:=Hi (b.o.trans (g.mono b.o.size));clear b l f;have b:=c;clear c g;have l:=ce b.o a d.o;have f:=fun o=>ce (b.o.alloc b.o.size o) a d.o
   go_wp2_with fail;have V:O (QForm s.data.toList):=Hi ⟨by rw[y.o];exact p.o,fun h=>by rw[B.o] at h;cases h⟩;refine(Qdf _ _ _ _ _ _ 0 _ an cn ln _ 0 _ ad cd ld _ (SB.new _ _ _) (Qan _ _ _ _ _ _ _ _) (HN.o.alloc _) (HD.o.alloc _) T.o Q S).mono ?_;rintro e w8 A;have i:=x.o.trans (b.o.mono (Nat.le_of_lt a));have W:=i.size;obtain⟨HV,X⟩:=Ia A.val (Only.fresh (i.alloc i.size _) A.2.1 i.size);obtain⟨rfl,Y,hr⟩:=A;clear Y hr i;go_wp2;go_ret;exact⟨_,⟨_,by rw[HT.o];exact .inl ⟨V.o,U.o⟩,by rw[N.o];rfl⟩,⟨_,rfl,W,HV.o⟩,X.o⟩
theorem Quz(s:Vs)(m:Int)(w:Vz)(hm:w.cell? ⟨4,0,none⟩=some (.int .i64 m))(hs:s.size<=1073741824)(hp:Lib.hasPrefix s.data.toList [45]=true):
 Calls prog 36 #[.string s] w fun e w'=>∃q,QOf s.data.toList q/\NewRat w q e w':=by
 have U:=Hi hp;have h1:1<=s.size:=by
  have ah:s.data.toList.length=s.size:=by simp
  cases hl:s.data.toList with
  |nil=>rw[hl] at hp;simp[Lib.hasPrefix] at hp
  |cons c l=>rw[hl] at ah;simp at ah;omega
 obtain⟨t,ht⟩:=nm (s.extract 1 s.size);have HT:=Hi (show Lib.trimPrefix s.data.toList [45]=t.data.toList by
  rw[<-ht,Lib.extract_data];unfold Lib.trimPrefix;rw[if_pos hp,List.take_of_length_le (by simp)]
  rfl)
 have av:t.size<=1073741824:=by rw[<-ht];simp;omega
 have ap:=Hi ht;clear hp ht;go_enter func36,ntmps36;go_wp2_with fail;refine(Qll s ⟨#[45]⟩ w).mono ?_;rw[show (⟨#[45]⟩:ByteArray).data.toList= [45] from rfl,U.o];rintro e w ⟨rfl,hw⟩;subst hw;go_wp2_with fail;rw[ap.o];clear h1;refine(Qlm t ⟨#[47]⟩ 2 m w (by omega) hm (by decide) (by decide) (by decide)).mono ?_;rintro e H ⟨rfl,x⟩;by_cases T:(Lib.cut t.data.toList [47]).2.2=true
 .
  obtain⟨h1,t0,t1,A,I,ai,aw,ax⟩:=Qls t T;have e2:min 2 (t.size+1)=2:=by omega
  rw[e2,A] at x;rw[e2,A];have J:Bl w H:=by rw[x];exact(Below.refl _ _).alloc lZ _
  have y:SB H w.heap.size 9 #[.string t0,.string t1]:=by rw[x];exact SB.new w _ _
  have r:H.cell? ⟨w.heap.size,0,none⟩=some (.string t0):=y.cell 0;have c1:H.cell? ⟨w.heap.size,1,none⟩=some (.string t1):=y.cell 1;have a:=y.lt;obtain⟨B,f,p,b,C,K,F⟩:=If J r c1 (Below.refl H.heap.size H) I ai T;clear x y J A e2 I ai T;go_wp2_with fail;refine(Qcp t0 _ (by omega)).mono ?_;rintro e w2 ⟨⟨v0,rfl,L⟩,j⟩;have M:=Hi L;clear L;have d:=Hi (b.o.trans (j.mono b.o.size));clear b r c1;have b:=d;clear d j;obtain⟨r,c1⟩:=Ja b.o a f.o p.o;have g:=fun o=>ce (b.o.alloc b.o.size o) a f.o
  have u:=fun o=>ce (b.o.alloc b.o.size o) a p.o
  cases v0
  .
   have D:O (¬QForm t.data.toList):=Hi (fun h=>Bool.false_ne_true (M.o.2 (by rw[C.o];exact h.1)));go_wp2;go_ret;have n:=B.o.trans (b.o.mono (Nat.le_of_lt a));exact⟨_,⟨0,by rw[HT.o];exact .inr ⟨D.o,rfl⟩,by rw[U.o];rfl⟩,⟨_,rfl,n.size,Qba _⟩,n.alloc n.size _⟩
  .
   go_wp2_with fail;refine(Qcp t1 _ (by omega)).mono ?_;rintro e w3 ⟨⟨v1,rfl,aj⟩,j⟩;have ak:=Hi aj;clear aj;have d:=Hi (b.o.trans (j.mono b.o.size));clear b r c1 g u;have b:=d;clear d j;obtain⟨r,c1⟩:=Ja b.o a f.o p.o;have g:=fun o=>ce (b.o.alloc b.o.size o) a f.o
   have u:=fun o=>ce (b.o.alloc b.o.size o) a p.o
   cases v1
   .
    have D:O (¬QForm t.data.toList):=Hi (fun h=>Bool.false_ne_true (ak.o.2 (by rw[K.o];exact(h.2 F.o).1)));go_wp2;go_ret;have n:=B.o.trans (b.o.mono (Nat.le_of_lt a));exact⟨_,⟨0,by rw[HT.o];exact .inr ⟨D.o,rfl⟩,by rw[U.o];rfl⟩,⟨_,rfl,n.size,Qba _⟩,n.alloc n.size _⟩
   .
    go_wp2_with fail;refine(Qgz t1 _ _ (by omega) (by decide) (ascii_of_all (by decide))).mono ?_;rintro e w4 ⟨rfl,j⟩;obtain⟨st,z⟩:=nm ((⟨(Lib.trimS t1.data.toList [48]).toArray⟩:ByteArray));rw[show (⟨#[48]⟩:ByteArray).data.toList= [48] from rfl,z];obtain⟨v,N⟩:=Ia (M.o.1 (by first|rfl|trivial)) (ak.o.1 (by first|rfl|trivial));have HI:=Hi ((Qlu z).trans (Qlq t1.data.toList N.o.2));clear z;have d:=Hi (b.o.trans (j.mono b.o.size));clear b r c1 g u;have b:=d;clear d j;obtain⟨r,c1⟩:=Ja b.o a f.o p.o;have g:=fun o=>ce (b.o.alloc b.o.size o) a f.o
    have u:=fun o=>ce (b.o.alloc b.o.size o) a p.o
    by_cases z:st.toList= []
    .
     have aq:st.toList.isEmpty=true:=by simp[z]
     have D:O (¬QForm t.data.toList):=Hi (fun h=>(h.2 F.o).2 (by rw[<-K.o];exact HI.o.1 z));go_wp2;go_ret;have n:=B.o.trans (b.o.mono (Nat.le_of_lt a));exact⟨_,⟨0,by rw[HT.o];exact .inr ⟨D.o,rfl⟩,by rw[U.o];rfl⟩,⟨_,rfl,n.size,Qba _⟩,n.alloc n.size _⟩
    .
     have aq:st.toList.isEmpty=false:=by simp[z]
     have al:=Hi (fun h=>z (HI.o.2 h));go_wp2_with fail;refine(Qcn _ t0 _ (SB.new _ _ _) (Qcq v.o) (by omega) v.o.2).mono ?_;rintro e w5 ⟨rfl,an,cn,ln,hl⟩;obtain⟨V,j⟩:=Qcr hl;have W:ln.length<1099511627770:=by
      have h1:=V.num.len_dec (k:=t0.size) (by rw[Int.natAbs_natCast];have:=Qa1 _ v.o.2;simpa using this);omega
     have HN:=Hi V;clear V hl;have d:=Hi (b.o.trans (j.mono b.o.size));clear b r c1 g u;have b:=d;clear d j;obtain⟨r,c1⟩:=Ja b.o a f.o p.o;have g:=fun o=>ce (b.o.alloc b.o.size o) a f.o
     have u:=fun o=>ce (b.o.alloc b.o.size o) a p.o
     go_wp2_with fail;refine(Qcm 1 _ (by decide) (by decide)).mono ?_;rintro e w6 ⟨⟨b6,a6,ar,l6,rfl,P,G,S⟩,j⟩;have am:=Hi (HN.o.below j);clear HN P G S;have d:=Hi (b.o.trans (j.mono b.o.size));clear b r c1 g u;have b:=d;clear d j;obtain⟨r,c1⟩:=Ja b.o a f.o p.o;have g:=fun o=>ce (b.o.alloc b.o.size o) a f.o
     have u:=fun o=>ce (b.o.alloc b.o.size o) a p.o
     go_wp2_with fail;refine(Qcn _ t1 _ (SB.new _ _ _) (Qcq N.o) (by omega) N.o.2).mono ?_;rintro e w7 ⟨rfl,ad,cd,ld,hl⟩;obtain⟨X,j⟩:=Qcr hl;have Y:ld.length<1099511627770:=by
      have h1:=X.num.len_dec (k:=t1.size) (by rw[Int.natAbs_natCast];have:=Qa1 _ N.o.2;simpa using this);omega
     obtain⟨HD,HN,Z⟩:=Ib X (am.o.below j) (Int.natCast_pos.2 (Nat.pos_of_ne_zero al.o));have aa:O (mkRat ((decVal t0.data.toList:Nat):Int) ((decVal t1.data.toList:Nat):Int).natAbs=mkRat (decVal (Lib.cut t.data.toList [47]).1:Nat) (if (Lib.cut t.data.toList [47]).2.2=true then decVal (Lib.cut t.data.toList [47]).2.1 else 1)):=Hi (by rw[Int.natAbs_natCast,C.o,K.o,if_pos F.o]);clear X hl am;have d:=Hi (b.o.trans (j.mono b.o.size));clear b r c1 g u;have b:=d;clear d j;obtain⟨r,c1⟩:=Ja b.o a f.o p.o;have g:=fun o=>ce (b.o.alloc b.o.size o) a f.o
     have u:=fun o=>ce (b.o.alloc b.o.size o) a p.o
     go_wp2_with fail;have ab:O (QForm t.data.toList):=Hi ⟨by rw[<-C.o];exact v.o,fun _=>⟨by rw[<-K.o];exact N.o,by rw[<-K.o];exact al.o⟩⟩;refine(Qdf _ _ _ _ _ _ 0 _ an cn ln _ 0 _ ad cd ld _ (SB.new _ _ _) (Qan _ _ _ _ _ _ _ _) (HN.o.alloc _) (HD.o.alloc _) Z.o W Y).mono ?_;rintro e w8 i;have n:=B.o.trans (b.o.mono (Nat.le_of_lt a));have Q:=n.size;obtain⟨HV,R⟩:=Ia i.val (Only.fresh (n.alloc n.size _) i.2.1 n.size);obtain⟨rfl,E,hr⟩:=i;clear E hr n;go_wp2_with fail;have HQ:O (IsQ (Lib.trimPrefix s.data.toList [45]) _):=Hi (by rw[HT.o];exact .inl ⟨ab.o,aa.o⟩);refine(Qlh _ _ (4*1073741824+1) _ _ (RatVal.room HV.o) HV.o (HQ.o.fits (Nat.le_trans (Qeq _ _) (by simpa using hs))) (by decide)).mono ?_;rintro e w9 i;obtain⟨ae,af⟩:=Ia (R.o.trans (i.2.1.below Q R.o.size)) i.val
     obtain⟨rfl,E,hr⟩:=i;clear E hr;go_wp2;go_ret;exact⟨_,⟨_,HQ.o,by rw[U.o];rfl⟩,⟨_,rfl,Q,af.o⟩,ae.o⟩
 .
  have T:(Lib.cut t.data.toList [47]).2.2=false:=by simpa using T
  obtain⟨A,I⟩:=Qlr t (min 2 (t.size+1) - 1) T;obtain⟨cp,ag,au⟩:∃cp,min 2 (t.size+1)=cp/\1<=cp:=⟨_,rfl,by omega⟩;rw[A,ag] at x;rw[A,ag];have J:Bl w H:=by rw[x];exact(Below.refl _ _).alloc lZ _
  have y:SB H w.heap.size 9 (Lib.cellsOf [t] cp):=by rw[x];exact SB.new w _ _
  have r:H.cell? ⟨w.heap.size,0,none⟩=some (.string t):=y.cell 0;have c1:=r;have a:=y.lt;obtain⟨B,f,b,C,F⟩:=Id J r (Below.refl H.heap.size H) I T;clear x y J A I T ag c1;rw[show [t].length=1 from rfl];go_wp2_with fail;refine(Qcp t _ (by omega)).mono ?_;rintro e w2 ⟨⟨v0,rfl,L⟩,j⟩;have M:=Hi L;clear L;have d:=Hi (b.o.trans (j.mono b.o.size));clear b r;have b:=d;clear d j;have r:=ce b.o a f.o;have g:=fun o=>ce (b.o.alloc b.o.size o) a f.o
  cases v0
  .
   have D:O (¬QForm t.data.toList):=Hi (fun h=>Bool.false_ne_true (M.o.2 (by rw[<-C.o];exact h.1)));go_wp2;go_ret;have n:=B.o.trans (b.o.mono (Nat.le_of_lt a));exact⟨_,⟨0,by rw[HT.o];exact .inr ⟨D.o,rfl⟩,by rw[U.o];rfl⟩,⟨_,rfl,n.size,Qba _⟩,n.alloc n.size _⟩
  .
   have v:=Hi (M.o.1 (by first|rfl|trivial));go_wp2_with fail;refine(Qcn _ t _ (SB.new _ _ _) (Qcq v.o) (by omega) v.o.2).mono ?_;rintro e w5 ⟨rfl,an,cn,ln,hl⟩;obtain⟨V,j⟩:=Qcr hl;have W:ln.length<1099511627770:=by
    have h1:=V.num.len_dec (k:=t.size) (by rw[Int.natAbs_natCast];have:=Qa1 _ v.o.2;simpa using this);omega
   have ao:=Hi V;clear V hl;have d:=Hi (b.o.trans (j.mono b.o.size));clear b r g;have b:=d;clear d j;have r:=ce b.o a f.o;have g:=fun o=>ce (b.o.alloc b.o.size o) a f.o
   go_wp2_with fail;refine(Qcm 1 _ (by decide) (by decide)).mono ?_;rintro e w6 ⟨⟨b6,ad,cd,ld,rfl,P,G,S⟩,j⟩;have HN:=Hi (ao.o.below j);have X:IntAt w6 b6 0 1 ad cd ld:=⟨by rw[G.cell];rfl,by rw[G.cell];rfl,S,G.lt⟩;have Y:ld.length<1099511627770:=by
    have:=X.num.len_bits (k:=1) (by decide);omega
   have HD:=Hi X;have Z:O ((0:Int)<1):=Hi (by decide);have aa:O (mkRat ((decVal t.data.toList:Nat):Int) (1:Int).natAbs=mkRat (decVal (Lib.cut t.data.toList [47]).1:Nat) (if (Lib.cut t.data.toList [47]).2.2=true then decVal (Lib.cut t.data.toList [47]).2.1 else 1)):=Hi (by rw[C.o,F.o];rfl);clear X ao P G S;have d:=Hi (b.o.trans (j.mono b.o.size));clear b r g;have b:=d;clear d j;have r:=ce b.o a f.o;have g:=fun o=>ce (b.o.alloc b.o.size o) a f.o
   go_wp2_with fail;have ab:O (QForm t.data.toList):=Hi ⟨by rw[C.o];exact v.o,fun h=>by rw[F.o] at h;cases h⟩;refine(Qdf _ _ _ _ _ _ 0 _ an cn ln _ 0 _ ad cd ld _ (SB.new _ _ _) (Qan _ _ _ _ _ _ _ _) (HN.o.alloc _) (HD.o.alloc _) Z.o W Y).mono ?_;rintro e w8 i;have n:=B.o.trans (b.o.mono (Nat.le_of_lt a));have Q:=n.size;obtain⟨HV,R⟩:=Ia i.val (Only.fresh (n.alloc n.size _) i.2.1 n.size);obtain⟨rfl,E,hr⟩:=i;clear E hr n;go_wp2_with fail;have HQ:O (IsQ (Lib.trimPrefix s.data.toList [45]) _):=Hi (by rw[HT.o];exact .inl ⟨ab.o,aa.o⟩);refine(Qlh _ _ (4*1073741824+1) _ _ (RatVal.room HV.o) HV.o (HQ.o.fits (Nat.le_trans (Qeq _ _) (by simpa using hs))) (by decide)).mono ?_;rintro e w9 i;obtain⟨ae,af⟩:=Ia (R.o.trans (i.2.1.below Q R.o.size)) i.val;obtain⟨rfl,E,hr⟩:=i;clear E hr;go_wp2;go_ret
   exact⟨_,⟨_,HQ.o,by rw[U.o];rfl⟩,⟨_,rfl,Q,af.o⟩,ae.o⟩
theorem Qu0(s:Vs)(m:Int)(w:Vz)(a:w.cell? ⟨4,0,none⟩=some (.int .i64 m))(b:s.size<=1073741824):
 Calls prog 36 #[.string s] w fun e w'=>∃q,QOf s.data.toList q/\NewRat w q e w':=by
 cases hp:Lib.hasPrefix s.data.toList [45]
 . exact Quy s m w a b hp
 . exact Quz s m w a b hp
theorem RatOk.new{w w':Vz}{q:Rat}{e:Ending}(h:RatOk (w.alloc (.cells #[.bool false,.slice none 0 0,.bool false,.slice none 0 0] 123)) w.heap.size q e w'):NewRat w q e w':=
 ⟨⟨_,h.1,Nat.le_refl _,h.val⟩,Only.fresh (bR.alloc lZ _) h.2.1 lZ⟩
theorem RatVal.alloc{w:Vz}{b:Nat}{q:Rat}(h:RatVal w b q)(o:Obj):RatVal (w.alloc o) b q:=h.below (bR.alloc lZ _)
theorem Qu1(bx b j k:Nat)(p q:Rat)(w:Vz)(d:RatVal w bx p)(f:RatVal w b q)(g:Fits p j)(h:Fits q k)(i:j+k<274877906000):
 Calls prog 32 #[.pointer (some ⟨bx,0,none⟩),.pointer (some ⟨b,0,none⟩)] w (NewRat w (p+q)):=by
 have l:=Hi (Qt8 w.heap.size bx b j k p q _ (Qlt w) (d.alloc _) (f.alloc _) g h i );clear d f g h i;go_enter func32,ntmps32;go_wp2_with fail;refine l.o.mono ?_;rintro e r a;have m:=Hi (RatOk.new a);obtain⟨rfl,c,n⟩:=a;clear c n l;go_wp2;go_ret;exact m.o
theorem Qu2(bx b j k:Nat)(p q:Rat)(w:Vz)(d:RatVal w bx p)(f:RatVal w b q)(g:Fits p j)(h:Fits q k)(i:j+k<274877906000):
 Calls prog 34 #[.pointer (some ⟨bx,0,none⟩),.pointer (some ⟨b,0,none⟩)] w (NewRat w (p*q)):=by
 have l:=Hi (Qug w.heap.size bx b j k p q _ (Qlt w) (d.alloc _) (f.alloc _) g h i );clear d f g h i;go_enter func34,ntmps34;go_wp2_with fail;refine l.o.mono ?_;rintro e r a;have m:=Hi (RatOk.new a);obtain⟨rfl,c,n⟩:=a;clear c n l;go_wp2;go_ret;exact m.o
theorem Qcs{a b j k:Nat}(c:a<2 ^ j)(d:b<2 ^ k):a*b<2 ^ (j+k):=by rw[Nat.pow_add];exact Nat.mul_lt_mul'' c d
theorem Fits.mul{p q:Rat}{j k:Nat}(h:Fits p j)(a:Fits q k)(b:0<j):Fits (p*q) (j+k):=by
 rw[<-Qgw];refine Fits.mk ?_ ?_ (by omega)
 . rw[Int.natAbs_mul];exact Qcs h.1 a.1
 . rw[Int.natAbs_mul];exact Qcs h.2 a.2
theorem Fits.add{p q:Rat}{j k:Nat}(h:Fits p j)(a:Fits q k):Fits (p+q) (j+k+1):=by
 rw[<-Qgx];have d:=Qcs h.1 a.2;have b:=Qcs a.1 h.2;have e:(2:Nat) ^ (j+k+1)=2 ^ (j+k)*2:=Nat.pow_succ _ _;rw[Nat.add_comm k j] at b;refine Fits.mk ?_ ?_ (by omega)
 .
  have c:=Int.natAbs_add_le (p.num*(q.den:Int)) (q.num*(p.den:Int));rw[Int.natAbs_mul,Int.natAbs_mul,Int.natAbs_natCast,Int.natAbs_natCast] at c;omega
 .
  rw[Int.natAbs_mul,Int.natAbs_natCast,Int.natAbs_natCast];have:=Qcs h.2 a.2;omega
theorem Fits.sub{p q:Rat}{j k:Nat}(h:Fits p j)(a:Fits q k):Fits (p - q) (j+k+1):=by
 rw[Rat.sub_eq_add_neg];exact h.add a.neg
structure RBag (w0 w:Vz) (L:List (Nat × Rat × Nat)):Prop where
 base:Bl w0 w
 glob:∃m,w.cell? ⟨4,0,none⟩=some (.int .i64 m)
 ts:∀t,t∈ L->RatVal w t.1 t.2.1/\Fits t.2.1 t.2.2/\0<t.2.2
theorem RBag.start{w:Vz}(h:∃m,w.cell? ⟨4,0,none⟩=some (.int .i64 m)):RBag w w []:=⟨Below.refl _ _,h,fun t a=>by cases a⟩
theorem RBag.below{w0 w w':Vz}{L:List (Nat × Rat × Nat)}(h:RBag w0 w L)(a:Bl w w'):RBag w0 w' L:=by
 refine⟨h.base.trans (a.mono h.base.size),?_,fun t b=>⟨(h.ts t b).1.below a,(h.ts t b).2⟩⟩;obtain⟨m,c⟩:=h.glob;exact⟨m,ce a (World.block_lt_of_cell? _ _ c) c⟩
theorem RBag.text{w0 w:Vz}{L:List (Nat × Rat × Nat)}{bx j:Nat}{p:Rat}(h:RBag w0 w L)(c:(bx,p,j)∈ L)(d:j<274877906000):
 Calls prog 22 #[.pointer (some ⟨bx,0,none⟩)] w fun e w'=>(∃s,e=.returned (.string s)/\QText s.data.toList p)/\RBag w0 w' L:=by
 have a:=h.ts _ c;exact(ref_T bx j p w a.1 a.2.1 (by omega)).mono fun e w' b=>⟨b.1,h.below b.2⟩
theorem QOf.empty:QOf [] 0:=⟨0,.inr ⟨fun h=>h.1.1 rfl,rfl⟩,rfl⟩
theorem SB.other{w:Vz}{b g:Nat}{t:Vr}{C:Vw}(h:SB w b t C)(a:b≠g)(i:Nat)(v:Value):SB (w.setCell ⟨g,i,none⟩ v) b t C:=by
 unfold SB at h ⊢;rw[Below.heap_setCell _ _ _ _ a];exact h
structure U64 (w:Vz) (a:Vx) (cap:Nat) (l:Vy) (n:Nat):Prop where
 row:Row .u64 w a cap l
 num:Num 18446744073709551616 l n
 short:l.length<=1099511627776
theorem U64.below{w w':Vz}{a:Vx}{b:Nat}{l:Vy}{n:Nat}(h:U64 w a b l n)(c:Bl w w'):U64 w' a b l n:=⟨h.row.below c,h.num,h.short⟩
theorem U64.drew{w:Vz}{a:Vx}{b:Nat}{l:Vy}{n:Nat}(h:U64 w a b l n):U64 w.drew a b l n:=h.below bR.drew
theorem U64.nil(w:Vz):U64 w none 0 [] 0:=⟨Row.nil _ _,Num.zero _,by simp⟩
theorem Qc7(L:Int)(n:Nat)(a:L=n)(b:n<=2199023255552)(w:Vz):
 (Instr.makeSlice 105 (.int .i64 L) (.int .i64 L)).run prog w=.ok (.slice (some ⟨w.heap.size,0,none⟩) n n) (w.alloc (.cells (wordCells .u64 (zeros n)) 190)):=by
 subst a;rw[<-Qei];exact Go.run_make_row' 105 190 (.int .u64 0) 8 underlying105 Tryz.info64 rfl .i64 .i64 n (by omega) (by omega) w
theorem add64(x y c:Nat)(b:x<18446744073709551616)(e:y<18446744073709551616)(a:c<=1):∃r d:Nat,r<18446744073709551616/\d<=1/\r+18446744073709551616*d=x+y+c/\
 ∀w,(callFunc 223 #[.int .u64 x,.int .u64 y,.int .u64 c]).run prog w=.ok (.value (.tuple #[.int .u64 (r:Int),.int .u64 (d:Int)])) w:=
 ⟨(x+y+c) % 18446744073709551616,(x+y+c) / 18446744073709551616,by omega,by omega,by omega,fun w=>Any7.bits_Add64 Tryz.lays25 x y c a w⟩
theorem Qc8(x y:Nat)(a:x<18446744073709551616)(b:y<18446744073709551616):∃r d:Nat,r<18446744073709551616/\d<=1/\r+18446744073709551616*d=x+y/\
 ∀w,(callFunc 223 #[.int .u64 x,.int .u64 y,.int .u64 0]).run prog w=.ok (.value (.tuple #[.int .u64 (r:Int),.int .u64 (d:Int)])) w:=
 add64 x y 0 a b (by decide)
theorem sub64(x y c:Nat)(b:x<18446744073709551616)(e:y<18446744073709551616)(a:c<=1):∃r d:Nat,r<18446744073709551616/\d<=1/\r+c+y=x+18446744073709551616*d/\
 ∀w,(callFunc 225 #[.int .u64 x,.int .u64 y,.int .u64 c]).run prog w=.ok (.value (.tuple #[.int .u64 (r:Int),.int .u64 (d:Int)])) w:=by
 refine⟨(x+18446744073709551616 - y - c) % 18446744073709551616,if x<y+c then 1 else 0,by omega,by split<;>omega,by split<;>omega,fun w=>Any7.bits_Sub64 Tryz.lays26 x y c a w⟩
theorem Qkh(x y:Nat)(a:x<18446744073709551616)(b:y<18446744073709551616):∃r d:Nat,r<18446744073709551616/\d<=1/\r+y=x+18446744073709551616*d/\
 ∀w,(callFunc 225 #[.int .u64 x,.int .u64 y,.int .u64 0]).run prog w=.ok (.value (.tuple #[.int .u64 (r:Int),.int .u64 (d:Int)])) w:=
 sub64 x y 0 a b (by decide)
theorem mul64(x y:Nat)(a:x<18446744073709551616)(b:y<18446744073709551616):∃h l:Nat,h<18446744073709551616/\l<18446744073709551616/\l+18446744073709551616*h=x*y/\
 ∀w,Calls prog 226 #[.int .u64 x,.int .u64 y] w fun e w'=>e=.returned (.tuple #[.int .u64 (h:Int),.int .u64 (l:Int)])/\w'=w:=by
 refine⟨x*y / 18446744073709551616,x*y % 18446744073709551616,?_,Nat.mod_lt _ (by decide),Nat.mod_add_div _ _,fun w=>Any.bits_Mul64 Tryz.lays264 x y a b w⟩;rw[Nat.div_lt_iff_lt_mul (by decide)];exact Nat.mul_lt_mul'' a b
theorem Qb3(a:Vx)(c:Nat)(l:Vy)(i:Nat)(w:Vz)(h:Row .u64 w a c l)(hl:l.length<=1099511627776)(m:i<=2199023255552):
 Calls prog 224 #[.slice a l.length c,.int .i64 i] w fun e w'=>e=.returned (.int .u64 ((l.getD i 0:Nat):Int))/\w'=w:=by
 by_cases f:i<l.length
 .
  obtain⟨b,j,rfl,n,k⟩:=h.cell i f;obtain⟨d,g⟩:=nm (l.getD i 0);rw[g] at k;rw[g];clear g h;go_enter func224,ntmps224;go_wp2;go_ret;exact⟨rfl,rfl⟩
 .
  rw[Qbw l i (by omega)];clear h;go_enter func224,ntmps224;go_wp2;go_ret;exact⟨rfl,rfl⟩
theorem Qsg(l:Vy)(k:Nat)(hk:k<=l.length)(h:k=0∨l.getD (k - 1) 0≠0):Trim (l.take k):=by
 rcases h with rfl|h
 . left;simp
 .
  by_cases a:k=0
  . left;subst a;simp
  .
   right;rw[List.length_take,Nat.min_eq_left hk,List.getD_eq_getElem?_getD,List.getElem?_take_of_lt (by omega),<-List.getD_eq_getElem?_getD];exact h
theorem Qsh(l:Vy)(k:Nat)(hk:k<l.length)(h:l.getD k 0=0):val 18446744073709551616 (l.take (k+1))=val 18446744073709551616 (l.take k):=by
 rw[Qbv _ l k hk,h];simp
theorem Qgk(a:Vx)(c:Nat)(l:Vy)(w:Vz)(h:Row .u64 w a c l)(hl:l.length<=1099511627776):
 Calls prog 187 #[.slice a l.length c] w fun e w'=>(∃k,k<=l.length/\e=.returned (.slice a k c)/\val 18446744073709551616 (l.take k)=val 18446744073709551616 l/\Trim (l.take k))/\w'=w:=by
 have m:=h.fit;go_enter func187,ntmps187;go_wp2;go_loop [3] (fun n=>∃k:Nat,k<=l.length/\n=.int .i64 k/\val 18446744073709551616 (l.take k)=val 18446744073709551616 l) (fun n=>(intOf n).toNat)
 case atStart=>exact⟨l.length,Nat.le_refl _,rfl,by rw[List.take_length]⟩
 case round=>
  obtain⟨k,hk,rfl,p⟩:=hrel;have f:O (val 18446744073709551616 (l.take k)=val 18446744073709551616 l):=p;clear p;by_cases t:k=0
  .
   subst t;rcases h.shape with ⟨rfl,rfl⟩|⟨b,g,rfl,u⟩
   all_goals
    go_wp2;go_ret;exact⟨⟨0,by omega,by simp,f.o,.inl (by simp)⟩,rfl⟩
  .
   obtain⟨b,g,rfl,u,q⟩:=h.cell (k - 1) (by omega);obtain⟨j,rfl⟩:∃j,k=j+1:=⟨k - 1,by omega⟩;simp only[Nat.add_sub_cancel] at q;obtain⟨d,i⟩:=nm (l.getD j 0);rw[i] at q;have r:O (l.getD j 0=d):=i;clear i;by_cases s:d=0
   .
    subst s;go_wp2;go_round
    case rel=>exact⟨j,by omega,by go_num,(Qsh l j (by omega) r.o).symm.trans f.o⟩
    case measure=>simp[intOf]
   .
    have v:((d:Int) == 0)=false:=by simp;omega
    go_wp2;go_ret;exact⟨⟨j+1,hk,by simp,f.o,Qsg l (j+1) hk (.inr (by rw[Nat.add_sub_cancel,r.o];exact s))⟩,rfl⟩
theorem Qc9(g n a x:Nat)(rs:Vy)(w:Vz)(h:Blk .u64 190 w g rs)(hl:rs.length=n)(j:Small 18446744073709551616 rs)(k:n<=a)(m:n<=1099511627776)(l:val 18446744073709551616 rs=x):
 Calls prog 187 #[.slice (some ⟨g,0,none⟩) n a] w fun e w'=>(∃r,e=.returned (.slice (some ⟨g,0,none⟩) r.length a)/\U64 w (some ⟨g,0,none⟩) a r x)/\w'=w:=by
 have c:=h.row n (by omega) a k;rw[List.take_of_length_le (by omega)] at c;have i:=Qgk (some ⟨g,0,none⟩) a rs w c (by omega);rw[hl] at i;refine i.mono ?_;rintro e o ⟨⟨q,p,rfl,d,f⟩,rfl⟩;have b:(rs.take q).length=q:=by rw[List.length_take];omega
 exact⟨⟨rs.take q,by rw[b],c.take q (by omega),⟨j.take q,f,d.trans l⟩,by rw[b];omega⟩,rfl⟩
theorem Qsi{l:Vy}(h:Num 18446744073709551616 l 1):l= [1]:=h.inj (by decide) ⟨fun d a=>by simp at a;omega,.inr (by simp),by simp[val]⟩
theorem Qda(a:Vx)(f:Nat)(l:Vy)(n:Nat)(w:Vz)(h:U64 w a f l n):
 Calls prog 172 #[.slice a l.length f] w fun e w'=>e=.returned (.bool (decide (n=1)))/\w'=w:=by
 have q:=h.short;by_cases k:l.length=1
 .
  obtain⟨b,o,rfl,r,j⟩:=h.row.cell 0 (by omega);obtain⟨d,g⟩:=nm (l.getD 0 0);rw[g] at j;have p:n=d:=by
   rw[<-h.num.eq]
   match l,k with
   | [x],_=>simp at g;simp[val,g]
  subst p;rw[Nat.add_zero] at j;by_cases c:n=1
  .
   subst c;clear h g;go_enter func172,ntmps172;go_wp2;go_ret;exact⟨rfl,rfl⟩
  .
   have m:((n:Int) == 1)=false:=by rw[beq_eq_false_iff_ne];omega
   rw[show decide (n=1)=false by simpa using c];clear h g c;go_enter func172,ntmps172;go_wp2;go_ret;exact⟨by simp[m],rfl⟩
 .
  have i:n≠1:=fun j=>k (by subst j;rw[Qsi h.num];rfl)
  have m:((l.length:Int) == 1)=false:=by rw[beq_eq_false_iff_ne];omega
  rw[show decide (n=1)=false by simpa using i];clear h k i;go_enter func172,ntmps172;go_wp2;go_ret;exact⟨rfl,rfl⟩
theorem Qdb(G H:Vx)(c1 c2:Nat)(l m:Vy)(x y:Nat)(w:Vz)(a:U64 w G c1 l x)(c:U64 w H c2 m y):
 Calls prog 176 #[.slice G l.length c1,.slice H m.length c2] w fun e w'=>e=.returned (.int .i64 (cmp3 x y))/\Below w.heap.size w w':=by
 have Q:=a.short;have R:=c.short;by_cases f:l.length<m.length
 .
  have u:((l.length:Int) != (m.length:Int))=true:=by rw[bne_iff_ne];omega
  have v:cmp3 x y= -1:=Qc0 (by rw[<-a.num.eq,<-c.num.eq];exact Qat (by omega) a.num.small c.num.trim f);have A:O (cmp3 x y= -1):=v;clear v a c;go_enter func176,ntmps176;go_wp2;go_ret;exact⟨by rw[A.o];rfl,Below.refl _ _⟩
 by_cases n:m.length<l.length
 .
  have u:((l.length:Int) != (m.length:Int))=true:=by rw[bne_iff_ne];omega
  have v:cmp3 x y=1:=Qdx (by rw[<-a.num.eq,<-c.num.eq];exact Qat (by omega) c.num.small a.num.trim n);have A:O (cmp3 x y=1):=v;clear v a c;go_enter func176,ntmps176;go_wp2;go_ret;exact⟨by rw[A.o];rfl,Below.refl _ _⟩
 have p:m.length=l.length:=by omega
 have I:O (m.length=l.length):=p;rw[p];have u:((l.length:Int) != (l.length:Int))=false:=by simp
 clear f n p;go_enter func176,ntmps176;go_wp2;go_loopw [5] (fun i wr=>∃k:Nat,k<=l.length/\i=.int .i64 ((k:Int) - 1)/\l.drop k=m.drop k/\Below w.heap.size w wr) (fun i _=>(intOf i+1).toNat)
 case atStart=>exact⟨l.length,Nat.le_refl _,rfl,by rw[List.drop_of_length_le lZ,List.drop_of_length_le (by rw[I.o];exact Nat.le_refl _)],Below.refl _ _⟩
 case round=>
  obtain⟨k,hk,rfl,s,t⟩:=hrel;have z:O (l.drop k=m.drop k):=s;clear s;by_cases M:k=0
  .
   subst M;go_wp2;go_ret;exact⟨by rw[Qh6 (by rw[<-a.num.eq,<-c.num.eq];have:=z.o;simp at this;rw[this])];rfl,t⟩
  .
   obtain⟨j,rfl⟩:∃j,k=j+1:=⟨k - 1,by omega⟩;have g:j<l.length:=by omega
   have h:j<m.length:=by have:=I.o;omega
   obtain⟨b,N,rfl,B,q⟩:=a.row.cell j g;obtain⟨S,J,rfl,C,r⟩:=c.row.cell j h;obtain⟨d,s⟩:=nm (l.getD j 0);obtain⟨e,D⟩:=nm (m.getD j 0);rw[s] at q;rw[D] at r;have K:=ce t B q;have L:=ce t C r;have E:O (l.getD j 0=d):=s;have F:O (m.getD j 0=e):=D;clear s D q r;have P:((j+1:Nat):Int) - 1=(j:Int):=by omega
   rw[P];by_cases f:d<e
   .
    go_wp2;go_region
    all_goals
     go_wp2;go_ret;exact⟨by rw[Qc0 (by rw[<-a.num.eq,<-c.num.eq];exact Qdy (by omega) a.num.small j g h z.o (by rw[E.o,F.o];exact f))];rfl,t.drew⟩
   by_cases n:e<d
   .
    go_wp2;go_region
    all_goals
     go_wp2;go_region
    all_goals
     go_wp2;go_ret;exact⟨by rw[Qdx (by rw[<-a.num.eq,<-c.num.eq];exact Qdy (by omega) c.num.small j h g z.o.symm (by rw[E.o,F.o];omega))];rfl,t.drew.drew⟩
   .
    go_wp2;go_region
    all_goals
     go_wp2;go_region
    all_goals
     go_wp2;go_roundw
     case rel=>exact⟨j,by omega,by go_num,Qh7 g h z.o (E.o.trans ((show d=e by omega).trans F.o.symm)),t.drew.drew⟩
     case measure=>simp[intOf]
theorem Qsj(k c d e r a:Nat)(rs l m:Vy)(hk:k<rs.length)(b:l.getD k 0=d)(f:m.getD k 0=e)(g:r+18446744073709551616*a=d+e+c)
 (h:val 18446744073709551616 (rs.take k)+18446744073709551616 ^ k*c=val 18446744073709551616 (l.take k)+val 18446744073709551616 (m.take k)):
 val 18446744073709551616 ((rs.set k r).take (k+1))+18446744073709551616 ^ (k+1)*a=val 18446744073709551616 (l.take (k+1))+val 18446744073709551616 (m.take (k+1)):=by
 rw[take_set _ _ _ hk,Qal,List.length_take,Nat.min_eq_left (by omega),Qae,Qae,b,f,Nat.pow_succ];have i:18446744073709551616 ^ k*(r+18446744073709551616*a)=18446744073709551616 ^ k*(d+e+c):=by rw[g]
 rw[Nat.mul_add,Nat.mul_add,Nat.mul_add,<-Nat.mul_assoc] at i;omega
theorem Qsk(D E:Vx)(c1 c2:Nat)(l m:Vy)(x y:Nat)(w:Vz)(X:U64 w D c1 l x)(Y:U64 w E c2 m y)(hl:l.length<1099511627776)(hm:m.length<1099511627776):
 Calls prog 184 #[.slice D l.length c1,.slice E m.length c2] w fun e w'=>(∃a s r,e=.returned (.slice a r.length s)/\U64 w' a s r (x+y))/\Below w.heap.size w w':=by
 obtain⟨n,hn,F,G⟩:∃n,max l.length m.length=n/\l.length<=n/\m.length<=n:=⟨_,rfl,by omega,by omega⟩;have aa:max (l.length:Int) (m.length:Int)=(n:Int):=by omega
 have H:∀w,(Instr.makeSlice 105 (.int .i64 ((n:Int)+1)) (.int .i64 ((n:Int)+1))).run prog w=.ok (.slice (some ⟨w.heap.size,0,none⟩) (n+1) (n+1)) (w.alloc (.cells (wordCells .u64 (zeros (n+1))) 190)):=
  fun w=>Qc7 _ (n+1) (by omega) (by omega) w
 have ab:n<1099511627776:=by omega
 obtain⟨I,J⟩:=Ia X Y;clear X Y hn;go_enter func184,ntmps184;go_wp2;clear H;go_loopw [7,18] (fun c i wr=>∃(k q:Nat) (rs:Vy),k<=n/\q<=1/\c=.int .u64 q/\i=.int .i64 k/\Blk .u64 190 wr w.heap.size rs/\rs.length=n+1/\Small 18446744073709551616 rs/\
  val 18446744073709551616 (rs.take k)+18446744073709551616 ^ k*q=val 18446744073709551616 (l.take k)+val 18446744073709551616 (m.take k)/\Below w.heap.size w wr) (fun _ i _=>n - (intOf i).toNat)
 case atStart=>exact⟨0,0,zeros (n+1),by omega,by omega,rfl,rfl,Blk.new _ _ _ _,Qag _,Qam _ _ (by omega),by simp[val],bR.alloc lZ _⟩
 case round=>
  obtain⟨k,c,rs,hk,hc,rfl,rfl,hB,g,t,Z,hb⟩:=hrel;obtain⟨HV,b,HB,u,f⟩:=Id Z g hB t hb;clear Z t hb;by_cases ad:k<n
  .
   obtain⟨d,B⟩:=nm (l.getD k 0);obtain⟨e,C⟩:=nm (m.getD k 0);have K:d<18446744073709551616:=by rw[<-B];exact I.o.num.small.getD (by omega) k
   have L:e<18446744073709551616:=by rw[<-C];exact J.o.num.small.getD (by omega) k
   obtain⟨r,q,hr,M,v,h⟩:=add64 d e c K L hc;obtain⟨z,A⟩:=nm (rs.getD k 0);have g1:=hB.free k;have N:=hB.cell k (by omega);rw[A] at N;obtain⟨j,p⟩:=Ia (Qb3 D c1 l k wr (I.o.row.below f.o) (by omega) (by omega)) (Qb3 E c2 m k wr (J.o.row.below f.o) (by omega) (by omega));rw[B] at j;rw[C] at p;obtain⟨O,P,Q⟩:=Ib B C v;clear B C A hB g v;go_wp2_with fail;refine j.o.mono ?_;rintro R w1 ⟨rfl,S⟩;subst S;go_wp2_with fail;refine p.o.mono ?_;rintro R w2 ⟨rfl,T⟩;subst T;clear j p;go_wp2_with (simp only[h]);go_roundw
   case rel=>exact⟨k+1,q,rs.set k r,by omega,M,rfl,by go_num,HB.o.set k _,by rw[List.length_set];exact b.o,u.o.set k hr,Qsj k c d e r q rs l m (by have:=b.o;omega) O.o P.o Q.o HV.o,f.o.setCell lZ _⟩
   case measure=>simp[intOf];omega
  .
   obtain⟨z,A⟩:=nm (rs.getD n 0);have g1:=hB.free n;have N:=hB.cell n (by omega);rw[A] at N;clear A hB g;go_wp2_with fail;have U:(rs.set n c).length=n+1:=by rw[List.length_set];exact b.o
   have V:=HB.o.set n c;have W:val 18446744073709551616 (rs.set n c)=x+y:=by
    rw[Qfs _ _ _ _ b.o];have R:k=n:=by omega
    have e2:=HV.o;rw[R,Qa6 _ l _ F,Qa6 _ m _ G,I.o.num.eq,J.o.num.eq] at e2;omega
   refine(Qc9 w.heap.size (n+1) (n+1) (x+y) (rs.set n c) _ V U (u.o.set _ (by omega)) lZ (by omega) W).mono ?_;rintro e w1 ⟨⟨r,rfl,hu⟩,rfl⟩;go_wp2;go_ret;exact⟨⟨_,_,r,rfl,hu⟩,f.o.setCell lZ _⟩
theorem Qsl(Z K:Vx)(c1 c2:Nat)(l m:Vy)(x y:Nat)(w:Vz)(t:U64 w Z c1 l x)(u:U64 w K c2 m y)(ab:y<=x):
 Calls prog 185 #[.slice Z l.length c1,.slice K m.length c2] w fun e w'=>(∃a v r,e=.returned (.slice a r.length v)/\U64 w' a v r (x - y))/\Below w.heap.size w w':=by
 have s1:=t.short;have s2:=u.short;have L:m.length<=l.length:=by
  apply bC;intro hc;have:=Qat (B:=18446744073709551616) (by decide) t.num.small u.num.trim (by omega);rw[t.num.eq,u.num.eq] at this;omega
 have M:=
  fun w=>Qc7 _ l.length rfl (by omega) w
 obtain⟨N,O⟩:=Ia t u;clear t u;go_enter func185,ntmps185;go_wp2;clear M;go_loopw [7,14] (fun c i wr=>∃(k s:Nat) (rs:Vy),k<=l.length/\s<=1/\c=.int .u64 s/\i=.int .i64 k/\Blk .u64 190 wr w.heap.size rs/\rs.length=l.length/\Small 18446744073709551616 rs/\
  val 18446744073709551616 (rs.take k)+val 18446744073709551616 (m.take k)=val 18446744073709551616 (l.take k)+18446744073709551616 ^ k*s/\Below w.heap.size w wr) (fun _ i _=>l.length - (intOf i).toNat)
 case atStart=>exact⟨0,0,zeros l.length,by omega,by omega,rfl,rfl,Blk.new _ _ _ _,Qag _,Qam _ _ (by omega),by simp[val],bR.alloc lZ _⟩
 case round=>
  obtain⟨k,c,rs,hk,hc,rfl,rfl,hB,A,C,hv,hb⟩:=hrel;obtain⟨HV,f,HB,n,g⟩:=Id hv A hB C hb;clear hv C hb;by_cases P:k<l.length
  .
   obtain⟨b,D,rfl,E,j⟩:=N.o.row.cell k P;obtain⟨d,I⟩:=nm (l.getD k 0);obtain⟨e,J⟩:=nm (m.getD k 0);have Q:d<18446744073709551616:=by rw[<-I];exact N.o.num.small.getD (by omega) k
   have R:e<18446744073709551616:=by rw[<-J];exact O.o.num.small.getD (by omega) k
   rw[I] at j;have aa:=ce g.o E j;obtain⟨r,s,hr,S,F,q⟩:=sub64 d e c Q R hc;obtain⟨z,hz⟩:=nm (rs.getD k 0);have g1:=hB.free k;have g2:=hB.cell k (by omega);rw[hz] at g2;have G:=Hi (Qb3 K c2 m k wr.drew (O.o.row.below g.o.drew) (by omega) (by omega));rw[J] at G;obtain⟨T,U,V⟩:=Ib I J F;have i0:(0:Int)<=(k:Int):=by omega
   have i1:(k:Int)<(l.length:Int):=by omega
   have ad:=(((g.o.setCell (p:=⟨w.heap.size,k,none⟩) lZ (.int .u64 (r:Int))).drew).cell (p:=⟨b,D+k,none⟩) E).trans j;clear I J hz hB A F j;go_wp2_with fail;go_region_held3 (fun w'=>w'.cell? ⟨b,D+k,none⟩=some (.int .u64 d)) ((simp [*])) (first
    |(
     go_at_call 224;refine G.o.mono ?_;rintro e1 w2 ⟨rfl,W⟩
     subst W)
    |simp only[q])
   go_wp2;go_roundw
   case rel=>exact⟨k+1,s,rs.set k r,by omega,S,rfl,by go_num,(HB.o.set k _).drew,by rw[List.length_set];exact f.o,n.o.set k hr,Qft _ k c d e r s rs l m (by have:=f.o;omega) T.o U.o V.o HV.o,(g.o.setCell lZ _).drew⟩
   case measure=>simp[intOf];omega
  .
   have e1:k=l.length:=by omega
   go_wp2_with fail;have X:val 18446744073709551616 rs=x - y:=by
    have e2:=HV.o;have H:=Qab (B:=18446744073709551616) (by decide) n.o;rw[f.o] at H;rw[e1,List.take_of_length_le (by have:=f.o;omega),Qa6 _ m _ L,List.take_length,N.o.num.eq,O.o.num.eq] at e2;have Y:c=0:=by
     rcases Nat.eq_zero_or_pos c with h|h
     . exact h
     .
      have:c=1:=by omega
      subst this;omega
    subst Y;omega
   refine(Qc9 w.heap.size l.length l.length (x - y) rs _ HB.o f.o n.o lZ (by omega) X).mono ?_;rintro e w1 ⟨⟨r,rfl,hu⟩,rfl⟩;go_wp2;go_ret;exact⟨⟨_,_,r,rfl,hu⟩,g.o⟩
structure RowDone (w w':Vz) (g off n:Nat) (rs rs':Vy):Prop where
 blk:Blk .u64 190 w' g rs'
 len:rs'.length=rs.length
 small:Small 18446744073709551616 rs'
 only:Only g w w'
 o:∀p,p<off∨off+n<=p->rs'.getD p 0=rs.getD p 0
theorem Row.onlyG{k:IntKind}{w w':Vz}{a:Vx}{d:Nat}{l:Vy}{g:Nat}(h:Row k w a d l)(j:Only g w w')(m:∀b c,a=some ⟨b,c,none⟩->b≠g):Row k w' a d l:=by
 refine⟨h.fit,?_,fun i o=>?_⟩
 .
  rcases h.shape with f|⟨e,c,rfl,n⟩
  . exact .inl f
  . exact .inr ⟨e,c,rfl,by have:=j.size;omega⟩
 . obtain⟨e,c,f,n,p⟩:=h.cell i o
   exact⟨e,c,f,by have:=j.size;omega,(World.cell?_of_block (w:=w) (j.block e n (m e c f))).trans p⟩
theorem U64.onlyG{w w':Vz}{a:Vx}{c:Nat}{l:Vy}{n g:Nat}(h:U64 w a c l n)(f:Only g w w')(d:∀b e,a=some ⟨b,e,none⟩->b≠g):U64 w' a c l n:=⟨h.row.onlyG f d,h.num,h.short⟩
theorem Qgm{rs b:Vy}{a j x:Nat}(h:∀p,p<a∨a+j<=p->b.getD p 0=rs.getD p 0):∀p,p<a∨a+(j+1)<=p->(b.set (a+j) x).getD p 0=rs.getD p 0:=by
 intro p c;rw[getD_set_ne _ _ _ _ (by omega)];exact h p (by omega)
theorem Qks(B p a c over b t R:Nat)(rs:Vy)(d:p<rs.length)(e:rs.getD p 0=a)(f:c+B*b=a+t+over)(h:val B rs+B ^ p*over=R):
 val B (rs.set p c)+B ^ (p+1)*b=R+B ^ p*t:=by
 have g:=Qbi B rs p c d;rw[e] at g;have i:B ^ p*(c+B*b)=B ^ p*(a+t+over):=by rw[f]
 rw[Nat.mul_add,Nat.mul_add,Nat.mul_add,<-Nat.mul_assoc] at i;rw[Nat.pow_succ];omega
theorem Qtb(B p a d c b t R S:Nat)(rs:Vy)(e:p<rs.length)(f:rs.getD p 0=a)(g:d+t+c=a+B*b)(h:val B rs+S=R+B ^ p*c):
 val B (rs.set p d)+(S+B ^ p*t)=R+B ^ (p+1)*b:=by
 have i:=Qbi B rs p d e;rw[f] at i;have j:B ^ p*(d+t+c)=B ^ p*(a+B*b):=by rw[g]
 rw[Nat.mul_add,Nat.mul_add,Nat.mul_add,<-Nat.mul_assoc] at j;rw[Nat.pow_succ];omega
theorem Qgn{v d over:Nat}(a:v<18446744073709551616)(b:d<18446744073709551616):v*d<=18446744073709551615*18446744073709551615:=Nat.mul_le_mul (by omega) (by omega)
theorem Qgo(B a j d:Nat)(m:Vy):B ^ a*(d*val B (m.take (j+1)))=B ^ a*(d*val B (m.take j))+B ^ (a+j)*(m.getD j 0*d):=by
 rw[Qae,Nat.mul_add,Nat.mul_add,Nat.pow_add]
 congr 1
 rw[Nat.mul_assoc,Nat.mul_comm (m.getD j 0) d,<-Nat.mul_assoc d,Nat.mul_comm d (B ^ j),Nat.mul_assoc]
theorem Qtc(g a r:Nat)(rs:Vy)(F:Vx)(c2:Nat)(m:Vy)(d:Nat)(w:Vz)(hB:Blk .u64 190 w g rs)(s:Small 18446744073709551616 rs)(hm:Row .u64 w F c2 m)(t:Small 18446744073709551616 m)(ag:m.length<=1099511627776)(hd:d<18446744073709551616)
 (aa:a+m.length<=rs.length) (ab:m.length<=r) (u:∀b o,F=some ⟨b,o,none⟩->b≠g):
 Calls prog 186 #[.slice (some ⟨g,a,none⟩) m.length r,.slice F m.length c2,.int .u64 d] w fun e w'=>∃over x,e=.returned (.int .u64 ((over:Nat):Int))/\over<18446744073709551616/\RowDone w w' g a m.length rs x/\val 18446744073709551616 x+18446744073709551616 ^ (a+m.length)*over=val 18446744073709551616 rs+18446744073709551616 ^ a*(d*val 18446744073709551616 m):=by
 obtain⟨G,H,HM,I,J⟩:=Id hB s hm t u;clear hB s hm t u;go_enter func186,ntmps186;go_wp2;go_loopw [7,19] (fun o i wr=>∃(k over:Nat) (n:Vy),k<=m.length/\over<18446744073709551616/\o=.int .u64 over/\i=.int .i64 k/\RowDone w wr g a k rs n/\val 18446744073709551616 n+18446744073709551616 ^ (a+k)*over=val 18446744073709551616 rs+18446744073709551616 ^ a*(d*val 18446744073709551616 (m.take k))) (fun _ i _=>m.length - (intOf i).toNat)
 case atStart=>exact⟨0,0,rs,by omega,by omega,rfl,rfl,⟨G.o,rfl,H.o,Only.refl _ _,fun _ _=>rfl⟩,by simp[val]⟩
 case round=>
  obtain⟨k,over,n,hk,y,rfl,rfl,q,p⟩:=hrel;obtain⟨c,HV⟩:=Ia q p;clear p;by_cases K:k<m.length
  .
   obtain⟨b,o,rfl,ah,L⟩:=(HM.o.onlyG c.o.only J.o).cell k K;obtain⟨v,p⟩:=nm (m.getD k 0);rw[p] at L;have A:v<18446744073709551616:=by rw[<-p];exact I.o.getD (by omega) k
   obtain⟨z,E⟩:=nm (n.getD (a+k) 0);have M:z<18446744073709551616:=by rw[<-E];exact c.o.small.getD (by omega) _
   have g1:=q.blk.free (a+k);have g2:=q.blk.cell (a+k) (by rw[q.len];omega);rw[E] at g2;obtain⟨h,l,hh,hl,N,B⟩:=mul64 v d A hd;obtain⟨l',c1,O,ad,P,Q⟩:=Qc8 l over hl y;obtain⟨R,f,S,ae,T,U⟩:=Qc8 z l' M O;have C:=Qgn (over:=over) A hd;have j:R+18446744073709551616*(h+c1+f)=z+v*d+over:=by omega
   have V:h+c1+f<18446744073709551616:=by omega
   have af:h+c1<18446744073709551616:=by omega
   obtain⟨W,D,X,Y⟩:=Ic B j p E;clear q p E B j N P T C;go_wp2_with (first|(go_at_call 226;refine(W.o _).mono ?_;rintro e w2 ⟨rfl,Z⟩;subst Z)|simp only[Q]|simp only[U]);go_roundw
   case rel=>
    refine⟨k+1,h+c1+f,n.set (a+k) R,by omega,V,by go_num,by go_num,⟨c.o.blk.set _ _,by rw[List.length_set];exact c.o.len,c.o.small.set _ S,c.o.only.setCell _ _,Qgm c.o.o⟩,?_⟩;have h1:=Qks 18446744073709551616 (a+k) z R over (h+c1+f) (v*d) _ n (by rw[c.o.len];omega) Y.o (by rw[D.o]) HV.o;rw[Nat.add_assoc] at h1;rw[h1,Qgo,X.o];omega
   case measure=>simp[intOf];omega
  .
   have e1:k=m.length:=by omega
   subst e1;clear q;go_wp2;go_ret;exact⟨over,n,rfl,y,c.o,by have:=HV.o;rw[List.take_length] at this;exact this⟩
theorem Qtd(g a r:Nat)(rs:Vy)(F:Vx)(c2:Nat)(m:Vy)(d:Nat)(w:Vz)(hB:Blk .u64 190 w g rs)(s:Small 18446744073709551616 rs)(hm:Row .u64 w F c2 m)(t:Small 18446744073709551616 m)(ag:m.length<=1099511627776)(hd:d<18446744073709551616)
 (aa:a+m.length<=rs.length) (ab:m.length<=r) (u:∀b o,F=some ⟨b,o,none⟩->b≠g):
 Calls prog 247 #[.slice (some ⟨g,a,none⟩) m.length r,.slice F m.length c2,.int .u64 d] w fun e w'=>∃over x,e=.returned (.int .u64 ((over:Nat):Int))/\over<18446744073709551616/\RowDone w w' g a m.length rs x/\val 18446744073709551616 x+18446744073709551616 ^ a*(d*val 18446744073709551616 m)=val 18446744073709551616 rs+18446744073709551616 ^ (a+m.length)*over:=by
 obtain⟨G,H,HM,I,J⟩:=Id hB s hm t u;clear hB s hm t u;go_enter func247,ntmps247;go_wp2;go_loopw [7,19] (fun o i wr=>∃(k over:Nat) (n:Vy),k<=m.length/\over<18446744073709551616/\o=.int .u64 over/\i=.int .i64 k/\RowDone w wr g a k rs n/\val 18446744073709551616 n+18446744073709551616 ^ a*(d*val 18446744073709551616 (m.take k))=val 18446744073709551616 rs+18446744073709551616 ^ (a+k)*over) (fun _ i _=>m.length - (intOf i).toNat)
 case atStart=>exact⟨0,0,rs,by omega,by omega,rfl,rfl,⟨G.o,rfl,H.o,Only.refl _ _,fun _ _=>rfl⟩,by simp[val]⟩
 case round=>
  obtain⟨k,over,n,hk,y,rfl,rfl,q,p⟩:=hrel;obtain⟨c,HV⟩:=Ia q p;clear p;by_cases K:k<m.length
  .
   obtain⟨b,o,rfl,ah,L⟩:=(HM.o.onlyG c.o.only J.o).cell k K;obtain⟨v,p⟩:=nm (m.getD k 0);rw[p] at L;have A:v<18446744073709551616:=by rw[<-p];exact I.o.getD (by omega) k
   obtain⟨z,E⟩:=nm (n.getD (a+k) 0);have M:z<18446744073709551616:=by rw[<-E];exact c.o.small.getD (by omega) _
   have g1:=q.blk.free (a+k);have g2:=q.blk.cell (a+k) (by rw[q.len];omega);rw[E] at g2;obtain⟨h,l,hh,hl,N,B⟩:=mul64 v d A hd;obtain⟨l',c1,O,ad,P,Q⟩:=Qc8 l over hl y;obtain⟨R,f,S,ae,T,U⟩:=Qkh z l' M O;have C:=Qgn (over:=over) A hd;have j:R+v*d+over=z+18446744073709551616*(h+c1+f):=by omega
   have V:h+c1+f<18446744073709551616:=by omega
   have af:h+c1<18446744073709551616:=by omega
   obtain⟨W,D,X,Y⟩:=Ic B j p E;clear q p E B j N P T C;go_wp2_with (first|(go_at_call 226;refine(W.o _).mono ?_;rintro e w2 ⟨rfl,Z⟩;subst Z)|simp only[Q]|simp only[U]);go_roundw
   case rel=>
    refine⟨k+1,h+c1+f,n.set (a+k) R,by omega,V,by go_num,by go_num,⟨c.o.blk.set _ _,by rw[List.length_set];exact c.o.len,c.o.small.set _ S,c.o.only.setCell _ _,Qgm c.o.o⟩,?_⟩;have h1:=Qtb 18446744073709551616 (a+k) z R over (h+c1+f) (v*d) _ _ n (by rw[c.o.len];omega) Y.o D.o HV.o;rw[Nat.add_assoc a] at h1;rw[Qgo,X.o];exact h1
   case measure=>simp[intOf];omega
  .
   have e1:k=m.length:=by omega
   subst e1;clear q;go_wp2;go_ret;exact⟨over,n,rfl,y,c.o,by have:=HV.o;rw[List.take_length] at this;exact this⟩
theorem Qte(g a j:Nat)(rs:Vy)(A:Vx)(c2:Nat)(m:Vy)(w:Vz)(hB:Blk .u64 190 w g rs)(l:Small 18446744073709551616 rs)(N:Row .u64 w A c2 m)(n:Small 18446744073709551616 m)(T:m.length<=1099511627776)
 (O:a+m.length<=rs.length) (P:m.length<=j) (p:∀b o,A=some ⟨b,o,none⟩->b≠g):
 Calls prog 248 #[.slice (some ⟨g,a,none⟩) m.length j,.slice A m.length c2] w fun e w'=>∃over q,e=.returned (.int .u64 ((over:Nat):Int))/\over<=1/\RowDone w w' g a m.length rs q/\val 18446744073709551616 q+18446744073709551616 ^ (a+m.length)*over=val 18446744073709551616 rs+18446744073709551616 ^ a*(1*val 18446744073709551616 m):=by
 obtain⟨B,C,U,D,E⟩:=Id hB l N n p;clear hB l N n p;go_enter func248,ntmps248;go_wp2;go_loopw [5,14] (fun o i wr=>∃(k over:Nat) (d:Vy),k<=m.length/\over<=1/\o=.int .u64 over/\i=.int .i64 k/\RowDone w wr g a k rs d/\val 18446744073709551616 d+18446744073709551616 ^ (a+k)*over=val 18446744073709551616 rs+18446744073709551616 ^ a*(1*val 18446744073709551616 (m.take k))) (fun _ i _=>m.length - (intOf i).toNat)
 case atStart=>exact⟨0,0,rs,by omega,by omega,rfl,rfl,⟨B.o,rfl,C.o,Only.refl _ _,fun _ _=>rfl⟩,by simp[val]⟩
 case round=>
  obtain⟨k,over,d,hk,r,rfl,rfl,h,f⟩:=hrel;obtain⟨c,Q⟩:=Ia h f;clear f;by_cases F:k<m.length
  .
   obtain⟨b,o,rfl,V,G⟩:=(U.o.onlyG c.o.only E.o).cell k F;obtain⟨v,f⟩:=nm (m.getD k 0);rw[f] at G;have H:v<18446744073709551616:=by rw[<-f];exact D.o.getD (by omega) k
   obtain⟨z,y⟩:=nm (d.getD (a+k) 0);have I:z<18446744073709551616:=by rw[<-y];exact c.o.small.getD (by omega) _
   have Y:=h.blk.free (a+k);have W:=h.blk.cell (a+k) (by rw[h.len];omega);rw[y] at W;obtain⟨R,s,J,t,u,K⟩:=add64 z v over I H r;obtain⟨x,L,M⟩:=Ib u f y;clear h f y u;go_wp2_with (simp only[K]);go_roundw
   case rel=>
    refine⟨k+1,s,d.set (a+k) R,by omega,t,by go_num,by go_num,⟨c.o.blk.set _ _,by rw[List.length_set];exact c.o.len,c.o.small.set _ J,c.o.only.setCell _ _,Qgm c.o.o⟩,?_⟩;have S:=Qks 18446744073709551616 (a+k) z R over s (v*1) _ d (by rw[c.o.len];omega) M.o (by rw[x.o];omega) Q.o;rw[Nat.add_assoc] at S;rw[S,Qgo,L.o];omega
   case measure=>simp[intOf];omega
  .
   have X:k=m.length:=by omega
   subst X;clear h;go_wp2;go_ret;exact⟨over,d,rfl,r,c.o,by have:=Q.o;rw[List.take_length] at this;exact this⟩
theorem Qkr(N F:Vx)(c1 c2:Nat)(l m:Vy)(x y:Nat)(w:Vz)(C:U64 w N c1 l x)(D:U64 w F c2 m y)(ab:l.length+m.length<=1099511627776):
 Calls prog 128 #[.slice N l.length c1,.slice F m.length c2] w fun e w'=>(∃a G r,e=.returned (.slice a r.length G)/\U64 w' a G r (x*y))/\Below w.heap.size w w':=by
 obtain⟨O,E⟩:=Ia C D;by_cases H:l.length=0
 .
  have hx:=(C.num.len_zero (by decide)).2 H;have Y:((l.length:Int) == 0)=true:=by simp[H]
  subst hx;clear C D;go_enter func128,ntmps128;go_wp2;go_ret;exact⟨⟨none,0,[],rfl,by rw[Nat.zero_mul];exact U64.nil _⟩,Below.refl _ _⟩
 by_cases I:m.length=0
 .
  have hy:=(D.num.len_zero (by decide)).2 I;have Y:((l.length:Int) == 0)=false:=by rw[beq_eq_false_iff_ne];omega
  have q2:((m.length:Int) == 0)=true:=by simp[I]
  subst hy;clear C D;go_enter func128,ntmps128;go_wp2;go_ret;exact⟨⟨none,0,[],rfl,by rw[Nat.mul_zero];exact U64.nil _⟩,Below.refl _ _⟩
 have Y:((l.length:Int) == 0)=false:=by rw[beq_eq_false_iff_ne];omega
 have q2:((m.length:Int) == 0)=false:=by rw[beq_eq_false_iff_ne];omega
 obtain⟨g,j⟩:=Ia (Qda N c1 l x w C) (Qda F c2 m y w D);clear C D;by_cases z:x=1
 .
  rw[show decide (x=1)=true by simpa using z] at g;go_enter func128,ntmps128;go_wp2_with fail;refine g.o.mono ?_;rintro e P ⟨rfl,f⟩;subst f;clear g j;go_wp2;go_ret;exact⟨⟨F,c2,m,rfl,by rw[z,Nat.one_mul];exact E.o⟩,Below.refl _ _⟩
 rw[show decide (x=1)=false by simpa using z] at g;by_cases A:y=1
 .
  rw[show decide (y=1)=true by simpa using A] at j;go_enter func128,ntmps128;go_wp2_with fail;refine g.o.mono ?_;rintro e P ⟨rfl,f⟩;subst f;go_wp2_with fail;refine j.o.mono ?_;rintro e P ⟨rfl,f⟩;subst f;clear g j;go_wp2;go_ret;exact⟨⟨N,c1,l,rfl,by rw[A,Nat.mul_one];exact O.o⟩,Below.refl _ _⟩
 rw[show decide (y=1)=false by simpa using A] at j;have R:∀w,(Instr.makeSlice 105 (.int .i64 ((l.length:Int)+(m.length:Int))) (.int .i64 ((l.length:Int)+(m.length:Int)))).run prog w=.ok (.slice (some ⟨w.heap.size,0,none⟩) (l.length+m.length) (l.length+m.length)) (w.alloc (.cells (wordCells .u64 (zeros (l.length+m.length))) 190)):=
  fun w=>Qc7 _ (l.length+m.length) (by omega) (by omega) w
 go_enter func128,ntmps128;go_wp2_with fail;refine g.o.mono ?_;rintro e P ⟨rfl,f⟩;subst f;go_wp2_with fail;refine j.o.mono ?_;rintro e w ⟨rfl,f⟩;subst f;clear g j;go_wp2;clear R;go_loopw [30] (fun i wr=>∃(k:Nat) (rs:Vy),k<=l.length/\i=.int .i64 k/\Blk .u64 190 wr w.heap.size rs/\rs.length=l.length+m.length/\Small 18446744073709551616 rs/\val 18446744073709551616 rs=val 18446744073709551616 (l.take k)*y/\(∀p,k+m.length<=p->rs.getD p 0=0)/\Below w.heap.size w wr) (fun i _=>l.length - (intOf i).toNat)
 case atStart=>exact⟨0,zeros (l.length+m.length),by omega,rfl,Blk.new _ _ _ _,Qag _,Qam _ _ (by omega),by rw[Qeh];simp[val],fun p _=>Qb2 _ _,bR.alloc lZ _⟩
 case round=>
  obtain⟨k,rs,hk,rfl,hB,J,K,Z,hz,hb⟩:=hrel;obtain⟨HB,s,L,HV,HZ,n⟩:=Ie hB J K Z hz hb;clear hB J K Z hz hb;by_cases S:k<l.length
  .
   obtain⟨b,ad,rfl,ae,T⟩:=(O.o.row.below n.o).cell k S;obtain⟨d,Q⟩:=nm (l.getD k 0);rw[Q] at T;have U:d<18446744073709551616:=by rw[<-Q];exact O.o.num.small.getD (by omega) k
   have HD:=Hi Q;have HC:=Hi (Qtc w.heap.size k (l.length+m.length - k) rs F c2 m d wr HB.o L.o (E.o.row.below n.o) E.o.num.small E.o.short U (by have:=s.o;omega) (by omega) (fun b o t=>by
    rcases E.o.row.shape with ⟨h,_⟩|⟨b',o',h,aa⟩
    . rw[h] at t;cases t
    .
     rw[h] at t;obtain⟨rfl,rfl⟩:b'=b/\o'=o:=by simpa using t
     omega))
   clear Q;go_wp2_with fail;refine HC.o.mono ?_;rintro e w2 ⟨over,u,rfl,V,c,v⟩;have g1:=c.blk.free (k+m.length);have g2:=c.blk.cell (k+m.length) (by rw[c.len,s.o];omega);have B:u.getD (k+m.length) 0=0:=by rw[c.o _ (.inr lZ)];exact HZ.o _ lZ
   rw[B] at g2;obtain⟨q,W,X⟩:=Ib c v B;clear c v B HC;go_wp2;go_roundw
   case rel=>
    have M:u.length=l.length+m.length:=by rw[q.o.len];exact s.o
    refine⟨k+1,u.set (k+m.length) over,by omega,by go_num,q.o.blk.set _ _,by rw[List.length_set];exact M,q.o.small.set _ V,?_,?_,(n.o.trans (q.o.only.below lZ n.o.size)).setCell lZ _⟩
    .
     have h3:=Qbi 18446744073709551616 u (k+m.length) over (by omega);rw[X.o,Nat.mul_zero,Nat.add_zero] at h3;rw[h3,W.o,HV.o,Qae,HD.o,E.o.num.eq,Nat.add_mul,Nat.mul_assoc]
    .
     intro p hp;rw[getD_set_ne _ _ _ _ (by omega),q.o.o p (.inr (by omega))];exact HZ.o p (by omega)
   case measure=>simp[intOf];omega
  .
   have e1:k=l.length:=by omega
   go_wp2_with fail;refine(Qc9 w.heap.size (l.length+m.length) (l.length+m.length) (x*y) rs _ HB.o s.o L.o lZ (by omega) (by rw[HV.o,e1,List.take_length,O.o.num.eq])).mono ?_;rintro e P ⟨⟨r,rfl,hu⟩,rfl⟩;go_wp2;go_ret;exact⟨⟨_,_,r,rfl,hu⟩,n.o⟩
theorem Qaw{a b u n1 q r Y:Nat}(c:Y=4294967296*a+b)(d:q*a+r=u):q*b≤4294967296*r+n1↔q*Y≤4294967296*u+n1:=by
 have e:q*Y=4294967296*(q*a)+q*b:=by rw[c,Nat.mul_add,Nat.mul_left_comm]
 generalize q*a=A at*;generalize q*b=T at*;omega
theorem Qd1{a b u n1 Y:Nat}(e:Y=4294967296*a+b)(f:n1<4294967296)(g:0<a):(4294967296*u+n1) / Y≤u / a:=by
 have c:(4294967296*u+n1) / Y≤(4294967296*u+n1) / (4294967296*a):=Nat.div_le_div_left (by omega) (by omega);rw[←Nat.div_div_eq_div_mul] at c;have d:(4294967296*u+n1) / 4294967296=u:=by omega
 rw[d] at c;exact c
theorem Qaf{u n1 Y:Nat}(a:u<Y)(b:n1<4294967296):(4294967296*u+n1) / Y<4294967296:=by
 rw[Nat.div_lt_iff_lt_mul (by omega)];omega
theorem Qax{u n1 q Y:Nat}(a:0<Y)(b:q*Y≤4294967296*u+n1)(c:(4294967296*u+n1) / Y≤q):(4294967296*u+n1) / Y=q:=
 Nat.le_antisymm c ((Nat.le_div_iff_mul_le a).2 b)
theorem Qd2{u n1 q Y:Nat}(a:0<Y)(b:¬q*Y≤4294967296*u+n1):(4294967296*u+n1) / Y<q:=by
 rw[Nat.div_lt_iff_lt_mul a];omega
theorem Qbk{a b u q r Y:Nat}(e:Y=4294967296*a+b)(f:b<4294967296)(g:u<Y)(h:q*a+r=u)(i:4294967296≤r)(j:0<a):q<4294967296∧q*b≤4294967295*4294967295:=by
 have c:q*a<4294967296*a:=by omega
 have d:=Nat.lt_of_mul_lt_mul_right c;exact⟨d,Nat.mul_le_mul (by omega) (by omega)⟩
theorem Qbx{s:Nat}(a:s≤64):2 ^ s*2 ^ (64 - s)=18446744073709551616:=by
 rw[←Nat.pow_add,show s+(64 - s)=64 by omega]
theorem low64{lo s:Nat}(b:s≤64):lo*2 ^ s=18446744073709551616*(lo / 2 ^ (64 - s))+lo*2 ^ s % 18446744073709551616:=by
 have a:=Nat.div_add_mod (lo*2 ^ s) 18446744073709551616;have c:lo*2 ^ s / 18446744073709551616=lo / 2 ^ (64 - s):=by
  rw[←Qbx b,Nat.mul_comm lo,Nat.mul_div_mul_left _ _ (Nat.two_pow_pos s)]
 rw[c] at a;exact a.symm
theorem Qfy{lo s:Nat}(a:s≤64)(hl:lo<18446744073709551616):lo / 2 ^ (64 - s)<2 ^ s:=by
 rw[Nat.div_lt_iff_lt_mul (Nat.two_pow_pos _),Qbx a];exact hl
end Go.Proofs.YtkkadnoecklepaaGreatDoor
