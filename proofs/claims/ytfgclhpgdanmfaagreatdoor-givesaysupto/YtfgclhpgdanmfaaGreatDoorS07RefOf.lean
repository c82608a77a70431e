import Derived.Test.YtfgclhpgdanmfaaGreatDoorS06IntText
import Derived.Lib.IndexMore
import Derived.Lib.Strings
import Derived.Lib.Split
import Derived.Shelf.Small.Wraps
import Derived.Shelf.Small.Bits
import Derived.Shelf.Strings.Prefix
import Derived.Shelf.Strings.Trim
import Derived.Shelf.Strings.SlTrimAscii
import Derived.Shelf.Strings.Cut
import Derived.Shelf.Strings.Split
import Derived.Shelf.Bits.Mul64
import Derived.Shelf.Spec.BitsCarry
import Derived.Test.YtfgclhpgdanmfaaGreatDoorProg
namespace Go.Proofs.YtfgclhpgdanmfaaGreatDoor
set_option linter.defProp false
open Go.RowKit
open Go.Proofs.Tryz
set_option linter.unusedSimpArgs false
set_option linter.unusedVariables false
set_option maxHeartbeats 8000000
set_option maxRecDepth 1000000
variable{l:Vu}{K n:Nat}
def S4(b o:Nat)(a:Vx)(cap:Nat)(l:Vy)(w:Vz)(c:iF w b o 0 a cap l):
 Calls prog 116 #[.pointer (some ⟨b,o,none⟩),.int .i64 10] w fun e w'=>(∃s,e=.returned (.string s)/\j8 s.data.toList 0)/\Below w.heap.size w w':=by
 have k1:=c.abs;have d:((l.length:Int) == 0)=true:=by have:=(c.num.num.eV dD).1 rfl;simp[this]
 clear c;go_enter func116,ntmps116;go_wp2;go_ret;exact⟨⟨_,rfl,[48],.inl ⟨rfl,rfl⟩,rfl⟩,ac _ _⟩
def Lc(b o K:Nat)(X:Int)(a:Vx)(cap:Nat)(l:Vy)(w:Vz)(c:iF w b o X a cap l)(f:X.natAbs<2 ^ K)(d:K<=1099511627776):
 Calls prog 62 #[.pointer (some ⟨b,o,none⟩)] w fun e w'=>(∃s,e=.returned (.string s)/\j8 s.data.toList X)/\Below w.heap.size w w':=by
 have g:O (Calls prog 116 #[.pointer (some ⟨b,o,none⟩),.int .i64 10] w fun e w'=>(∃s,e=.returned (.string s)/\j8 s.data.toList X)/\Below w.heap.size w w'):=by
  by_cases h:X=0
  . subst h;exact Hi (S4 b o a cap l w c)
  . exact Hi (WC b o K X a cap l w c h f d)
 clear c f;go_enter func62,ntmps62;go_wp2_with fail;refine g.o.mono ?_;rintro e w1 ⟨⟨s,rfl,i⟩,hb⟩;obtain⟨j,k⟩:=Ia i hb;clear i hb g;go_wp2;go_ret;exact⟨⟨s,rfl,j.o⟩,k.o⟩
def iK(l:Vu)(q:Rat):Prop:=∃m,j8 m q.num/\((q.den=1/\l=m)∨(q.den≠1/\∃d,pY d q.den/\l=m++47 :: d))
def iK.inj{m:Vu}{q:Rat}(h:iK l q)(k:iK m q):l=m:=by
 obtain⟨a,f,h⟩:=h;obtain⟨b,hb,k⟩:=k;have:=f.inj hb;subst this;rcases h with ⟨c,rfl⟩|⟨c,d,g,rfl⟩
 .
  rcases k with ⟨k1,rfl⟩|⟨k1,_⟩
  . rfl
  . exact absurd c k1
 .
  rcases k with ⟨k1,rfl⟩|⟨k1,e,i,rfl⟩
  . exact absurd k1 c
  . rw[g.inj i]
def j8.JA(h:j8 l (n:Int)):pY l n:=by obtain⟨m,b,a⟩:=h;rw[aH oO]at a;subst a;exact b
def pY.len(h:pY l n)(a:n<2 ^ K):l.length<=K+1:=by
 rcases h with ⟨_,rfl⟩|⟨_,c,b,rfl⟩
 . simp
 . have:=b.fG (k:=K) dD (aF a (iJ dD K))
   simp;omega
def j8.len{s:Vs}{X:Int}(h:j8 s.data.toList X)(a:X.natAbs<2 ^ K):s.size<=K+2:=by
 obtain⟨m,b,c⟩:=h;have d:=b.len a;have e:s.data.toList.length<=m.length+1:=by rw[c];split<;>simp
 have f:s.data.toList.length=s.size:=sS;omega
def Dh(b K:Nat)(q:Rat)(w:Vz)(z:cQ w b q)(A:Fits q K)(i:K<=1099511627776):
 Calls prog 20 #[.pointer (some ⟨b,0,none⟩)] w fun e w'=>(∃s,e=.returned (.string s)/\iK s.data.toList q)/\Below w.heap.size w w':=by
 obtain⟨j,k⟩:=Ia z A;clear z A;by_cases p:q.den=1
 . go_enter func20,ntmps20;go_wp2_with fail;refine(NV b q _ j.o).mono ?_;rw[show decide (q.den=1)=true by simpa using p];rintro e w1 ⟨rfl,c⟩;have a:=Hi c;clear c;go_wp2_with fail;refine(NX b _).mono ?_;rintro e w2 ⟨rfl,r⟩;subst r;go_wp2_with fail;obtain⟨D,t,c1,u,E,c2,F,h,_⟩:=j.o.below a.o;refine(Lc b 0 K q.num t c1 u _ h.uF k.o.1 i).mono ?_;clear h;rintro e w2 ⟨⟨s,rfl,g⟩,d⟩;obtain⟨v,f⟩:=Ia g d;clear g d;go_wp2;go_ret;exact⟨⟨s,rfl,s.data.toList,v.o,.inl ⟨p,rfl⟩⟩,a.o.trans (f.o.mono a.o.size)⟩
 . go_enter func20,ntmps20;go_wp2_with fail;refine(NV b q _ j.o).mono ?_;rw[show decide (q.den=1)=false by simpa using p];rintro e w1 ⟨rfl,c⟩;have a:=Hi c;clear c;go_wp2_with fail;refine(NX b _).mono ?_;rintro e w2 ⟨rfl,r⟩;subst r;go_wp2_with fail;obtain⟨D,t,c1,u,E,c2,F,h,_⟩:=j.o.below a.o;refine(Lc b 0 K q.num t c1 u _ h.uF k.o.1 i).mono ?_;clear h;rintro e w2 ⟨⟨s,rfl,g⟩,d⟩;obtain⟨v,f⟩:=Ia g d;have G:=g.len k.o.1;clear g d;go_wp2_with fail;refine(Tp b q _ ((j.o.below a.o).below f.o)).mono ?_;rintro e N ⟨⟨H,I,cap',J,rfl,B⟩,l⟩;obtain⟨L,m⟩:=Ia B l;clear B l;go_wp2_with fail;refine(Lc H 0 K q.den I cap' J _ L.o (by rw[cY];exact k.o.2) i).mono ?_;rintro e O ⟨⟨M,rfl,g⟩,n⟩;have x:=Hi g;have C:=g.len (K:=K) (by rw[cY];exact k.o.2);have y:=Hi n;clear g n;go_wp2;go_ret;have P:=a.o.size;have Q:=f.o.size;have R:=m.o.size;refine⟨⟨_,rfl,s.data.toList,v.o,.inr ⟨p,M.data.toList,x.o.JA,?_⟩⟩,((a.o.trans (f.o.mono oO)).trans (m.o.mono oO)).trans (y.o.mono oO)⟩;simp[Mk]
section
open Go
def nO(l:Vu):Prop:=l≠ []/\fF l
def q9(t:Vu):Prop:=nO (Lib.cut t [47]).1/\((Lib.cut t [47]).2.2=true->nO (Lib.cut t [47]).2.1/\dE (Lib.cut t [47]).2.1≠0)
def BJ(t:Vu)(v:Rat):Prop:=(q9 t/\v=mkRat (dE (Lib.cut t [47]).1:Nat) (if (Lib.cut t [47]).2.2=true then dE (Lib.cut t [47]).2.1 else 1))∨(¬q9 t/\v=0)
def il(l:Vu)(q:Rat):Prop:=∃v,BJ (Lib.trimPrefix l [45]) v/\q=if Lib.hasPrefix l [45]=true then -v else v
def BJ.inj{t:Vu}{u v:Rat}(h:BJ t u)(k:BJ t v):u=v:=by
 rcases h with ⟨a,rfl⟩|⟨a,rfl⟩<;>rcases k with ⟨k1,rfl⟩|⟨k1,rfl⟩
 . rfl
 . exact absurd a k1
 . exact absurd k1 a
 . rfl
def il.inj{t:Vu}{u v:Rat}(h:il t u)(k:il t v):u=v:=by obtain⟨a,c,rfl⟩:=h;obtain⟨b,hb,rfl⟩:=k;rw[c.inj hb]
def BJ.ex(t:Vu):∃v,BJ t v:=by
 by_cases h:q9 t
 . exact⟨_,.inl ⟨h,rfl⟩⟩
 . exact⟨_,.inr ⟨h,rfl⟩⟩
def il.ex(t:Vu):∃v,il t v:=by obtain⟨v,a⟩:=BJ.ex (Lib.trimPrefix t [45]);exact⟨_,v,a,rfl⟩
def j9:=@il.ex
def Fits.mono{q:Rat}{j k:Nat}(h:Fits q j)(hk:j<=k):Fits q k:=
 have:=cP (by decide:0<2) hk
 ⟨aF h.1 this,aF h.2 this⟩
def Fits.zero:Fits 0 1:=⟨dD,dD⟩
def nr:=@Fits.zero
def Fits.mk{a:Int}{b k:Nat}(d:a.natAbs<2 ^ k)(hb:b<2 ^ k)(hk:0<k):Fits (mkRat a b) k:=by
 by_cases c:b=0
 . subst c;rw[ED];exact Fits.zero.mono hk
 constructor
 . rw[sh,aH c];refine bQ ?_ d;exact Int.natAbs_ediv_le_natAbs _ _
 . rw[si,aH c]
   exact bQ (mR _ _) hb
def L9:=@Fits.mk
def Fits.neg{q:Rat}{k:Nat}(h:Fits q k):Fits (-q) k:=by
 constructor
 . rw[oS,u6];exact h.1
 . rw[rU];exact h.2
def Nr(t:Vu):(Lib.cut t [47]).1.length<=t.length:=by
 unfold Lib.cut
 split
 . simp;omega
 . simp
def Nq(t:Vu):(Lib.cut t [47]).2.1.length<=t.length:=by
 unfold Lib.cut
 split
 . simp
 . simp
def H7{l:Vu}{n:Nat}(h:fF l)(hl:l.length<=n):dE l<2 ^ (4*n):=
 aF (DF l h) (aE (cP dD hl) (PK n))
def BJ.fits{t:Vu}{v:Rat}{n:Nat}(h:BJ t v)(a:t.length<=n):Fits v (4*n+1):=by
 rcases h with ⟨h,rfl⟩|⟨_,rfl⟩
 .
  have e:(2:Nat) ^ (4*n)<=2 ^ (4*n+1):=cP dD oO;have b:=H7 h.1.2 (aE (Nr t) a);refine Fits.mk ?_ ?_ oO
  . rw[cY];omega
  . split
    . rename_i hb;have:=H7 (h.2 hb).1.2 (aE (Nq t) a);omega
    . exact Nat.one_lt_two_pow oO
 . exact Fits.zero.mono oO
def H6(l p:Vu):(Lib.trimPrefix l p).length<=l.length:=by
 unfold Lib.trimPrefix
 split
 . simp
 . simp
def il.fits{t:Vu}{q:Rat}{n:Nat}(h:il t q)(a:t.length<=n):Fits q (4*n+1):=by
 obtain⟨v,b,rfl⟩:=h;have:=b.fits (aE (H6 t [45]) a)
 split
 . exact this.neg
 . exact this
end
end Go.Proofs.YtfgclhpgdanmfaaGreatDoor
namespace Go.Proofs
open Go.Shelf
def Tryz.xi:Go.Shelf.Ren:=⟨fun|99=>75|206=>124|n=>n,fun|9=>9|4=>4|3=>3|n=>n,fun|n=>n⟩
theorem Tryz.DV:Go.Proofs.Lays.n99 Tryz.prog Tryz.xi:=by
 constructor
 all_goals first|kernel_rfl|(intro w;kernel_rfl)|(constructor<;>(first|kernel_rfl|(intro w;kernel_rfl)))
def Tryz.vN:Go.Shelf.Ren:=⟨fun|147=>76|221=>125|268=>176|138=>177|143=>178|195=>211|197=>180|218=>212|219=>193|260=>213|217=>222|225=>223|224=>224|267=>225|266=>235|314=>236|n=>n,fun|9=>9|3=>3|31=>125|4=>4|0=>0|105=>221|21=>21|5=>5|46=>224|119=>262|139=>265|138=>264|146=>267|51=>213|n=>n,fun|1=>4|3=>7|4=>8|n=>n⟩
theorem Tryz.Cn:Go.Proofs.Lays.n147 Tryz.prog Tryz.vN:=by
 constructor
 all_goals first|kernel_rfl|(intro w;kernel_rfl)|(constructor<;>(first|kernel_rfl|(intro w;kernel_rfl)))
def Tryz.vM:Go.Shelf.Ren:=⟨fun|160=>78|232=>127|231=>126|227=>128|234=>130|233=>129|236=>132|235=>131|228=>179|271=>182|151=>181|197=>180|120=>215|152=>214|260=>213|137=>233|119=>234|224=>224|225=>223|217=>222|266=>235|n=>n,fun|9=>9|4=>4|3=>3|5=>5|117=>166|116=>165|0=>0|124=>169|21=>21|105=>221|46=>224|119=>262|139=>265|138=>264|n=>n,fun|3=>7|4=>8|n=>n⟩
theorem Tryz.Cm:Go.Proofs.Lays.n160 Tryz.prog Tryz.vM:=by
 constructor
 all_goals first|kernel_rfl|(intro w;kernel_rfl)|(constructor<;>(first|kernel_rfl|(intro w;kernel_rfl)))
def Tryz.vL:Go.Shelf.Ren:=⟨fun|161=>153|231=>126|227=>128|233=>129|235=>131|228=>179|197=>180|151=>181|260=>213|152=>214|137=>233|119=>234|224=>224|225=>223|217=>222|266=>235|n=>n,fun|9=>9|4=>4|3=>3|5=>5|117=>166|116=>165|0=>0|124=>169|105=>221|21=>21|119=>262|46=>224|139=>265|138=>264|n=>n,fun|3=>7|4=>8|n=>n⟩
theorem Tryz.Cl:Go.Proofs.Lays.n161 Tryz.prog Tryz.vL:=by
 constructor
 all_goals first|kernel_rfl|(intro w;kernel_rfl)|(constructor<;>(first|kernel_rfl|(intro w;kernel_rfl)))
def Tryz.vO:Go.Shelf.Ren:=⟨fun|145=>100|220=>151|219=>193|217=>222|225=>223|224=>224|267=>225|266=>235|314=>236|n=>n,fun|9=>9|4=>4|59=>148|3=>3|5=>5|46=>224|146=>267|51=>213|n=>n,fun|1=>4|n=>n⟩
theorem Tryz.Co:Go.Proofs.Lays.n145 Tryz.prog Tryz.vO:=by
 constructor
 all_goals first|kernel_rfl|(intro w;kernel_rfl)|(constructor<;>(first|kernel_rfl|(intro w;kernel_rfl)))
def Tryz.vQ:Go.Shelf.Ren:=⟨fun|103=>99|210=>150|206=>124|n=>n,fun|9=>9|4=>4|24=>146|3=>3|n=>n,fun|n=>n⟩
theorem Tryz.Cq:Go.Proofs.Lays.n103 Tryz.prog Tryz.vQ:=by
 constructor
 all_goals first|kernel_rfl|(intro w;kernel_rfl)|(constructor<;>(first|kernel_rfl|(intro w;kernel_rfl)))
def Tryz.vP:Go.Shelf.Ren:=⟨fun|134=>198|129=>226|n=>n,fun|53=>172|3=>3|4=>4|46=>224|5=>5|9=>9|n=>n,fun|n=>n⟩
theorem Tryz.Cp:Go.Proofs.Lays.n134 Tryz.prog Tryz.vP:=by
 constructor
 all_goals first|kernel_rfl|(intro w;kernel_rfl)|(constructor<;>(first|kernel_rfl|(intro w;kernel_rfl)))
def Tryz.vK:Go.Shelf.Ren:=⟨fun|264=>207|n=>n,fun|53=>172|46=>224|n=>n,fun|n=>n⟩
theorem Tryz.Cj:Go.Proofs.Lays.n264 Tryz.prog Tryz.vK:=by
 constructor
 all_goals first|kernel_rfl|(intro w;kernel_rfl)|(constructor<;>(first|kernel_rfl|(intro w;kernel_rfl)))
def Tryz.xk:Go.Shelf.Ren:=⟨fun|25=>204|n=>n,fun|22=>172|n=>n,fun|n=>n⟩
theorem Tryz.DY:Go.Proofs.Lays7.n25 Tryz.prog Tryz.xk:=by
 constructor
 all_goals first|kernel_rfl|(intro w;kernel_rfl)|(constructor<;>(first|kernel_rfl|(intro w;kernel_rfl)))
def Tryz.xj:Go.Shelf.Ren:=⟨fun|26=>206|n=>n,fun|22=>172|n=>n,fun|n=>n⟩
theorem Tryz.DW:Go.Proofs.Lays7.n26 Tryz.prog Tryz.xj:=by
 constructor
 all_goals first|kernel_rfl|(intro w;kernel_rfl)|(constructor<;>(first|kernel_rfl|(intro w;kernel_rfl)))
end Go.Proofs
namespace Go.Proofs.YtfgclhpgdanmfaaGreatDoor
set_option linter.defProp false
open Go.RowKit
open Go.Proofs.Tryz
set_option linter.unusedSimpArgs false
set_option linter.unusedVariables false
set_option maxHeartbeats 8000000
set_option maxRecDepth 1000000
variable{p:UInt8->Bool}{l:Vu}{a s:Vs}
def TS(s p:Vs)(w:Vz):
 Calls prog 75 #[.string s,.string p] w fun e w'=>e=.returned (.bool (Lib.hasPrefix s.data.toList p.data.toList))/\w'=w:=Any.strings_HasPrefix Tryz.DV s p w
def TR(s a:Vs)(n:Nat)(m:Int)(w:Vz)(c:s.size<4294967281)(d:w.cell? ⟨4,0,none⟩=some (.int .i64 m))(f:1<=a.size)(g:1<=n)(b:n<=9223372036854775807):
 Calls prog 76 #[.string s,.string a,.int .i64 n] w fun e w'=> e=.returned (.slice (some ⟨w.heap.size,0,none⟩) (Lib.splitB a 0 (min n (s.size+1) - 1) s).length (min n (s.size+1)))/\w'=w.alloc (.cells (Lib.cellsOf (Lib.splitB a 0 (min n (s.size+1) - 1) s) (min n (s.size+1))) 9):=Any.strings_SplitN Tryz.Cn kK s a n m w c d f g b
def Nd(s a:Vs)(w:Vz)(f:s.size<=9223372036854775807)(d:a.size<4294967281)(c:∀(j:Nat) b,a.data.toList[j]?=some b->b.toNat<128):
 Calls prog 78 #[.string s,.string a] w fun e w'=>e=.returned (.string ⟨(Lib.trimS s.data.toList a.data.toList).toArray⟩)/\Below w.heap.size w w':=Any.strings_Trim_laid Tryz.Cm kK s a w f d c
def Nc{c:AP}(h:c∈ l.takeWhile p):p c=true:=by
 induction l with
 |nil=>simp at h
 |cons d l b=>
  rw[List.takeWhile_cons]at h;by_cases a:p d=true
  . rw[aN a]at h;rcases aY.1 h with rfl|h
    . exact a
    . exact b h
  . rw[aH a]at h;cases h
def TQ(h:∀c,c∈ l->p c=true):l.dropWhile p= []:=by
 induction l with
 |nil=>rfl
 |cons d l a=> rw[Y5,aN (h d (dT ..))];exact a fun c b=>h c (bU _ b)
def Nb(l a:Vu):Lib.trimS l a= []↔∀c,c∈ l->a.contains c=true:=by
 unfold Lib.trimS Lib.trimLeftS Lib.trimRightS;constructor
 .
  intro h c e;apply bC;intro f;have d:c∈ (l.reverse.dropWhile (a.contains ·)).reverse:=by
   rw[sM];have b:=sM.2 e;rw[<-zH (p:=(a.contains ·)) (l:=l.reverse)]at b;rcases bD.1 b with b|b
   . have:=Nc (p:=(a.contains ·)) b
     exact absurd this f
   . exact b
  rw[<-zH (p:=(a.contains ·)) (l:=(l.reverse.dropWhile (a.contains ·)).reverse),h,mU]at d;exact absurd (Nc (p:=(a.contains ·)) d) f
 . intro h;have d:l.reverse.dropWhile (a.contains ·)= []:=by exact TQ fun c e=>h c (sM.1 e)
   rw[d];rfl
def M9(c:AP):([48,49,50,51,52,53,54,55,56,57]:List UInt8).contains c=true↔48<=c.toNat/\c.toNat<=57:=by
 constructor
 . intro h;simp at h;rcases h with rfl|rfl|rfl|rfl|rfl|rfl|rfl|rfl|rfl|rfl<;>decide
 . rintro⟨a,b⟩;have:c=UInt8.ofNat c.toNat:=sS;rw[this];generalize c.toNat=n at*;have:n=48∨n=49∨n=50∨n=51∨n=52∨n=53∨n=54∨n=55∨n=56∨n=57:=oO;rcases this with rfl|rfl|rfl|rfl|rfl|rfl|rfl|rfl|rfl|rfl<;>decide
def TP(l:Vu):Lib.trimS l [48,49,50,51,52,53,54,55,56,57]= []↔fF l:=by rw[Nb];exact⟨fun h c a=>(M9 c).1 (h c a),fun h c a=>(M9 c).2 (h c a)⟩
def TO(l:Vu)(h:fF l):Lib.trimS l [48]= []↔dE l=0:=by
 rw[Nb]
 induction l with
 |nil=>simp[dE]
 |cons c l b=>
  have m:=h c (dT ..);have b:=b fun d a=>h d (bU _ a)
  have e:dE (c :: l)=(c.toNat - 48)*10 ^ l.length+dE l:=by
   have:=FL [c] l
   simpa [dE] using this
  have n:0<10 ^ l.length:=gU dD;rw[e];constructor
  . intro f;have g:=b.1 fun d a=>f d (bU _ a)
    have i:=f c (dT ..);have j:c=48:=sU i;rw[g,j];simp
  .
   intro f;have g:dE l=0:=oO;have i:(c.toNat - 48)*10 ^ l.length=0:=oO;have j:c.toNat - 48=0:=by
    rcases Nat.mul_eq_zero.1 i with h|h
    . exact h
    . omega
   have k:c=48:=by have:c.toNat=48:=oO;exact uj.1 this
   intro d a;rcases aY.1 a with rfl|a
   . rw[k];rfl
   . exact b.2 g d a
def TN(h:(⟨(Lib.trimS s.data.toList [48,49,50,51,52,53,54,55,56,57]).toArray⟩:ByteArray)=a):a.toList= []↔fF s.data.toList:=by subst h;rw[Lib.toList_data];exact TP _
def Lf(s:Vs)(w:Vz)(k:s.size<=1073741824):
 Calls prog 77 #[.string s] w fun e w'=>(∃v,e=.returned (.bool v)/\(v=true↔nO s.data.toList))/\Below w.heap.size w w':=by
 have f:=Hi (Lib.toList_data s);by_cases b:s.toList= []
 . go_enter func77,ntmps77;go_wp2_with fail;go_ret;exact⟨⟨false,rfl,by rw[<-f.o];simp[nO,b]⟩,ac _ _⟩
 .
  go_enter func77,ntmps77;go_wp2_with fail;refine(Nd s _ _ oO dD (ascii_of_all dD)).mono ?_;rintro e w1 ⟨rfl,hb⟩;have g:=Hi hb;clear hb;obtain⟨j,a⟩:=nm ((⟨(Lib.trimS s.data.toList [48,49,50,51,52,53,54,55,56,57]).toArray⟩:ByteArray));rw[show (⟨#[48,49,50,51,52,53,54,55,56,57]⟩:ByteArray).data.toList= [48,49,50,51,52,53,54,55,56,57] from rfl,a];have i:=Hi (TN a);clear a;by_cases c:j.toList= []
  . go_wp2;go_ret;refine⟨⟨_,rfl,?_⟩,g.o⟩;have d:nO s.data.toList:=⟨by rw[<-f.o];exact b,i.o.1 c⟩;simp[b,d]
  . go_wp2;go_ret;refine⟨⟨_,rfl,?_⟩,g.o⟩;have d:¬nO s.data.toList:=fun h=>c (i.o.2 h.2)
    simp[c,d]
def TM(t:Vs)(k:Nat)(h:(Lib.cut t.data.toList [47]).2.2=false):Lib.splitB ⟨#[47]⟩ 0 k t= [t]/\(Lib.cut t.data.toList [47]).1=t.data.toList:=by
 have a:¬(0<=Lib.index t.data.toList [47]):=by intro b;unfold Lib.cut at h;rw[aN b]at h;cases h
 constructor
 .
  apply Lib.splitB_miss;have:=Lib.index_ge t.data.toList [47]
  show Lib.index t.data.toList [47]= -1
  omega
 . unfold Lib.cut
   rw[aH a]
def TL(t:Vs)(h:(Lib.cut t.data.toList [47]).2.2=true):1<=t.size/\∃t0 t1:Vs,Lib.splitB ⟨#[47]⟩ 0 1 t= [t0,t1]/\t0.data.toList=(Lib.cut t.data.toList [47]).1/\t1.data.toList=(Lib.cut t.data.toList [47]).2.1/\t0.size<=t.size/\t1.size<=t.size:=by
 have b:0<=Lib.index t.data.toList [47]:=by apply bC;intro d;unfold Lib.cut at h;rw[aH d]at h;cases h
 have c:=Lib.index_room t.data.toList [47] b;obtain⟨i,a⟩:∃i:Nat,Lib.index t.data.toList [47]=i:=⟨(Lib.index t.data.toList [47]).toNat,oO⟩;have e:t.data.toList.length=t.size:=sS;rw[a]at c;simp at c;refine⟨oO,t.extract 0 (i+0),t.extract (i+1) t.size,?_,?_,?_,?_,?_⟩
 . rw[Lib.splitB_hit ⟨#[47]⟩ 0 0 t i a];rfl
 . rw[Lib.extract_data];unfold Lib.cut;rw[aN b,a];simp
 . rw[Lib.extract_data];unfold Lib.cut;rw[aN b,a];simp;rw[bL sS]
 . simp;omega
 . simp
def Fy(w:Vz):cQ (w.alloc (.cells #[.bool false,.slice none 0 0,.bool false,.slice none 0 0] 116)) w.heap.size 0:=
 ⟨0,none,0,[],none,0,[],⟨cK w _ _,⟨qS _ _,rH _,sS⟩,⟨qS _ _,rH _,sS⟩⟩,.inr ⟨rfl,rfl⟩⟩
def EV(w:Vz):(gI.room w.heap.size).holds (w.alloc (.cells #[.bool false,.slice none 0 0,.bool false,.slice none 0 0] 116)):=cQ.room (Fy w)
def oN(w:Vz)(q:Rat)(e:As)(w':Vz):Prop:=(∃b,e=.returned (.pointer (some ⟨b,0,none⟩))/\w.heap.size<=b/\cQ w' b q)/\Below w.heap.size w w'
def Le(h:nO s.data.toList):0<s.size:=by
 have:s.data.toList.length=s.size:=sS;have b:s.data.toList.length≠0:=fun a=>h.1 (jV.1 a)
 omega
def TK(h:(⟨l.toArray⟩:ByteArray)=a):a.toList= []↔l= []:=by subst h;rw[Lib.toList_data]
def Ld{w w':Vz}{X:Int}{a:Vx}{cap:Nat}{l:Vy}(h:Laid (w.alloc (.cells kP 114)) w' w.heap.size 0 114 kP X a cap l):iF w' w.heap.size 0 X a cap l/\Below w.heap.size w w':=
 ⟨h.at (by simp[kP]),fU (bR.alloc lZ _) h.only lZ⟩
def M8(s:Vs)(m:Int)(w:Vz)(hm:w.cell? ⟨4,0,none⟩=some (.int .i64 m))(hs:s.size<=1073741824):
 Calls prog 36 #[.string s] w fun e w'=>∃q,il s.data.toList q/\oN w q e w':=by
 go_enter func36,ntmps36;go_wp2_with fail;refine(TS s ⟨#[45]⟩ w).mono ?_;rw[show (⟨#[45]⟩:ByteArray).data.toList= [45] from rfl];cases hp:Lib.hasPrefix s.data.toList [45]
 case' false=> obtain⟨t,rfl⟩:∃t,t=s:=⟨s,rfl⟩;have ap:=hs;obtain⟨S,ag⟩:=Ia (show Lib.trimPrefix t.data.toList [45]=t.data.toList by unfold Lib.trimPrefix;rw[hp];rfl) (rfl:t=t)
 case' true=>
  have h1:1<=s.size:=by
   have ah:s.data.toList.length=s.size:=sS;cases hl:s.data.toList with
   |nil=>rw[hl]at hp;simp[Lib.hasPrefix]at hp
   |cons c l=>rw[hl]at ah;simp at ah;omega
  obtain⟨t,ht⟩:=nm (s.extract 1 s.size);have S:=Hi (show Lib.trimPrefix s.data.toList [45]=t.data.toList by
   rw[<-ht,Lib.extract_data];unfold Lib.trimPrefix;rw[aN hp,bL sS]
   rfl)
  have ap:t.size<=1073741824:=by rw[<-ht];simp;omega
  have ag:=Hi ht;clear ht
 all_goals
  have U:=Hi hp;clear hp;rintro e w ⟨rfl,hw⟩;subst hw;go_wp2_with fail
  try rw[ag.o]
  try clear h1
  refine(TR t ⟨#[47]⟩ 2 m w oO hm dD dD dD).mono ?_;rintro e w1 ⟨rfl,v⟩;by_cases V:(Lib.cut t.data.toList [47]).2.2=true
  .
   obtain⟨h1,t0,t1,z,I,ai,av,aw⟩:=TL t V;have e2:min 2 (t.size+1)=2:=oO;rw[e2,z]at v;rw[e2,z];have J:Bl w w1:=by rw[v];exact(ac _ _).alloc lZ _
   have x:SB w1 w.heap.size 9 #[.string t0,.string t1]:=by rw[v];exact cK w _ _
   have p:w1.cell? ⟨w.heap.size,0,none⟩=some (.string t0):=x.cell 0;have c1:w1.cell? ⟨w.heap.size,1,none⟩=some (.string t1):=x.cell 1;have a:=x.lt;obtain⟨A,f,n,b,B,K,G⟩:=If J p c1 (ac w1.heap.size w1) I ai V;clear v x J z e2 I ai V;go_wp2_with fail;refine(Lf t0 _ oO).mono ?_;rintro e w2 ⟨⟨v0,rfl,L⟩,hb⟩;have M:=Hi L;clear L;have d:=Hi (b.o.trans (hb.mono b.o.size));clear b p c1;have b:=d;clear d hb;obtain⟨p,c1⟩:=Ja b.o a f.o n.o;have g:=fun o=>ce (b.o.alloc b.o.size o) a f.o
   have r:=fun o=>ce (b.o.alloc b.o.size o) a n.o
   cases v0
   . have C:O (¬q9 t.data.toList):=Hi (fun h=>xo (M.o.2 (by rw[B.o];exact h.1)));go_wp2;go_ret;have j:=A.o.trans (b.o.mono (dO a));exact⟨_,⟨0,by rw[S.o];exact .inr ⟨C.o,rfl⟩,by rw[U.o];rfl⟩,⟨_,rfl,j.size,Fy _⟩,j.alloc j.size _⟩
   .
    go_wp2_with fail;refine(Lf t1 _ oO).mono ?_;rintro e w3 ⟨⟨v1,rfl,aj⟩,hb⟩;have ak:=Hi aj;clear aj;have d:=Hi (b.o.trans (hb.mono b.o.size));clear b p c1 g r;have b:=d;clear d hb;obtain⟨p,c1⟩:=Ja b.o a f.o n.o;have g:=fun o=>ce (b.o.alloc b.o.size o) a f.o
    have r:=fun o=>ce (b.o.alloc b.o.size o) a n.o
    cases v1
    . have C:O (¬q9 t.data.toList):=Hi (fun h=>xo (ak.o.2 (by rw[K.o];exact(h.2 G.o).1)));go_wp2;go_ret;have j:=A.o.trans (b.o.mono (dO a));exact⟨_,⟨0,by rw[S.o];exact .inr ⟨C.o,rfl⟩,by rw[U.o];rfl⟩,⟨_,rfl,j.size,Fy _⟩,j.alloc j.size _⟩
    .
     go_wp2_with fail;refine(Nd t1 _ _ oO dD (ascii_of_all dD)).mono ?_;rintro e w4 ⟨rfl,hb⟩;obtain⟨st,y⟩:=nm ((⟨(Lib.trimS t1.data.toList [48]).toArray⟩:ByteArray));rw[show (⟨#[48]⟩:ByteArray).data.toList= [48] from rfl,y];obtain⟨u,N⟩:=Ia (M.o.1 (by first|rfl|trivial)) (ak.o.1 (by first|rfl|trivial));have HI:=Hi ((TK y).trans (TO t1.data.toList N.o.2));clear y;have d:=Hi (b.o.trans (hb.mono b.o.size));clear b p c1 g r;have b:=d;clear d hb;obtain⟨p,c1⟩:=Ja b.o a f.o n.o;have g:=fun o=>ce (b.o.alloc b.o.size o) a f.o
     have r:=fun o=>ce (b.o.alloc b.o.size o) a n.o
     by_cases y:st.toList= []
     . have aq:st.toList.isEmpty=true:=by simp[y]
       have C:O (¬q9 t.data.toList):=Hi (fun h=>(h.2 G.o).2 (by rw[<-K.o];exact HI.o.1 y));go_wp2;go_ret;have j:=A.o.trans (b.o.mono (dO a));exact⟨_,⟨0,by rw[S.o];exact .inr ⟨C.o,rfl⟩,by rw[U.o];rfl⟩,⟨_,rfl,j.size,Fy _⟩,j.alloc j.size _⟩
     .
      have aq:st.toList.isEmpty=false:=by simp[y]
      have al:=Hi (fun h=>y (HI.o.2 h));go_wp2_with fail;refine(Ll _ t0 _ (cK _ _ _) (Le u.o) oO u.o.2).mono ?_;rintro e w5 ⟨rfl,an,cn,ln,hl⟩;obtain⟨W,hb⟩:=Ld hl;have X:ln.length<1099511627770:=by have h1:=W.num.tj (k:=t0.size) (by rw[cY];have:=DF _ u.o.2;simpa using this);omega
      have HN:=Hi W;clear W hl;have d:=Hi (b.o.trans (hb.mono b.o.size));clear b p c1 g r;have b:=d;clear d hb;obtain⟨p,c1⟩:=Ja b.o a f.o n.o;have g:=fun o=>ce (b.o.alloc b.o.size o) a f.o
      have r:=fun o=>ce (b.o.alloc b.o.size o) a n.o
      go_wp2_with fail;refine(EK 1 _ dD dD).mono ?_;rintro e w6 ⟨⟨b6,a6,ar,l6,rfl,P,H,T⟩,hb⟩;have am:=Hi (HN.o.below hb);clear HN P H T;have d:=Hi (b.o.trans (hb.mono b.o.size));clear b p c1 g r;have b:=d;clear d hb;obtain⟨p,c1⟩:=Ja b.o a f.o n.o;have g:=fun o=>ce (b.o.alloc b.o.size o) a f.o
      have r:=fun o=>ce (b.o.alloc b.o.size o) a n.o
      go_wp2_with fail;refine(Ll _ t1 _ (cK _ _ _) (Le N.o) oO N.o.2).mono ?_;rintro e w7 ⟨rfl,ad,cd,ld,hl⟩;obtain⟨Y,hb⟩:=Ld hl;have Z:ld.length<1099511627770:=by have h1:=Y.num.tj (k:=t1.size) (by rw[cY];have:=DF _ N.o.2;simpa using this);omega
      obtain⟨HD,HN,aa⟩:=Ib Y (am.o.below hb) (Int.natCast_pos.2 (Nat.pos_of_ne_zero al.o));have Q:O (mkRat ((dE t0.data.toList:Nat):Int) ((dE t1.data.toList:Nat):Int).natAbs=mkRat (dE (Lib.cut t.data.toList [47]).1:Nat) (if (Lib.cut t.data.toList [47]).2.2=true then dE (Lib.cut t.data.toList [47]).2.1 else 1)):=Hi (by rw[cY,B.o,K.o,aN G.o]);clear Y hl am;have d:=Hi (b.o.trans (hb.mono b.o.size));clear b p c1 g r;have b:=d;clear d hb;obtain⟨p,c1⟩:=Ja b.o a f.o n.o;have g:=fun o=>ce (b.o.alloc b.o.size o) a f.o
      have r:=fun o=>ce (b.o.alloc b.o.size o) a n.o
      go_wp2_with fail;have R:O (q9 t.data.toList):=Hi ⟨by rw[<-B.o];exact u.o,fun _=>⟨by rw[<-K.o];exact N.o,by rw[<-K.o];exact al.o⟩⟩;refine(H4 _ _ _ _ _ _ 0 _ an cn ln _ 0 _ ad cd ld _ (cK _ _ _) (yX _ _ _ _ _ _ _ _) (HN.o.alloc _) (HD.o.alloc _) aa.o X Z).mono ?_;rintro e w8 i;have j:=A.o.trans (b.o.mono (dO a));have D:=j.size;obtain⟨HV,E⟩:=Ia i.val (fU (j.alloc j.size _) i.2.1 j.size);obtain⟨rfl,F,hr⟩:=i;clear F hr j
      first
       |(
        go_wp2;go_ret
        exact⟨_,⟨_,by rw[S.o];exact .inl ⟨R.o,Q.o⟩,by rw[U.o];rfl⟩,⟨_,rfl,D,HV.o⟩,E.o⟩)
       |(
        go_wp2_with fail;have HQ:O (BJ (Lib.trimPrefix s.data.toList [45]) _):=Hi (by rw[S.o];exact .inl ⟨R.o,Q.o⟩);refine(Li _ _ (4*1073741824+1) _ _ (cQ.room HV.o) HV.o (HQ.o.fits (aE (H6 _ _) (sU hs))) dD).mono ?_;rintro e w9 i;obtain⟨ab,ae⟩:=Ia (E.o.trans (i.2.1.below D E.o.size)) i.val;obtain⟨rfl,F,hr⟩:=i;clear F hr;go_wp2;go_ret
        exact⟨_,⟨_,HQ.o,by rw[U.o];rfl⟩,⟨_,rfl,D,ae.o⟩,ab.o⟩)
  .
   have V:(Lib.cut t.data.toList [47]).2.2=false:=sU V;obtain⟨z,I⟩:=TM t (min 2 (t.size+1) - 1) V;obtain⟨cp,af,au⟩:∃cp,min 2 (t.size+1)=cp/\1<=cp:=⟨_,rfl,oO⟩;rw[z,af]at v;rw[z,af];have J:Bl w w1:=by rw[v];exact(ac _ _).alloc lZ _
   have x:SB w1 w.heap.size 9 (Lib.cellsOf [t] cp):=by rw[v];exact cK w _ _
   have p:w1.cell? ⟨w.heap.size,0,none⟩=some (.string t):=x.cell 0;have c1:=p;have a:=x.lt;obtain⟨A,f,b,B,G⟩:=Id J p (ac w1.heap.size w1) I V;clear v x J z I V af c1;rw[show [t].length=1 from rfl];go_wp2_with fail;refine(Lf t _ oO).mono ?_;rintro e w2 ⟨⟨v0,rfl,L⟩,hb⟩;have M:=Hi L;clear L;have d:=Hi (b.o.trans (hb.mono b.o.size));clear b p;have b:=d;clear d hb;have p:=ce b.o a f.o;have g:=fun o=>ce (b.o.alloc b.o.size o) a f.o
   cases v0
   . have C:O (¬q9 t.data.toList):=Hi (fun h=>xo (M.o.2 (by rw[<-B.o];exact h.1)));go_wp2;go_ret;have j:=A.o.trans (b.o.mono (dO a));exact⟨_,⟨0,by rw[S.o];exact .inr ⟨C.o,rfl⟩,by rw[U.o];rfl⟩,⟨_,rfl,j.size,Fy _⟩,j.alloc j.size _⟩
   .
    have u:=Hi (M.o.1 (by first|rfl|trivial));go_wp2_with fail;refine(Ll _ t _ (cK _ _ _) (Le u.o) oO u.o.2).mono ?_;rintro e w5 ⟨rfl,an,cn,ln,hl⟩;obtain⟨W,hb⟩:=Ld hl;have X:ln.length<1099511627770:=by have h1:=W.num.tj (k:=t.size) (by rw[cY];have:=DF _ u.o.2;simpa using this);omega
    have ao:=Hi W;clear W hl;have d:=Hi (b.o.trans (hb.mono b.o.size));clear b p g;have b:=d;clear d hb;have p:=ce b.o a f.o;have g:=fun o=>ce (b.o.alloc b.o.size o) a f.o
    go_wp2_with fail;refine(EK 1 _ dD dD).mono ?_;rintro e w6 ⟨⟨b6,ad,cd,ld,rfl,P,H,T⟩,hb⟩;have HN:=Hi (ao.o.below hb);have Y:iF w6 b6 0 1 ad cd ld:=⟨by rw[H.cell];rfl,by rw[H.cell];rfl,T,H.lt⟩;have Z:ld.length<1099511627770:=by have:=Y.num.jd (k:=1) dD;omega
    have HD:=Hi Y;have aa:O ((0:Int)<1):=Hi dD;have Q:O (mkRat ((dE t.data.toList:Nat):Int) (1:Int).natAbs=mkRat (dE (Lib.cut t.data.toList [47]).1:Nat) (if (Lib.cut t.data.toList [47]).2.2=true then dE (Lib.cut t.data.toList [47]).2.1 else 1)):=Hi (by rw[B.o,G.o];rfl);clear Y ao P H T;have d:=Hi (b.o.trans (hb.mono b.o.size));clear b p g;have b:=d;clear d hb;have p:=ce b.o a f.o;have g:=fun o=>ce (b.o.alloc b.o.size o) a f.o
    go_wp2_with fail;have R:O (q9 t.data.toList):=Hi ⟨by rw[B.o];exact u.o,fun h=>by rw[G.o]at h;cases h⟩;refine(H4 _ _ _ _ _ _ 0 _ an cn ln _ 0 _ ad cd ld _ (cK _ _ _) (yX _ _ _ _ _ _ _ _) (HN.o.alloc _) (HD.o.alloc _) aa.o X Z).mono ?_;rintro e w8 i;have j:=A.o.trans (b.o.mono (dO a));have D:=j.size;obtain⟨HV,E⟩:=Ia i.val (fU (j.alloc j.size _) i.2.1 j.size);obtain⟨rfl,F,hr⟩:=i;clear F hr j
    first
     |(
      go_wp2;go_ret
      exact⟨_,⟨_,by rw[S.o];exact .inl ⟨R.o,Q.o⟩,by rw[U.o];rfl⟩,⟨_,rfl,D,HV.o⟩,E.o⟩)
     |(
      go_wp2_with fail;have HQ:O (BJ (Lib.trimPrefix s.data.toList [45]) _):=Hi (by rw[S.o];exact .inl ⟨R.o,Q.o⟩);refine(Li _ _ (4*1073741824+1) _ _ (cQ.room HV.o) HV.o (HQ.o.fits (aE (H6 _ _) (sU hs))) dD).mono ?_;rintro e w9 i;obtain⟨ab,ae⟩:=Ia (E.o.trans (i.2.1.below D E.o.size)) i.val;obtain⟨rfl,F,hr⟩:=i;clear F hr;go_wp2;go_ret
      exact⟨_,⟨_,HQ.o,by rw[U.o];rfl⟩,⟨_,rfl,D,ae.o⟩,ab.o⟩)
end Go.Proofs.YtfgclhpgdanmfaaGreatDoor
