import Derived.Test.YtppkmifkpjkgpaaGreatDoorC16NumNat
import Derived.Shelf.Strings.Builder1
import Derived.Shelf.Strconv.Itoa1
import Derived.Shelf.Strconv.Itoa2
import Derived.Lib.ItoaMem
import Derived.Lib.AppendIntMem
import Derived.BigCall
import Derived.BigGuard
import Derived.Lib.Builder
import Derived.Lib.AppendStr
import Derived.Lib.UnsafeStr
import Derived.Laws.Externs
namespace Go.Proofs.YtppkmifkpjkgpaaGreatDoor
open Go.RowKit
open Go.Proofs.Tryz
set_option linter.unusedSimpArgs false
set_option linter.unusedVariables false
set_option maxHeartbeats 8000000
set_option maxRecDepth 1000000
theorem Qrk(s:Vs)(w:Vz):
 Calls prog 131 #[.string s,.string ⟨#[45]⟩] w fun e w'=>e=.returned (.tuple #[.string ⟨(Lib.trimPrefix s.data.toList [45]).toArray⟩,.bool (Lib.hasPrefix s.data.toList [45])])/\w'=w:=Any.strings_CutPrefix Tryz.lays103 s ⟨#[45]⟩ w
theorem Qrl(s:Vs)(m:Int)(w:Vz)(a:s.size<4294967281)(b:w.cell? ⟨4,0,none⟩=some (.int .i64 m)):
 Calls prog 132 #[.string s,.string ⟨#[47]⟩] w fun e w'=>e=.returned (.tuple #[.string ⟨(Lib.cut s.data.toList [47]).1.toArray⟩,.string ⟨(Lib.cut s.data.toList [47]).2.1.toArray⟩,.bool (Lib.cut s.data.toList [47]).2.2])/\∃n,w'=w.drewN n:=Any.strings_Cut Tryz.lays145 s ⟨#[47]⟩ m w a b
theorem Nat64.numV{w w':Vz}{x:Nat}{e:Ending}(h:Nat64 w x e w'):(∃a n c,e=.returned (.slice a n c)/\NumV w' a n c x)/\Below w.heap.size w w':=by
 obtain⟨⟨a,c,l,rfl,b⟩,d⟩:=h;exact⟨⟨a,l.length,c,rfl,l,rfl,b⟩,d⟩
theorem Qrm(neg:Bool)(t k:Nat):mkRat (sgn neg t) k=if neg=true then -(mkRat (t:Int) k) else mkRat (t:Int) k:=by
 cases neg
 . simp[sgn]
 . simp only[sgn,if_true]
   rw[Rat.neg_mkRat]
theorem Qgb{s t:Vu}(a:Lib.trimPrefix s [45]=t)(h:¬QForm t):QOf s 0:=by
 refine⟨0,by rw[a];exact .inr ⟨h,rfl⟩,?_⟩
 split<;>simp
theorem Qjx{s t c1 c2:Vu}{a neg:Bool}(h:Lib.trimPrefix s [45]=t)(j:Lib.hasPrefix s [45]=neg)(i:(Lib.cut t [47]).1=c1)(c:(Lib.cut t [47]).2.1=c2)(d:(Lib.cut t [47]).2.2=a)(e:IsDig c1)(f:a=true->IsDig c2):
 QOf s (mkRat (sgn neg (decVal c1)) (if a=true then decVal c2 else 1)):=by
 by_cases b:a=true/\decVal c2=0
 .
  rw[if_pos b.1,b.2,Rat.mkRat_zero];apply Qgb h;intro k;exact(k.2 (by rw[d];exact b.1)).2 (by rw[c];exact b.2)
 .
  refine⟨mkRat (decVal c1:Nat) (if a=true then decVal c2 else 1),?_,by rw[j];exact Qrm _ _ _⟩;rw[h];refine .inl ⟨⟨by rw[i];exact e,fun g=>?_⟩,by rw[i,c,d]⟩;rw[d] at g;rw[c];exact⟨f g,fun l=>b ⟨g,l⟩⟩
def OfAns(s:Vu)(w:Vz)(e:Ending)(w':Vz):Prop:=∃q,QOf s q/\FNew w q e w'
theorem Qjy(s:Vs)(m:Int)(w:Vz)(hm:w.cell? ⟨4,0,none⟩=some (.int .i64 m))(k:s.size<=1073741824):
 Calls prog 82 #[.string s] w (OfAns s.data.toList w):=by
 obtain⟨t,ht⟩:=nm ((⟨(Lib.trimPrefix s.data.toList [45]).toArray⟩:ByteArray));obtain⟨neg,q⟩:=nm (Lib.hasPrefix s.data.toList [45]);have H:Lib.trimPrefix s.data.toList [45]=t.data.toList:=by rw[<-ht]
 have a0:t.size<=1073741824:=by
  have:=Qef s.data.toList [45];rw[H,Qag,Qag] at this;omega
 obtain⟨c1,I⟩:∃c,(⟨(Lib.cut t.data.toList [47]).1.toArray⟩:ByteArray)=c:=⟨_,rfl⟩;obtain⟨c2,J⟩:∃c,(⟨(Lib.cut t.data.toList [47]).2.1.toArray⟩:ByteArray)=c:=⟨_,rfl⟩;obtain⟨am,r⟩:∃b,(Lib.cut t.data.toList [47]).2.2=b:=⟨_,rfl⟩;have L:(Lib.cut t.data.toList [47]).1=c1.data.toList:=by rw[<-I]
 have M:(Lib.cut t.data.toList [47]).2.1=c2.data.toList:=by rw[<-J]
 have N:c1.size<=1073741824:=by have:=Qka t.data.toList;rw[L,Qag,Qag] at this;omega
 have P:c2.size<=1073741824:=by have:=Qkb t.data.toList;rw[M,Qag,Qag] at this;omega
 have d:=Hi ((Below.refl w.heap.size w).alloc lZ (.cells zeroFrac 141));obtain⟨HM,f⟩:=Ia (ce d.o (World.block_lt_of_cell? _ _ hm) hm) (SB.new w 141 zeroFrac);obtain⟨wA,Q⟩:=nm (w.alloc (.cells zeroFrac 141));rw[Q] at d HM f;obtain⟨R,S⟩:=Ia (Qrk s wA) (Qrl t m wA (by omega) HM.o);rw[ht,q] at R;rw[I,J,r] at S;obtain⟨an,y,af,T,U,V,ao,ap,ag⟩:=Ih Q H q L M r (fun w=>Qjz c1 w N) (fun w=>Qjz c2 w P) (fun w h=>Qjw c1 w N h);have aq:=Hi (fun w h=>Qjw c2 w P h);clear ht q H I J r L M hm Q;go_enter func82,ntmps82;go_wp2_with fail;rw[show w.alloc (.cells #[.bool false,.slice none 0 0,.slice none 0 0] 141)=wA from an.o];go_fit R.o;rintro e w1 ⟨rfl,hw⟩;subst hw;clear R
 go_wp2_with fail;go_fit S.o;rintro e w1 ⟨rfl,nD,hw⟩;subst hw;clear S;have z:Below w1.heap.size w1 (w1.drewN nD):=Qga bR nD;obtain⟨wD,W⟩:=nm (w1.drewN nD);rw[W] at z;obtain⟨ah,ai,ar⟩:=Ib (d.o.trans (z.mono d.o.size)) (f.o.below z f.o.lt) W;clear z W d f HM;have d:=ah;have f:=ai;clear ah ai;go_wp2_with fail;rw[ar.o];go_fit (ao.o _);rintro e w2 ⟨⟨v1,rfl,aj⟩,au⟩;subst au;have X:=Hi aj;clear aj;cases v1 with
 |false=>
  have Y:O (QOf s.data.toList 0):=Hi (Qgb y.o (fun h=>by have:=X.o.2 (by rw[<-T.o];exact h.1);cases this));have Z:=f.o.cell 0;have k1:=f.o.cell 1;have k2:=f.o.cell 2;have f0:=f.o.free 0;have f1:=f.o.free 1;have f2:=f.o.free 2;simp[zeroFrac] at Z k1 k2;go_wp2;refine bodyPost_ret (v:=.agg #[.bool false,.slice none 0 0,.slice none 0 0]) (results_cell_row rfl _ _ (w.heap.size) 141 #[.bool false,.slice none 0 0,.slice none 0 0] (0,0) _ rfl (((f.o.set 0 _).set 1 _).set 2 _) underlying141 rfl Tryz.fracInfo) rfl ?_;exact⟨0,Y.o,⟨_,rfl,FracV.zero _⟩,((d.o.setCell lZ _).setCell lZ _).setCell lZ _⟩
 |true=>
  have u:O (IsDig c1.data.toList):=Hi (X.o.1 rfl);clear X;cases am with
  |false=>
   have Y:=Hi (Qjx y.o af.o T.o U.o V.o u.o (fun h=>by cases h));go_wp2_with fail;go_fit (ag.o _ u.o.2);rintro e w3 G;obtain⟨⟨a,n,c,rfl,l⟩,j⟩:=G.numV;have A:=Hi l;have p:=Hi (f.o.below j f.o.lt);have i:=Hi (d.o.trans (j.mono d.o.size));clear f d l j G;have f:=p;have d:=i;clear p i;go_wp2_with fail;go_fit (Qdw neg a none n c 0 0 (decVal c1.data.toList) 1 _ A.o (.inl ⟨rfl,rfl,rfl,rfl⟩) (Nat.coprime_one_right _));rintro e w9 ⟨⟨v9,rfl,l⟩,j⟩;obtain⟨g,B,C,D,E,F,d9,rfl,l⟩:=l;have k:=f.o.below j f.o.lt;have Z:=k.cell 0;have k1:=k.cell 1;have k2:=k.cell 2;have f0:=k.free 0;have f1:=k.free 1;have f2:=k.free 2;simp[zeroFrac] at Z k1 k2;obtain⟨HV,x,aa⟩:=Ib l k (d.o.trans (j.mono d.o.size));clear l k j;go_wp2
   refine bodyPost_ret (v:=.agg #[.bool g,.slice B C D,.slice E F d9]) (results_cell_row rfl _ _ (w.heap.size) 141 #[.bool g,.slice B C D,.slice E F d9] (0,0) _ rfl (((x.o.set 0 _).set 1 _).set 2 _) underlying141 rfl Tryz.fracInfo) rfl ?_;have ho:=(((Only.refl (w.heap.size) w9).setCell 0 (.bool g)).setCell 1 (.slice B C D)).setCell 2 (.slice E F d9);exact⟨_,Y.o,⟨_,rfl,g,B,C,D,E,F,d9,rfl,HV.o.only ho x.o Qbk⟩,Only.fresh aa.o ho (by omega)⟩
  |true=>
   go_wp2_with fail;go_fit (ap.o _);rintro e w3 ⟨⟨v2,rfl,hv2⟩,av⟩;subst av;have ab:=Hi hv2;clear hv2;cases v2 with
   |false=>
    have Y:O (QOf s.data.toList 0):=Hi (Qgb y.o (fun h=>by have:=ab.o.2 (by rw[<-U.o];exact(h.2 V.o).1);cases this));have Z:=f.o.cell 0;have k1:=f.o.cell 1;have k2:=f.o.cell 2;have f0:=f.o.free 0;have f1:=f.o.free 1;have f2:=f.o.free 2;simp[zeroFrac] at Z k1 k2;go_wp2;refine bodyPost_ret (v:=.agg #[.bool false,.slice none 0 0,.slice none 0 0]) (results_cell_row rfl _ _ (w.heap.size) 141 #[.bool false,.slice none 0 0,.slice none 0 0] (0,0) _ rfl (((f.o.set 0 _).set 1 _).set 2 _) underlying141 rfl Tryz.fracInfo) rfl ?_;exact⟨0,Y.o,⟨_,rfl,FracV.zero _⟩,((d.o.setCell lZ _).setCell lZ _).setCell lZ _⟩
   |true=>
    have ad:O (IsDig c2.data.toList):=Hi (ab.o.1 rfl);clear ab;obtain⟨K0,ae⟩:=nm 1073741824;obtain⟨K,hK⟩:=nm (4*K0);have aw:O (decVal c1.data.toList<2 ^ K):=Hi (by rw[<-hK];exact Qee u.o.2 (by rw[Qag,<-ae];exact N));have ax:O (decVal c2.data.toList<2 ^ K):=Hi (by rw[<-hK];exact Qee ad.o.2 (by rw[Qag,<-ae];exact P));have ay:O (K+K<137438953000):=Hi (by omega);clear hK ae;have Y:=Hi (Qjx y.o af.o T.o U.o V.o u.o (fun _=>ad.o));go_wp2_with fail;go_fit (ag.o _ u.o.2);rintro e w3 G;obtain⟨⟨a,n,c,rfl,l⟩,j⟩:=G.numV;have A:=Hi l;have p:=Hi (f.o.below j f.o.lt);have i:=Hi (d.o.trans (j.mono d.o.size));clear f d l j G;have f:=p;have d:=i;clear p i;go_wp2_with fail;go_fit (aq.o _ ad.o.2);rintro e w4 G;obtain⟨⟨a2,n2,az,rfl,l⟩,j⟩:=G.numV;have ak:=Hi l
    have al:=Hi (A.o.below j);have p:=Hi (f.o.below j f.o.lt);have i:=Hi (d.o.trans (j.mono d.o.size));clear f d l j G A;have f:=p;have d:=i;clear p i;go_wp2_with fail;go_fit (Qob neg a a2 n c n2 az (decVal c1.data.toList) (decVal c2.data.toList) K K _ al.o ak.o aw.o ax.o ay.o);rintro e w9 ⟨⟨v9,rfl,l⟩,j⟩;obtain⟨g,B,C,D,E,F,d9,rfl,l⟩:=l;have k:=f.o.below j f.o.lt;have Z:=k.cell 0;have k1:=k.cell 1;have k2:=k.cell 2;have f0:=k.free 0;have f1:=k.free 1;have f2:=k.free 2;simp[zeroFrac] at Z k1 k2;obtain⟨HV,x,aa⟩:=Ib l k (d.o.trans (j.mono d.o.size));clear l k j;go_wp2
    refine bodyPost_ret (v:=.agg #[.bool g,.slice B C D,.slice E F d9]) (results_cell_row rfl _ _ (w.heap.size) 141 #[.bool g,.slice B C D,.slice E F d9] (0,0) _ rfl (((x.o.set 0 _).set 1 _).set 2 _) underlying141 rfl Tryz.fracInfo) rfl ?_;have ho:=(((Only.refl (w.heap.size) w9).setCell 0 (.bool g)).setCell 1 (.slice B C D)).setCell 2 (.slice E F d9);exact⟨_,Y.o,⟨_,rfl,g,B,C,D,E,F,d9,rfl,HV.o.only ho x.o Qbk⟩,Only.fresh aa.o ho (by omega)⟩
end Go.Proofs.YtppkmifkpjkgpaaGreatDoor
namespace Go.Proofs
open Go.Shelf
def Tryz.lays169_ren:Go.Shelf.Ren:=⟨fun|169=>172|n=>n,fun|70=>211|9=>9|0=>0|72=>214|37=>212|127=>242|3=>3|5=>5|n=>n,fun|n=>n⟩
theorem Tryz.lays169:Go.Proofs.Lays.n169 Tryz.prog Tryz.lays169_ren:={
 mixed:=by kernel_rfl
 f169:=Tryz.func172.trans (congrArg some (by kernel_rfl))
 t0:=Tryz.underlying0
 a0:=Tryz.isAgg0
 z0:=Tryz.sizeOf0
 v0:=Tryz.zeroValue0
 t3:=Tryz.underlying3
 a3:=Tryz.isAgg3
 z3:=Tryz.sizeOf3
 v3:=Tryz.zeroValue3
 t9:=Tryz.underlying9
 a9:=Tryz.isAgg9
 z9:=Tryz.sizeOf9
 v9:=Tryz.zeroValue9
 t37:=Tryz.underlying212
 a37:=Tryz.isAgg212
 z37:=Tryz.sizeOf212
 v37:=Tryz.zeroValue212
 t70:=Tryz.underlying211
 a70:=Tryz.isAgg211
 z70:=Tryz.sizeOf211
 v70:=Tryz.zeroValue211
 t72:=Tryz.underlying214
 a72:=Tryz.isAgg214
 z72:=Tryz.sizeOf214
 v72:=Tryz.zeroValue214
 t127:=Tryz.underlying242
 a127:=Tryz.isAgg242
 z127:=Tryz.sizeOf242
 v127:=Tryz.zeroValue242 }
def Tryz.lays283_ren:Go.Shelf.Ren:=⟨fun|283=>235|n=>n,fun|3=>3|9=>9|4=>4|n=>n,fun|n=>n⟩
theorem Tryz.lays283:Go.Proofs.Lays.n283 Tryz.prog Tryz.lays283_ren:={
 mixed:=by kernel_rfl
 f283:=Tryz.func235.trans (congrArg some (by kernel_rfl))
 t3:=Tryz.underlying3
 a3:=Tryz.isAgg3
 z3:=Tryz.sizeOf3
 v3:=Tryz.zeroValue3
 t4:=Tryz.underlying4
 a4:=Tryz.isAgg4
 z4:=Tryz.sizeOf4
 v4:=Tryz.zeroValue4
 t9:=Tryz.underlying9
 a9:=Tryz.isAgg9
 z9:=Tryz.sizeOf9
 v9:=Tryz.zeroValue9 }
def Tryz.lays284_ren:Go.Shelf.Ren:=⟨fun|284=>236|129=>229|317=>240|318=>241|n=>n,fun|53=>170|3=>3|212=>276|0=>0|4=>4|46=>202|5=>5|9=>9|n=>n,fun|17=>9|n=>n⟩
theorem Tryz.lays284:Go.Proofs.LaysM.n284 Tryz.prog Tryz.lays284_ren:={
 mixed:=by kernel_rfl
 f129:=Tryz.func229.trans (congrArg some (by kernel_rfl))
 f284:=Tryz.func236.trans (congrArg some (by kernel_rfl))
 f317:=Tryz.func240.trans (congrArg some (by kernel_rfl))
 f318:=Tryz.func241.trans (congrArg some (by kernel_rfl))
 t0:=Tryz.underlying0
 a0:=Tryz.isAgg0
 z0:=Tryz.sizeOf0
 v0:=Tryz.zeroValue0
 t3:=Tryz.underlying3
 a3:=Tryz.isAgg3
 z3:=Tryz.sizeOf3
 v3:=Tryz.zeroValue3
 t4:=Tryz.underlying4
 a4:=Tryz.isAgg4
 z4:=Tryz.sizeOf4
 v4:=Tryz.zeroValue4
 t5:=Tryz.underlying5
 a5:=Tryz.isAgg5
 z5:=Tryz.sizeOf5
 v5:=Tryz.zeroValue5
 t9:=Tryz.underlying9
 a9:=Tryz.isAgg9
 z9:=Tryz.sizeOf9
 v9:=Tryz.zeroValue9
 t46:=Tryz.underlying202
 a46:=Tryz.isAgg202
 z46:=Tryz.sizeOf202
 v46:=Tryz.zeroValue202
 t53:=Tryz.underlying170
 a53:=Tryz.isAgg170
 z53:=Tryz.sizeOf170
 v53:=Tryz.zeroValue170
 t212:=Tryz.underlying276
 a212:=Tryz.isAgg276
 z212:=Tryz.sizeOf276
 v212:=Tryz.zeroValue276
 g17:=by kernel_rfl
 i0:=by kernel_rfl
 i3:=by kernel_rfl
 i4:=by kernel_rfl
 i5:=by kernel_rfl
 i9:=by kernel_rfl
 i46:=by kernel_rfl
 i53:=by kernel_rfl
 i212:=by kernel_rfl
 m17:=by kernel_rfl }
def Tryz.lays285_ren:Go.Shelf.Ren:=⟨fun|285=>237|n=>n,fun|37=>212|53=>170|3=>3|4=>4|51=>201|9=>9|5=>5|0=>0|n=>n,fun|n=>n⟩
theorem Tryz.lays285:Go.Proofs.Lays.n285 Tryz.prog Tryz.lays285_ren:={
 mixed:=by kernel_rfl
 f285:=Tryz.func237.trans (congrArg some (by kernel_rfl))
 t0:=Tryz.underlying0
 a0:=Tryz.isAgg0
 z0:=Tryz.sizeOf0
 v0:=Tryz.zeroValue0
 t3:=Tryz.underlying3
 a3:=Tryz.isAgg3
 z3:=Tryz.sizeOf3
 v3:=Tryz.zeroValue3
 t4:=Tryz.underlying4
 a4:=Tryz.isAgg4
 z4:=Tryz.sizeOf4
 v4:=Tryz.zeroValue4
 t5:=Tryz.underlying5
 a5:=Tryz.isAgg5
 z5:=Tryz.sizeOf5
 v5:=Tryz.zeroValue5
 t9:=Tryz.underlying9
 a9:=Tryz.isAgg9
 z9:=Tryz.sizeOf9
 v9:=Tryz.zeroValue9
 t37:=Tryz.underlying212
 a37:=Tryz.isAgg212
 z37:=Tryz.sizeOf212
 v37:=Tryz.zeroValue212
 t51:=Tryz.underlying201
 a51:=Tryz.isAgg201
 z51:=Tryz.sizeOf201
 v51:=Tryz.zeroValue201
 t53:=Tryz.underlying170
 a53:=Tryz.isAgg170
 z53:=Tryz.sizeOf170
 v53:=Tryz.zeroValue170 }
end Go.Proofs
namespace Go.Proofs.YtppkmifkpjkgpaaGreatDoor
open Go.RowKit Go.Sort Go.Lib
open Go.Proofs.Tryz
set_option linter.unusedSimpArgs false
set_option linter.unusedVariables false
set_option maxHeartbeats 8000000
set_option maxRecDepth 1000000
def Tab(w:Vz):Prop:=Lib.TabIs prog w "internal/strconv.uint64pow10" .u64 Lib.pow10Tab
theorem Tab.below{w w':Vz}(h:Tab w)(c:Below w.heap.size w w'):Tab w':=by
 unfold Tab Lib.TabIs World.var? at*;cases hg:prog.globalNamed "internal/strconv.uint64pow10" with
 |none=>simp[hg] at h
 |some g=>
  simp only[hg,Option.bind_some] at h ⊢;have a:g<w.heap.size:=by
   rcases Nat.lt_or_ge g w.heap.size with b|b
   . exact b
   . simp[Array.getElem?_eq_none b] at h
  rw[c.block g a];exact h
theorem Qwb(i:Nat)(h:i<100)(w:Vz):Calls prog 235 #[.int .i64 i] w fun e w'=>e=.returned (.string ⟨(Lib.decDigits i).toArray⟩)/\w'=w:=Any.internal_strconv_small Tryz.lays283 i h w
theorem Qwc(u:Nat)(a:1<=u)(b:u<18446744073709551616)(w:Vz)(c:Tab w):Calls prog 236 #[.int .u64 u] w fun e w'=>e=.returned (.int .i64 (Lib.nDigits u))/\w'=w:=Any.internal_strconv_numDigits Tryz.lays284 u a b w c
theorem Qwd(a c cap:Nat)(u:Nat)(d:Array UInt8)(w:Vz)(i:Go.Sort.Holds (fun (b:UInt8)=>Value.int .u8 (b.toNat:Int)) w a c d)(j:u<10 ^ d.size)(f:u<18446744073709551616)(g:d.size<4611686018427387904):
 Calls prog 237 #[.slice (some ⟨a,c,none⟩) d.size cap,.int .u64 u] w fun e w'=>
  e=.returned (.tuple #[])/\∃(n k:Nat) (h:Array UInt8),w'=(putRow (fun (b:UInt8)=>Value.int .u8 (b.toNat:Int)) w a c h).drewN n/\FmtInv d.size u 0 k h:=Any.internal_strconv_formatBase10 Tryz.lays285 a c cap u d w i j f g
theorem Qwe(w:Vz)(T:Vr)(a:Nat)(e:a<=24):Go.Sort.Holds (fun (b:UInt8)=>Value.int .u8 (b.toNat:Int)) (w.alloc (.cells zeros24 T)) w.heap.size 0 (Array.replicate a (0:UInt8)):=fun j c=>by
 have d:j<a:=by simpa using c
 refine⟨?_,World.frozen?_alloc_new _ _ _ _⟩;rw[World.cell?_alloc_new,zeros24_at _ (by omega),getElem!_pos _ j c];simp
theorem Qwf(w:Vz)(o:Obj)(c:Array UInt8)(k:Nat):Below w.heap.size w ((putRow (fun (b:UInt8)=>Value.int .u8 (b.toNat:Int)) (w.alloc o) w.heap.size 0 c).drewN k):=by
 rw[alloc_eq_grow];obtain⟨a,_,e⟩:=putRow_grow_new (fun (b:UInt8)=>Value.int .u8 (b.toNat:Int)) w #[o] w.heap.size 0 c lZ;rw[e];exact below_grow w.heap.size w lZ k a
theorem Qwg(u:Nat)(a:u<18446744073709551616)(w:Vz)(v:Tab w):
 Calls prog 233 #[.int .u64 u,.int .i64 10] w fun e w'=>e=.returned (.string ⟨(Lib.decDigits u).toArray⟩)/\Below w.heap.size w w':=by
 by_cases D:u<100
 .
  have E:=Hi (Qwb u D w);clear v;go_enter func233,ntmps233;go_wp2_with fail;go_fit E.o;rintro e w1 ⟨rfl,x⟩;subst x;clear E;go_wp2;go_ret;exact⟨rfl,Below.refl _ _⟩
 .
  have i:Lib.nDigits u<=20:=by have:=Lib.numDigits_eq u (by omega) a;split at this<;>omega
  obtain⟨p,c,d,f⟩:=Ic (Lib.lt_pow_nDigits u) (Lib.decDigits_length u) (Qwc u (by omega) a (w.alloc (.cells zeros24 269)) (Tab.below v (bR.alloc lZ _))) (Qwe w 269 (Lib.nDigits u) (by omega));have q:=Hi (Qwd w.heap.size 0 24 u (Array.replicate (Lib.nDigits u) 0) (w.alloc (.cells zeros24 269)) f.o (by rw[Array.size_replicate];exact p.o) a (by rw[Array.size_replicate];omega));rw[Array.size_replicate] at q;obtain⟨N,y⟩:=nm (Lib.nDigits u);have G:∀W,(Instr.sliceAt 269 (.pointer (some ⟨w.heap.size,0,none⟩)) none (some (.int .i64 (N:Int))) none).run prog W=.ok (.slice (some ⟨w.heap.size,0,none⟩) N 24) W:=fun W=>by
   have z:prog.arrayLen 269=24:=by simp[Program.arrayLen,underlying269]
   rw[run_sliceAt_array_h W 269 ⟨w.heap.size,0,none⟩ (by simp[Program.arrayLen,Program.elem,underlying269]) .i64 (N:Int) (by omega) (by rw[z];omega)];go_simp
  rw[y] at p c d f q i;have I:¬((u:Int)<100):=by omega
  obtain⟨J,l⟩:=nm (w.alloc (.cells zeros24 269));obtain⟨A,r⟩:=Ia l (fun s k=>Qwf w (.cells zeros24 269) s k);rw[l] at d f q r;have B:=Hi y;have F:N<=24:=by omega
  clear v D l y;go_enter func233,ntmps233;go_wp2_with fail;have m:=A.o;unfold zeros24 at m;rw[m];clear m;go_fit d.o;rintro e w1 ⟨rfl,x⟩;subst x;clear d;go_wp2_with fail;go_fit q.o;rintro e w2 ⟨rfl,k,K,s,n,t⟩;have g:=Hi (r.o s k);rw[<-n] at g;have H:(convert 212 9 (.slice (some ⟨w.heap.size,0,none⟩) N 24)).run prog w2=.ok (.string ⟨(Lib.decDigits u).toArray⟩) w2:=by
   have h:=run_convert_bytes_back (P:=prog) w2 212 9 5 ⟨w.heap.size,0,none⟩ 24 (Lib.decDigits u) underlying212 underlying5 underlying9 (fun j C=>by
    rw[c.o] at C;rw[Lib.row_is_numeral (by rw[B.o];exact t) j (by rw[c.o];exact C),Lib.add_plain,n,World.cell?_drewN]
    exact cell?_putRow (fun (b:UInt8)=>Value.int .u8 (b.toNat:Int)) _ w.heap.size 0 _ s f.o (by rw[t.size,Array.size_replicate]) j (by rw[t.size];exact C))
   rw[c.o] at h;exact h
  clear n t q;go_wp2;go_ret;exact⟨rfl,g.o⟩
theorem Qwh(u:Nat)(a:u<18446744073709551616)(w:Vz)(b:Tab w):
 Calls prog 222 #[.int .u64 u,.int .i64 10] w fun e w'=>e=.returned (.string ⟨(Lib.decDigits u).toArray⟩)/\Below w.heap.size w w':=by
 have c:=Hi (Qwg u a w b);clear b;go_enter func222,ntmps222;go_wp2_with fail;go_fit c.o;rintro e w1 ⟨rfl,d⟩;have f:=Hi d;clear c d;go_wp2;go_ret;exact⟨rfl,f.o⟩
end Go.Proofs.YtppkmifkpjkgpaaGreatDoor
namespace Go.Proofs.YtppkmifkpjkgpaaGreatDoor
open Go.RowKit
open Go.Proofs.Tryz
set_option linter.unusedSimpArgs false
set_option linter.unusedVariables false
set_option maxHeartbeats 8000000
set_option maxRecDepth 1000000
theorem Tryz.extra:Builder.Extra prog Tryz.lays169_ren where
 sizeBuilder:=by kernel_rfl
 liesBuilder:=by kernel_rfl
 t5:=underlying5
 a5:=Tryz.isAgg5
 z5:=Tryz.sizeOf5
 v5:=Tryz.zeroValue5
 infoByte:=by kernel_rfl
 cellsByte:=by kernel_rfl
 sizeByte:=by kernel_rfl
 neB5:=by decide
theorem Tryz.bdSize:(prog.info? 214).map (·.size)=some 2:=by kernel_rfl
theorem Tryz.bdLies:liesAt prog prog.depth 214 (2 / prog.cellsOf 214) 0 214 1=true:=by kernel_rfl
abbrev Bd(B b:Nat)(bs:Vv)(w:Vz):Prop:=Lib.IsBuilder 214 5 B b bs w
abbrev BdAt(B b:Nat)(bs:Vv)(w:Vz):Prop:=Lib.BuilderAt 214 5 B b (.pointer (some ⟨b,0,none⟩)) bs w
theorem Qvt(B b:Nat)(l:Vu)(w:Vz)(h:Bd B b (Lib.byteCells l) w)(a:B<=w.heap.size):
 Calls prog 172 #[.pointer (some ⟨b,0,none⟩)] w fun e w'=>e=.returned (.string ⟨l.toArray⟩)/\Below B w w':=Any.Builder_String_any Tryz.lays169 Tryz.extra B b l w h a
theorem Qvu(b:Nat)(w:Vz)(d:w.cell? ⟨b,0,none⟩=some (.pointer (some ⟨b,0,none⟩))):
 Calls prog 234 #[.pointer (some ⟨b,0,none⟩)] w fun e w'=>e=.returned (.tuple #[])/\w'=w:=by
 obtain⟨j,a,_⟩:=Option.map_eq_some_iff.1 Tryz.bdSize;have c:∀w,(binOp .neq 211 (.pointer (some ⟨b,0,none⟩)) (.pointer (some ⟨b,0,none⟩))).run prog w=.ok (.bool false) w:=fun w=>Lib.run_neq_ptr_same w ⟨b,0,none⟩ underlying211 a
 go_enter func234,ntmps234;go_wp2;go_end0;exact⟨rfl,rfl⟩
theorem Qvv(b:Nat)(w:Vz)(h:w.cell? ⟨b,0,none⟩=some (.pointer none))(a:w.shape? b=some (214,2))(f:w.frozen? ⟨b,0,none⟩=false):
 Calls prog 234 #[.pointer (some ⟨b,0,none⟩)] w fun e w'=>e=.returned (.tuple #[])/\w'=w.setCell ⟨b,0,none⟩ (.pointer (some ⟨b,0,none⟩)):=by
 obtain⟨j,d,c⟩:=Option.map_eq_some_iff.1 Tryz.bdSize;have i:(convert 211 273 (.pointer (some ⟨b,0,none⟩))).run prog w=.ok (.pointer (some ⟨b,0,none⟩)) w:=Lib.run_to_unsafe w ⟨b,0,none⟩ underlying211 underlying273 d (by rw[c];decide) a (Nat.zero_lt_succ 1);have g:(callFunc 239 #[.pointer (some ⟨b,0,none⟩)]).run prog w=.ok (.value (.pointer (some ⟨b,0,none⟩))) w:=by
  rw[run_callFunc_extern func239 (by kernel_rfl) (by kernel_rfl) (by kernel_rfl) (e:=Extern.AbiNoEscape.same) (by kernel_rfl),Lib.run_noEscape];rfl
 have k:(convert 273 211 (.pointer (some ⟨b,0,none⟩))).run prog w=.ok (.pointer (some ⟨b,0,none⟩)) w:=Lib.run_from_unsafe w ⟨b,0,none⟩ underlying273 underlying211 d a Tryz.bdLies;clear d c a;go_enter func234,ntmps234;go_wp2_with simp only[g];go_end0;exact⟨rfl,rfl⟩
def bufOf(w:Vz)(b:Nat):Option Nat:=(w.cell? ⟨b,1,none⟩).bind Value.ownBlock
structure Wr (b:Nat) (w w':Vz):Prop where
 size:w.heap.size<=w'.heap.size
 block:∀k,k<w.heap.size->k≠b->bufOf w b≠some k->w'.heap[k]?=w.heap[k]?
 buf:bufOf w' b=bufOf w b∨∃g,w.heap.size<=g/\bufOf w' b=some g
theorem Wr.refl(b:Nat)(w:Vz):Wr b w w:=⟨Nat.le_refl _,fun _ _ _ _=>rfl,.inl rfl⟩
theorem Wr.keep{b:Nat}{w w':Vz}(h:Wr b w w'){k:Nat}(hk:k<w.heap.size)(d:bufOf w b≠some k):bufOf w' b≠some k:=by
 rcases h.buf with a|⟨g,e,a⟩
 . rw[a];exact d
 . rw[a];intro c;injection c with c;omega
theorem Wr.trans{b:Nat}{u v w:Vz}(h:Wr b u v)(k:Wr b v w):Wr b u w:=by
 refine⟨Nat.le_trans h.size k.size,fun i c d e=>?_,?_⟩
 . rw[k.block i (by have:=h.size;omega) d (h.keep c e)]
   exact h.block i c d e
 .
  rcases k.buf with a|⟨g,f,a⟩
  . rw[a];exact h.buf
  . exact .inr ⟨g,by have:=h.size;omega,a⟩
theorem Wr.below{b:Nat}{w w':Vz}(a:b<w.heap.size)(h:Below w.heap.size w w'):Wr b w w':=
 ⟨h.size,fun k hk _ _=>h.block k hk,.inl (by unfold bufOf;rw[h.cell (p:=⟨b,1,none⟩) a])⟩
theorem BdAt.lt'{B b:Nat}{a:Vv}{w:Vz}(h:Bd B b a w):b<w.heap.size:=by rcases h with h|h<;>exact h.lt
theorem Qlp{b:Nat}{w w1 w2:Vz}{p v c:Value}(d:w.heap[b]?=some (.cells #[p,v] 214 (0,0)))(a:Below w.heap.size w w1)(f:w1.grownBy w2 v.ownBlock)(g:c.ownBlock=v.ownBlock∨c.ownBlock=some w1.heap.size)(i:v.ownBlock≠some b):Wr b w (w2.setCell ⟨b,1,none⟩ c):=by
 have n:b<w.heap.size:=by
  rcases Nat.lt_or_ge b w.heap.size with j|j
  . exact j
  . simp[Array.getElem?_eq_none j] at d
 have m:bufOf w b=v.ownBlock:=by unfold bufOf;rw[Lib.cell_of_heap d];rfl
 have o:w1.heap[b]?=some (.cells #[p,v] 214 (0,0)):=by rw[a.block b n];exact d
 have q:w2.heap[b]?=some (.cells #[p,v] 214 (0,0)):=by rw[f.block b (by have:=a.size;omega) (fun e=>i e.symm)];exact o
 have r:bufOf (w2.setCell ⟨b,1,none⟩ c) b=c.ownBlock:=by
  unfold bufOf;rw[World.cell?_setCell_same _ _ _ (show w2.cell? ⟨b,1,none⟩=some v by rw[Lib.cell_of_heap q];rfl)];rfl
 refine⟨?_,fun k hk l s=>?_,?_⟩
 .
  have t:=a.size;have u:=f.size;simp[World.setCell];omega
 . rw[Below.heap_setCell _ _ _ _ l,f.block k (by have:=a.size;omega) (fun e=>s (by rw[m];exact e.symm)),a.block k hk]
 .
  rw[r,m];rcases g with h|h
  . exact .inl h
  . exact .inr ⟨_,a.size,h⟩
def U8In(C:Vw):Prop:=∀(i:Nat) u,C[i]?=some u->∃n,u=Value.int .u8 n
def U8Blk(w:Vz)(v:Value):Prop:=∀g,v.ownBlock=some g->∃C t f,w.heap[g]?=some (.cells C t f)/\U8In C
theorem U8In.append{C D:Vw}(h:U8In C)(k:U8In D):U8In (C++D):=fun i u a=>by
 rw[Array.getElem?_append] at a
 split at a
 . exact h _ _ a
 . exact k _ _ a
theorem U8In.zeros(n:Nat):U8In (Builtin.zeroCells (Value.int .u8 0).cells n):=fun i u b=>by
 have a:=Array.mem_of_getElem? b;simp[Builtin.zeroCells,Value.cells] at a;obtain⟨j,c,e⟩:=a;rw[Nat.mod_one] at e;exact⟨0,e.symm⟩
theorem U8In.list{l:Vv}(h:∀u,u∈ l->∃n,u=Value.int .u8 n):U8In l.toArray:=fun i u a=>h u (by rw[List.getElem?_toArray] at a;exact mO a)
theorem U8In.mem{C:Vw}(h:U8In C){u:Value}(b:u∈ C.toList):∃n,u=Value.int .u8 n:=by
 obtain⟨i,a⟩:=List.mem_iff_getElem?.1 b;exact h i u (by rw[Array.getElem?_toList] at a;exact a)
theorem Qlq(s:Vs):∀u,u∈ Lib.strCells s->∃n,u=Value.int .u8 n:=fun u a=>by
 unfold Lib.strCells at a;obtain⟨c,_,rfl⟩:=List.mem_map.1 a;exact⟨_,rfl⟩
theorem U8Blk.new(w:Vz)(C:Vw)(t:Vr)(n cap:Nat)(h:U8In C):U8Blk (w.drew.alloc (.cells C t)) (.slice (some ⟨w.heap.size,0,none⟩) n cap):=fun g a=>by
 have e:w.heap.size=g:=by simpa [Value.ownBlock] using a
 subst e;exact⟨C,t,_,heap_alloc_new w.drew _,h⟩
theorem U8Blk.row{w:Vz}{g n cap n' cap':Nat}{a news:Vw}{t:Vr}{f:Nat × Nat}(c:w.heap[g]?=some (.cells a t f))(h:U8In news):U8Blk (w.setRow g news) (.slice (some ⟨g,0,none⟩) n cap):=fun d b=>by
 have e:g=d:=by simpa [Value.ownBlock] using b
 subst e;exact⟨news,t,f,setRow_heap w g a _ t _ c,h⟩
theorem Qwi{w:Vz}{r:Nat}{v F:Value}{n m y:Nat}{xs news:Vv}{a:Addr}{w':Vz}{ty:Vr}{i:TypeInfo}(z:prog.info? 5=some i)(G:i.zero=some (.int .u8 0))(e:i.size=1)(s:i.bytes=1)(d:w.ownsRow r 5 1 v n xs)(c:U8Blk w v)
 (hl:news.length=m) (b:∀j u,news[j]?=some u->w.cell? (a.add j)=some u) (H:∀u∈ news,u.oneCell'=true) (A:∀u,u∈ news->∃n,u=Value.int .u8 n) (I:0<m) (J:n+m<=140737488355328)
 (q:(Builtin.append_ #[212,212] ty #[v,.slice (some a) m y]).run prog w=.ok F w'):U8Blk w' F:=by
 have B:xs.length=n:=by simpa using d.1
 have f:=d;have h:news.length=m*i.size:=by rw[e,Nat.mul_one];exact hl
 rcases d.2 with ⟨rfl,rfl⟩|⟨g,cap,D,rfl,K,E,L,M,N,k⟩
 .
  rw[run_append_nil (P:=prog) w 212 ty 5 i (.int .u8 0) underlying212 z G a m y news h b I (by omega) (by rw[s];omega)] at q;injection q with t x
  rw[<-t,<-x];exact U8Blk.new _ _ _ _ _ ((U8In.list A).append (U8In.zeros _))
 .
  obtain⟨C,O,Q,hC,l⟩:=c g rfl;rw[E] at hC;injection hC with hC
  injection hC with hC _ _
  subst hC;by_cases o:n+m<=cap
  .
   rw[run_append_room (P:=prog) w 212 ty 5 i underlying212 z g n cap D E a m y news h b H o (by rw[e];omega)] at q;injection q with t x
   rw[<-t,<-x];refine U8Blk.row (n':=0) (cap':=0) E (U8In.list fun u c=>?_);simp only[List.mem_append] at c;rcases c with (c|c)|c
   . exact l.mem (List.mem_of_mem_take c)
   . exact A u c
   . exact l.mem (List.mem_of_mem_drop c)
  .
   have p:∀j u,xs[j]?=some u->w.cell? ((⟨g,0,none⟩:Addr).add j)=some u:=f.cells (g:=g) rfl;rw[run_append_grow (P:=prog) w 212 ty 5 i (.int .u8 0) underlying212 z G ⟨g,0,none⟩ n cap xs (by rw[e];simpa using B) p a m y news h b (by omega) (by omega) (by rw[s];exact growslice_fits (by omega) (by omega))] at q;injection q with t x
   rw[<-t,<-x];refine U8Blk.new _ _ _ _ _ (((U8In.list fun u c=>?_).append (U8In.list A)).append (U8In.zeros _));rw[<-k] at c;exact l.mem (List.mem_of_mem_take c)
structure Bd8 (B b:Nat) (l:Vu) (w:Vz):Prop where
 bd:Bd B b (Lib.byteCells l) w
 u8:∀v,w.cell? ⟨b,1,none⟩=some v->U8Blk w v
theorem U8Blk.below{w w':Vz}{v:Value}(h:U8Blk w v)(b:∀g,v.ownBlock=some g->w'.heap[g]?=w.heap[g]?):U8Blk w' v:=fun g a=>by
 obtain⟨C,t,f,c,d⟩:=h g a;exact⟨C,t,f,by rw[b g a];exact c,d⟩
theorem Qlr(B b:Nat)(d:Vv)(w:Vz)(h:Bd B b d w)(f:∀v,w.cell? ⟨b,1,none⟩=some v->U8Blk w v):
 Calls prog 234 #[.pointer (some ⟨b,0,none⟩)] w fun e w'=>e=.returned (.tuple #[])/\BdAt B b d w'/\Below B w w'/\Wr b w w'/\(∀v,w'.cell? ⟨b,1,none⟩=some v->U8Blk w' v):=by
 rcases h with h|h
 .
  refine(Qvv b w h.cell0 h.shape h.frozen0).mono ?_;rintro e w' ⟨rfl,rfl⟩;have i:(w.setCell ⟨b,0,none⟩ (.pointer (some ⟨b,0,none⟩))).cell? ⟨b,1,none⟩=w.cell? ⟨b,1,none⟩:=World.cell?_setCell_other _ _ _ _ (by simp);refine⟨rfl,h.used _,(Below.refl B w).setCell (p:=⟨b,0,none⟩) h.1 _,⟨by simp[World.setCell],fun k hk j _=>Below.heap_setCell _ _ _ _ j,.inl ?_⟩,fun v a=>?_⟩
  . unfold bufOf
    rw[i]
  .
   rw[i] at a;obtain⟨_,u,l,_,c⟩:=h;have:v=u:=by rw[Lib.cell_of_heap l] at a;simpa using a.symm
   subst this;exact(f v a).below fun g m=>Below.heap_setCell _ _ _ _ (fun e=>c (by rw[m,e]))
 .
  refine(Qvu b w h.cell0).mono ?_;rintro e w' ⟨rfl,rfl⟩;exact⟨rfl,h,Below.refl B _,Wr.refl _ _,f⟩
theorem Qdg{P:Program}(w:Vz){b:Array Oper}{rest:List Oper}{o:Oper}{a:Act}{Q:Exit->Act->World->Prop}(c:o.guard=none)(d x:Operand)(t u:Vr)
 (f:o.op=.call { callee:=.builtin .append,args:=#[d,x],argTypes:=#[t,u] }) (v y e:Value) (w':Vz) (g:a.eval d=v) (i:a.eval x=y)
 (j:(Builtin.append_ #[t,u] o.type #[v,y]).run P w=.ok e w') (h:wpList P b Q rest (a.put o.dst e) w'):wpList P b Q (o :: rest) a w:=by
 refine wpList_plain c fun K k=>?_
 unfold Oper.wp execOp;simp only[f,resolve,invoke,builtin,Sem.run_bind,Sem.run_pure,Result.andThen_ok,List.map_toArray,List.map_cons,List.map_nil,g,i,j];exact k _ _ h
def Wrote(B b:Nat)(l:Vu)(r:Value)(w:Vz)(e:Ending)(w':Vz):Prop:=e=.returned r/\Bd8 B b l w'/\Below B w w'/\Wr b w w'
theorem Qls{w2:Vz}{b:Nat}{p v a:Value}(d:w2.heap[b]?=some (.cells #[p,v] 214 (0,0)))(h:U8Blk w2 a)(f:a.ownBlock≠some b):∀u,(w2.setCell ⟨b,1,none⟩ a).cell? ⟨b,1,none⟩=some u->U8Blk (w2.setCell ⟨b,1,none⟩ a) u:=fun u c=>by
 rw[World.cell?_setCell_same _ _ _ (show w2.cell? ⟨b,1,none⟩=some v by rw[Lib.cell_of_heap d];rfl)] at c;injection c with c
 subst c;exact h.below fun g i=>Below.heap_setCell _ _ _ _ (fun e=>f (by rw[i,e]))
theorem Qwj(B b:Nat)(l:Vu)(c:UInt8)(w:Vz)(h:Bd8 B b l w)(U:l.length+1<=140737488355328)(Z:B<=w.heap.size):
 Calls prog 223 #[.pointer (some ⟨b,0,none⟩),.int .u8 (c.toNat:Int)] w (Wrote B b (l++ [c]) .nilIface w):=by
 obtain⟨i0,J,x,y,hz2⟩:=info_parts Tryz.info8;have V:=Hi (Qlr B b (Lib.byteCells l) w h.bd h.u8);have aa:(Lib.byteCells l).length=l.length:=Lib.byteCells_length l;clear h;go_enter func223,ntmps223;go_wp2_with fail;go_fit V.o;rintro e w1 ⟨rfl,⟨hB,v,q,i,z⟩,A,D,W⟩;clear V;have c1:w1.cell? ⟨b,1,none⟩=some v:=by rw[Lib.cell_of_heap q];rfl
 have E:=W v c1;have K:b<w1.heap.size:=by
  rcases Nat.lt_or_ge b w1.heap.size with L|L
  . exact L
  . simp[Array.getElem?_eq_none L] at q
 have ab:=A.size;have s:Below w1.heap.size w1 (w1.alloc (.cells #[.int .u8 (c.toNat:Int)] 5)):=bR.alloc lZ _;have f:=Qbn i s;have C:∀j u,[Value.int .u8 (c.toNat:Int)][j]?=some u->(w1.alloc (.cells #[.int .u8 (c.toNat:Int)] 5)).cell? ((⟨w1.heap.size,0,none⟩:Addr).add j)=some u:=World.news_of_block (heap_alloc_new w1 _);have r:∀u∈ [Value.int .u8 (c.toNat:Int)],u.oneCell'=true:=fun u M=>by rw[List.mem_singleton.1 M];rfl
 obtain⟨X,w2,N,a,d,_,F⟩:=run_append_own_at (P:=prog) (w1.alloc (.cells #[.int .u8 (c.toNat:Int)] 5)) B 212 212 5 i0 (.int .u8 0) 1 1 underlying212 J x y hz2 rfl (by decide) v _ _ f ⟨w1.heap.size,0,none⟩ 1 1 [.int .u8 (c.toNat:Int)] rfl C r (by unfold maxLen;omega) (by omega) (by rw[World.size_alloc];omega);have t:U8Blk (w1.alloc (.cells #[.int .u8 (c.toNat:Int)] 5)) v:=E.below fun g hg=>s.block g ((i.lt g hg).2)
 have G:U8Blk w2 X:=Qwi (m:=1) J x y hz2 f t rfl C r (fun u M=>⟨_,List.mem_singleton.1 M⟩) (by decide) (by omega) N;have n:w2.heap[b]?=some (.cells #[.pointer (some ⟨b,0,none⟩),v] 214 (0,0)):=by
  rw[d.block b (by simp;omega) (fun e=>z e.symm),Lib.alloc_old w1 _ b K];exact q
 obtain⟨O,n',cap,rfl⟩:∃O n' cap,X=.slice O n' cap:=by
  rcases a.2 with ⟨Q,_⟩|⟨g,cap,ad,Q,_⟩
  . exact⟨_,_,_,Q⟩
  . exact⟨_,_,_,Q⟩
 have d1:w2.cell? ⟨b,1,none⟩=some v:=by rw[Lib.cell_of_heap n];rfl
 have f1:w2.frozen? ⟨b,1,none⟩=false:=Lib.frozen_of_heap n 1;obtain⟨H,R,I,S,Y⟩:=Id (Lib.BuilderAt.put (T:=214) (e:=5) hB n (bs':=Lib.byteCells (l++ [c])) (by simpa [Lib.byteCells] using a) (by decide)) (Qls n G (Lib.ownBlock_ne a n (by decide))) (((A.alloc (by omega) (.cells #[.int .u8 (c.toNat:Int)] 5)).grown d (by simp;omega) (fun k hk=>(i.lt k hk).1)).setCell (p:=⟨b,1,none⟩) hB (.slice O n' cap)) (D.trans (Qlp q s d F z)) N;clear q i z A D n a d F J x y hz2 N G t r C f s E W;go_wp2_with (at_builtin;refine Qdg _ rfl _ _ 212 212 rfl v (.slice (some ⟨w1.heap.size,0,none⟩) 1 1) _ _ rfl rfl Y.o ?_);clear Y;go_wp2;go_ret;exact⟨rfl,⟨.inr H.o,R.o⟩,I.o,S.o⟩
theorem Qwk{w:Vz}{l:Nat}{v r:Value}{n:Nat}{xs:Vv}{s:Vs}{w':Vz}{ty:Vr}{i:TypeInfo}(t:prog.info? 5=some i)(B:i.zero=some (.int .u8 0))(m:i.size=1)(o:i.bytes=1)(b:w.ownsRow l 5 1 v n xs)(a:U8Blk w v)(D:0<s.size)(E:n+s.size<=140737488355328)
 (k:(Builtin.append_ #[212,9] ty #[v,.string s]).run prog w=.ok r w'):(r.ownBlock=v.ownBlock∨r.ownBlock=some w.heap.size)/\U8Blk w' r:=by
 have y:xs.length=n:=by simpa using b.1
 have c:=b;rcases b.2 with ⟨rfl,rfl⟩|⟨g,cap,z,rfl,F,A,G,H,I,d⟩
 .
  rw[run_append_nil_string (P:=prog) w 212 9 ty 5 i (.int .u8 0) underlying212 underlying9 t B s D (by omega) (by rw[o];omega)] at k;injection k with p q
  rw[<-p,<-q];refine⟨.inr rfl,U8Blk.new _ _ _ _ _ (U8In.append ?_ (U8In.zeros _))⟩;intro j u a;rw[Array.getElem?_map] at a;obtain⟨x,_,rfl⟩:=Option.map_eq_some_iff.1 a;exact⟨_,rfl⟩
 .
  obtain⟨C,J,K,hC,e⟩:=a g rfl;rw[A] at hC;injection hC with hC
  injection hC with hC _ _
  subst hC;by_cases f:n+s.size<=cap
  .
   rw[Lib.run_append_room_string (P:=prog) w 212 9 ty 5 i underlying212 underlying9 t m g n cap z A s f (by omega)] at k;injection k with p q
   rw[<-p,<-q];refine⟨.inl rfl,U8Blk.row (n':=0) (cap':=0) A (U8In.list fun u a=>?_)⟩;simp only[List.mem_append] at a;rcases a with (a|a)|a
   . exact e.mem (List.mem_of_mem_take a)
   . exact Qlq s u a
   . exact e.mem (List.mem_of_mem_drop a)
  .
   have h:∀j u,xs[j]?=some u->w.cell? ((⟨g,0,none⟩:Addr).add j)=some u:=c.cells (g:=g) rfl;rw[Lib.run_append_grow_string (P:=prog) w 212 9 ty 5 i (.int .u8 0) underlying212 underlying9 t B ⟨g,0,none⟩ n cap xs (by rw[m];simpa using y) h s (by omega) (by omega) (by rw[o];exact growslice_fits (by omega) (by omega))] at k;injection k with p q
   rw[<-p,<-q];refine⟨.inr rfl,U8Blk.new _ _ _ _ _ (((U8In.list fun u a=>?_).append (U8In.list (Qlq s))).append (U8In.zeros _))⟩;rw[<-d] at a;exact e.mem (List.mem_of_mem_take a)
theorem Qlt(B b:Nat)(l:Vu)(s:Vs)(w:Vz)(h:Bd8 B b l w)(N:0<s.size)(J:l.length+s.size<=140737488355328)(O:B<=w.heap.size):
 Calls prog 224 #[.pointer (some ⟨b,0,none⟩),.string s] w (Wrote B b (l++s.data.toList) (.tuple #[.int .i64 s.size,.nilIface]) w):=by
 obtain⟨Q,A,j,m,hz2⟩:=info_parts Tryz.info8;have K:=Hi (Qlr B b (Lib.byteCells l) w h.bd h.u8);have R:(Lib.byteCells l).length=l.length:=Lib.byteCells_length l;clear h;go_enter func224,ntmps224;go_wp2_with fail;go_fit K.o;rintro e w1 ⟨rfl,⟨hB,v,i,d,n⟩,q,r,L⟩;clear K;have c1:w1.cell? ⟨b,1,none⟩=some v:=by rw[Lib.cell_of_heap i];rfl
 have S:=q.size;obtain⟨U,w2,C,a,c,_⟩:=Lib.run_append_own_string (P:=prog) w1 B 212 9 212 5 Q underlying212 underlying9 A j m hz2 v _ _ d s (by unfold maxLen;omega) (by omega) (by omega);obtain⟨t,u⟩:=Qwk A j m hz2 d (L v c1) N (by omega) C;have D:b<w1.heap.size:=by
  rcases Nat.lt_or_ge b w1.heap.size with E|E
  . exact E
  . simp[Array.getElem?_eq_none E] at i
 have f:w2.heap[b]?=some (.cells #[.pointer (some ⟨b,0,none⟩),v] 214 (0,0)):=by
  rw[c.block b D (fun e=>n e.symm)];exact i
 obtain⟨F,n',cap,rfl⟩:∃F n' cap,U=.slice F n' cap:=by
  rcases a.2 with ⟨G,_⟩|⟨g,cap,V,G,_⟩
  . exact⟨_,_,_,G⟩
  . exact⟨_,_,_,G⟩
 have d1:w2.cell? ⟨b,1,none⟩=some v:=by rw[Lib.cell_of_heap f];rfl
 have f1:w2.frozen? ⟨b,1,none⟩=false:=Lib.frozen_of_heap f 1;have x:Lib.byteCells (l++s.data.toList)=Lib.byteCells l++Lib.strCells s:=by rw[Lib.strCells_eq];simp[Lib.byteCells]
 obtain⟨y,H,z,I,M⟩:=Id (Lib.BuilderAt.put (T:=214) (e:=5) hB f (bs':=Lib.byteCells (l++s.data.toList)) (by rw[x,List.length_append,Lib.strCells_length];exact a) (by decide)) (Qls f u (Lib.ownBlock_ne a f (by decide))) ((q.grown c (by omega) (fun k hk=>(d.lt k hk).1)).setCell (p:=⟨b,1,none⟩) hB (.slice F n' cap)) (r.trans (Qlp i bR c t n)) C;clear i d n q r f a c t A j m hz2 C u L x;go_wp2_with (at_builtin;refine Qdg _ rfl _ _ 212 9 rfl v (.string s) _ _ rfl rfl M.o ?_);clear M;go_wp2;go_ret2;exact⟨rfl,⟨.inr y.o,H.o⟩,z.o,I.o⟩
theorem Bd8.parts{B b:Nat}{l:Vu}{w:Vz}(h:Bd8 B b l w):∃q a n c,w.heap[b]?=some (.cells #[.pointer q,.slice a n c] 214 (0,0)):=by
 have:∃q,Lib.BuilderAt 214 5 B b (.pointer q) (Lib.byteCells l) w:=by
  rcases h.bd with h|h
  . exact⟨_,h⟩
  . exact⟨_,h⟩
 obtain⟨q,hB,v,d,e,i⟩:=this;rcases e.2 with ⟨f,_⟩|⟨g,cap,j,f,_⟩
 . exact⟨q,none,0,0,by rw[<-f];exact d⟩
 . exact⟨q,some ⟨g,0,none⟩,_,cap,by rw[<-f];exact d⟩
theorem Bd8.lt{B b:Nat}{l:Vu}{w:Vz}(h:Bd8 B b l w):b<w.heap.size:=BdAt.lt' h.bd
theorem Bd8.not_buf{B b:Nat}{l:Vu}{w:Vz}(h:Bd8 B b l w){k o:Nat}{u:Value}(a:w.cell? ⟨k,o,none⟩=some u)(d:∀n,u≠.int .u8 n):bufOf w b≠some k:=by
 intro c;unfold bufOf at c;obtain⟨v,e,hk⟩:=Option.bind_eq_some_iff.1 c;obtain⟨C,t,f,hC,g⟩:=h.u8 v e k hk;rw[Lib.cell_of_heap hC] at a;obtain⟨n,i⟩:=g o u a;exact d n i
theorem Bd8.word_apart{B b:Nat}{l:Vu}{w:Vz}(h:Bd8 B b l w){k o:Nat}{n:Int}(d:w.cell? ⟨k,o,none⟩=some (.int .u64 n)):k≠b/\bufOf w b≠some k:=by
 refine⟨?_,h.not_buf d (fun n e=>by cases e)⟩;rintro rfl;obtain⟨q,a,m,c,f⟩:=h.parts;rw[Lib.cell_of_heap f] at d
 match o with
 |0=>simp at d
 |1=>simp at d
 |o+2=>simp at d
theorem Bd8.slice_apart{B b:Nat}{l:Vu}{w:Vz}(h:Bd8 B b l w){k:Nat}{a:Vx}{n c:Nat}(d:w.cell? ⟨k,0,none⟩=some (.slice a n c)):k≠b/\bufOf w b≠some k:=by
 refine⟨?_,h.not_buf d (fun n e=>by cases e)⟩;rintro rfl;obtain⟨q,a,m,c,f⟩:=h.parts;rw[Lib.cell_of_heap f] at d;simp at d
theorem Bd8.below{B b:Nat}{l:Vu}{w w':Vz}(h:Bd8 B b l w)(e:Below w.heap.size w w'):Bd8 B b l w':=by
 have a:=h.lt;have c:∀p,Lib.BuilderAt 214 5 B b p (Lib.byteCells l) w->Lib.BuilderAt 214 5 B b p (Lib.byteCells l) w':=fun p ⟨hB,v,i,d,j⟩=>
  ⟨hB,v,by rw[e.block b a];exact i,Qbn d e,j⟩
 refine⟨?_,fun v k=>?_⟩
 .
  rcases h.bd with h|h
  . exact .inl (c _ h)
  . exact .inr (c _ h)
 .
  rw[e.cell (p:=⟨b,1,none⟩) a] at k;refine(h.u8 v k).below fun g m=>e.block g ?_
  obtain⟨C,t,f,hC,_⟩:=h.u8 v k g m;exact(Array.getElem?_eq_some_iff.1 hC).1
theorem U64.wrote{B b:Nat}{l:Vu}{w w':Vz}{a:Vx}{cap n:Nat}{f:Vy}(h:U64 w a cap f n)(m:Bd8 B b l w)(k:Wr b w w'):U64 w' a cap f n:=by
 refine⟨⟨h.row.fit,?_,fun i o=>?_⟩,h.num,h.short⟩
 .
  rcases h.row.shape with d|⟨e,c,d,g⟩
  . exact .inl d
  . exact .inr ⟨e,c,d,by have:=k.size;omega⟩
 .
  obtain⟨e,c,d,g,j⟩:=h.row.cell i o;obtain⟨p,q⟩:=m.word_apart j;exact⟨e,c,d,by have:=k.size;omega,(World.cell?_of_block (w:=w) (k.block e g p q)).trans j⟩
end Go.Proofs.YtppkmifkpjkgpaaGreatDoor
