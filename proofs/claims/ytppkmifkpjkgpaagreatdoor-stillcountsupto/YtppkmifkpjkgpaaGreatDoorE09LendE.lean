import Derived.Test.YtppkmifkpjkgpaaGreatDoorE08FracC
import Derived.Shelf.Strings.Builder1
import Derived.Shelf.Strconv.Itoa1
import Derived.Shelf.Strconv.Itoa2
import Derived.Lib.ItoaMem
import Derived.Lib.AppendIntMem
import Derived.BigCall
import Derived.BigGuard
import Derived.Lib.Builder
import Derived.Lib.AppendStr
import Derived.Lib.UnsafeStr
import Derived.Laws.Externs
import Derived.Deep.Slices
import Derived.KernelRfl
import Derived.Test.YtppkmifkpjkgpaaGreatDoorRows
import Derived.ProofKit
import Derived.OpenShut
import Derived.Carry
import Derived.Lib.LaidTab
import Derived.Shelf.LaysM
import Derived.Deep.RegionLaw
import Derived.Deep.Upon
import Derived.Laws.OwnMore
namespace Go.Proofs.YtppkmifkpjkgpaaGreatDoor
open Go.RowKit
open Go.Proofs.Tryz
set_option linter.unusedSimpArgs false
set_option linter.unusedVariables false
set_option maxHeartbeats 8000000
set_option maxRecDepth 1000000
theorem Qsh(s:Vs)(w:Vz):
 Calls prog 131 #[.string s,.string ⟨#[45]⟩] w fun e w'=>e=.returned (.tuple #[.string ⟨(Lib.trimPrefix s.data.toList [45]).toArray⟩,.bool (Lib.hasPrefix s.data.toList [45])])/\w'=w:=Any.strings_CutPrefix Tryz.lays103 s ⟨#[45]⟩ w
theorem Qsi(s:Vs)(m:Int)(w:Vz)(hs:s.size<4294967281)(a:w.cell? ⟨4,0,none⟩=some (.int .i64 m)):
 Calls prog 132 #[.string s,.string ⟨#[47]⟩] w fun e w'=>e=.returned (.tuple #[.string ⟨(Lib.cut s.data.toList [47]).1.toArray⟩,.string ⟨(Lib.cut s.data.toList [47]).2.1.toArray⟩,.bool (Lib.cut s.data.toList [47]).2.2])/\∃n,w'=w.drewN n:=Any.strings_Cut Tryz.lays145 s ⟨#[47]⟩ m w hs a
theorem Nat64.numV{w w':Vz}{x:Nat}{e:Ending}(h:Nat64 w x e w'):(∃a n c,e=.returned (.slice a n c)/\NumV w' a n c x)/\Below w.heap.size w w':=by
 obtain⟨⟨a,c,l,rfl,b⟩,d⟩:=h;exact⟨⟨a,l.length,c,rfl,l,rfl,b⟩,d⟩
theorem Qsj(neg:Bool)(t k:Nat):mkRat (sgn neg t) k=if neg=true then -(mkRat (t:Int) k) else mkRat (t:Int) k:=by
 cases neg
 . simp[sgn]
 . simp only[sgn,if_true]
   rw[Rat.neg_mkRat]
theorem Qgk{s t:Vu}(a:Lib.trimPrefix s [45]=t)(h:¬QForm t):QOf s 0:=by
 refine⟨0,by rw[a];exact .inr ⟨h,rfl⟩,?_⟩
 split<;>simp
theorem Qj8{s t c1 c2:Vu}{a neg:Bool}(h:Lib.trimPrefix s [45]=t)(j:Lib.hasPrefix s [45]=neg)(i:(Lib.cut t [47]).1=c1)(c:(Lib.cut t [47]).2.1=c2)(d:(Lib.cut t [47]).2.2=a)(e:IsDig c1)(f:a=true->IsDig c2):
 QOf s (mkRat (sgn neg (decVal c1)) (if a=true then decVal c2 else 1)):=by
 by_cases b:a=true/\decVal c2=0
 .
  rw[if_pos b.1,b.2,Rat.mkRat_zero];apply Qgk h;intro k;exact(k.2 (by rw[d];exact b.1)).2 (by rw[c];exact b.2)
 .
  refine⟨mkRat (decVal c1:Nat) (if a=true then decVal c2 else 1),?_,by rw[j];exact Qsj _ _ _⟩;rw[h];refine .inl ⟨⟨by rw[i];exact e,fun g=>?_⟩,by rw[i,c,d]⟩;rw[d] at g;rw[c];exact⟨f g,fun l=>b ⟨g,l⟩⟩
def OfAns(s:Vu)(w:Vz)(e:Ending)(w':Vz):Prop:=∃q,QOf s q/\FNew w q e w'
theorem Qj9(s:Vs)(m:Int)(w:Vz)(hm:w.cell? ⟨4,0,none⟩=some (.int .i64 m))(hs:s.size<=1073741824):
 Calls prog 82 #[.string s] w (OfAns s.data.toList w):=by
 obtain⟨t,ht⟩:=nm ((⟨(Lib.trimPrefix s.data.toList [45]).toArray⟩:ByteArray));obtain⟨neg,p⟩:=nm (Lib.hasPrefix s.data.toList [45]);have G:Lib.trimPrefix s.data.toList [45]=t.data.toList:=by rw[<-ht]
 have a0:t.size<=1073741824:=by
  have:=Qei s.data.toList [45];rw[G,Qag,Qag] at this;omega
 obtain⟨c1,H⟩:∃c,(⟨(Lib.cut t.data.toList [47]).1.toArray⟩:ByteArray)=c:=⟨_,rfl⟩;obtain⟨c2,I⟩:∃c,(⟨(Lib.cut t.data.toList [47]).2.1.toArray⟩:ByteArray)=c:=⟨_,rfl⟩;obtain⟨am,q⟩:∃b,(Lib.cut t.data.toList [47]).2.2=b:=⟨_,rfl⟩;have J:(Lib.cut t.data.toList [47]).1=c1.data.toList:=by rw[<-H]
 have L:(Lib.cut t.data.toList [47]).2.1=c2.data.toList:=by rw[<-I]
 have M:c1.size<=1073741824:=by have:=Qko t.data.toList;rw[J,Qag,Qag] at this;omega
 have N:c2.size<=1073741824:=by have:=Qkp t.data.toList;rw[L,Qag,Qag] at this;omega
 have d:=Hi ((Below.refl w.heap.size w).alloc lZ (.cells zeroFrac 141));obtain⟨HM,f⟩:=Ia (ce d.o (World.block_lt_of_cell? _ _ hm) hm) (SB.new w 141 zeroFrac);obtain⟨wA,P⟩:=nm (w.alloc (.cells zeroFrac 141));rw[P] at d HM f;obtain⟨Q,R⟩:=Ia (Qsh s wA) (Qsi t m wA (by omega) HM.o);rw[ht,p] at Q;rw[H,I,q] at R;obtain⟨an,x,af,S,T,U,ao,ap,ag⟩:=Ih P G p J L q (fun w=>Qka c1 w M) (fun w=>Qka c2 w N) (fun w h=>Qj7 c1 w M h);have aq:=Hi (fun w h=>Qj7 c2 w N h);clear ht p G H I q J L hm P;go_enter func82,ntmps82;go_wp2_with fail;rw[show w.alloc (.cells #[.bool false,.slice none 0 0,.slice none 0 0] 141)=wA from an.o];go_fit Q.o;rintro e w1 ⟨rfl,hw⟩;subst hw;clear Q
 go_wp2_with fail;go_fit R.o;rintro e w1 ⟨rfl,nD,hw⟩;subst hw;clear R;have y:Bl w1 (w1.drewN nD):=Qeb bR nD;obtain⟨wD,V⟩:=nm (w1.drewN nD);rw[V] at y;obtain⟨ah,ai,ar⟩:=Ib (d.o.trans (y.mono d.o.size)) (f.o.below y f.o.lt) V;clear y V d f HM;have d:=ah;have f:=ai;clear ah ai;go_wp2_with fail;rw[ar.o];go_fit (ao.o _);rintro e w2 ⟨⟨v1,rfl,aj⟩,au⟩;subst au;have W:=Hi aj;clear aj;cases v1 with
 |false=>
  have X:O (QOf s.data.toList 0):=Hi (Qgk x.o (fun h=>by have:=W.o.2 (by rw[<-S.o];exact h.1);cases this));have Y:=f.o.cell 0;have Z:=f.o.cell 1;have k2:=f.o.cell 2;have f0:=f.o.free 0;have f1:=f.o.free 1;have f2:=f.o.free 2;simp[zeroFrac] at Y Z k2;go_wp2;refine bodyPost_ret (v:=.agg #[.bool false,.slice none 0 0,.slice none 0 0]) (results_cell_row rfl _ _ (w.heap.size) 141 #[.bool false,.slice none 0 0,.slice none 0 0] (0,0) _ rfl (((f.o.set 0 _).set 1 _).set 2 _) underlying141 rfl Tryz.fracInfo) rfl ?_;exact⟨0,X.o,⟨_,rfl,FracV.zero _⟩,((d.o.setCell lZ _).setCell lZ _).setCell lZ _⟩
 |true=>
  have r:O (IsDig c1.data.toList):=Hi (W.o.1 rfl);clear W;cases am with
  |false=>
   have X:=Hi (Qj8 x.o af.o S.o T.o U.o r.o (fun h=>by cases h));go_wp2_with fail;go_fit (ag.o _ r.o.2);rintro e w3 F;obtain⟨⟨a,n,c,rfl,k⟩,j⟩:=F.numV;have z:=Hi k;have l:=Hi (f.o.below j f.o.lt);have i:=Hi (d.o.trans (j.mono d.o.size));clear f d k j F;have f:=l;have d:=i;clear l i;go_wp2_with fail;go_fit (Qd5 neg a none n c 0 0 (decVal c1.data.toList) 1 _ z.o (.inl ⟨rfl,rfl,rfl,rfl⟩) (Nat.coprime_one_right _));rintro e w9 ⟨⟨v9,rfl,k⟩,j⟩;obtain⟨g,A,B,C,D,E,d9,rfl,k⟩:=k;have hs:=f.o.below j f.o.lt;have Y:=hs.cell 0;have Z:=hs.cell 1;have k2:=hs.cell 2;have f0:=hs.free 0;have f1:=hs.free 1;have f2:=hs.free 2;simp[zeroFrac] at Y Z k2;obtain⟨HV,u,aa⟩:=Ib k hs (d.o.trans (j.mono d.o.size));clear k hs j;go_wp2
   refine bodyPost_ret (v:=.agg #[.bool g,.slice A B C,.slice D E d9]) (results_cell_row rfl _ _ (w.heap.size) 141 #[.bool g,.slice A B C,.slice D E d9] (0,0) _ rfl (((u.o.set 0 _).set 1 _).set 2 _) underlying141 rfl Tryz.fracInfo) rfl ?_;have ho:=(((Only.refl (w.heap.size) w9).setCell 0 (.bool g)).setCell 1 (.slice A B C)).setCell 2 (.slice D E d9);exact⟨_,X.o,⟨_,rfl,g,A,B,C,D,E,d9,rfl,HV.o.only ho u.o Qbi⟩,Only.fresh aa.o ho (by omega)⟩
  |true=>
   go_wp2_with fail;go_fit (ap.o _);rintro e w3 ⟨⟨v2,rfl,hv2⟩,av⟩;subst av;have ab:=Hi hv2;clear hv2;cases v2 with
   |false=>
    have X:O (QOf s.data.toList 0):=Hi (Qgk x.o (fun h=>by have:=ab.o.2 (by rw[<-T.o];exact(h.2 U.o).1);cases this));have Y:=f.o.cell 0;have Z:=f.o.cell 1;have k2:=f.o.cell 2;have f0:=f.o.free 0;have f1:=f.o.free 1;have f2:=f.o.free 2;simp[zeroFrac] at Y Z k2;go_wp2;refine bodyPost_ret (v:=.agg #[.bool false,.slice none 0 0,.slice none 0 0]) (results_cell_row rfl _ _ (w.heap.size) 141 #[.bool false,.slice none 0 0,.slice none 0 0] (0,0) _ rfl (((f.o.set 0 _).set 1 _).set 2 _) underlying141 rfl Tryz.fracInfo) rfl ?_;exact⟨0,X.o,⟨_,rfl,FracV.zero _⟩,((d.o.setCell lZ _).setCell lZ _).setCell lZ _⟩
   |true=>
    have ad:O (IsDig c2.data.toList):=Hi (ab.o.1 rfl);clear ab;obtain⟨K0,ae⟩:=nm 1073741824;obtain⟨K,hK⟩:=nm (4*K0);have aw:O (decVal c1.data.toList<2 ^ K):=Hi (by rw[<-hK];exact Qeh r.o.2 (by rw[Qag,<-ae];exact M));have ax:O (decVal c2.data.toList<2 ^ K):=Hi (by rw[<-hK];exact Qeh ad.o.2 (by rw[Qag,<-ae];exact N));have ay:O (K+K<137438953000):=Hi (by omega);clear hK ae;have X:=Hi (Qj8 x.o af.o S.o T.o U.o r.o (fun _=>ad.o));go_wp2_with fail;go_fit (ag.o _ r.o.2);rintro e w3 F;obtain⟨⟨a,n,c,rfl,k⟩,j⟩:=F.numV;have z:=Hi k;have l:=Hi (f.o.below j f.o.lt);have i:=Hi (d.o.trans (j.mono d.o.size));clear f d k j F;have f:=l;have d:=i;clear l i;go_wp2_with fail;go_fit (aq.o _ ad.o.2);rintro e w4 F;obtain⟨⟨a2,n2,az,rfl,k⟩,j⟩:=F.numV;have ak:=Hi k
    have al:=Hi (z.o.below j);have l:=Hi (f.o.below j f.o.lt);have i:=Hi (d.o.trans (j.mono d.o.size));clear f d k j F z;have f:=l;have d:=i;clear l i;go_wp2_with fail;go_fit (Qo1 neg a a2 n c n2 az (decVal c1.data.toList) (decVal c2.data.toList) K K _ al.o ak.o aw.o ax.o ay.o);rintro e w9 ⟨⟨v9,rfl,k⟩,j⟩;obtain⟨g,A,B,C,D,E,d9,rfl,k⟩:=k;have hs:=f.o.below j f.o.lt;have Y:=hs.cell 0;have Z:=hs.cell 1;have k2:=hs.cell 2;have f0:=hs.free 0;have f1:=hs.free 1;have f2:=hs.free 2;simp[zeroFrac] at Y Z k2;obtain⟨HV,u,aa⟩:=Ib k hs (d.o.trans (j.mono d.o.size));clear k hs j;go_wp2
    refine bodyPost_ret (v:=.agg #[.bool g,.slice A B C,.slice D E d9]) (results_cell_row rfl _ _ (w.heap.size) 141 #[.bool g,.slice A B C,.slice D E d9] (0,0) _ rfl (((u.o.set 0 _).set 1 _).set 2 _) underlying141 rfl Tryz.fracInfo) rfl ?_;have ho:=(((Only.refl (w.heap.size) w9).setCell 0 (.bool g)).setCell 1 (.slice A B C)).setCell 2 (.slice D E d9);exact⟨_,X.o,⟨_,rfl,g,A,B,C,D,E,d9,rfl,HV.o.only ho u.o Qbi⟩,Only.fresh aa.o ho (by omega)⟩
end Go.Proofs.YtppkmifkpjkgpaaGreatDoor
namespace Go.Proofs
open Go.Shelf
def Tryz.lays169_ren:Go.Shelf.Ren:=⟨fun|169=>172|n=>n,fun|70=>211|9=>9|0=>0|72=>214|37=>212|127=>242|3=>3|5=>5|n=>n,fun|n=>n⟩
theorem Tryz.lays169:Go.Proofs.Lays.n169 Tryz.prog Tryz.lays169_ren:={
 mixed:=by kernel_rfl
 f169:=Tryz.func172.trans (congrArg some (by kernel_rfl))
 t0:=Tryz.underlying0
 a0:=Tryz.isAgg0
 z0:=Tryz.sizeOf0
 v0:=Tryz.zeroValue0
 t3:=Tryz.underlying3
 a3:=Tryz.isAgg3
 z3:=Tryz.sizeOf3
 v3:=Tryz.zeroValue3
 t9:=Tryz.underlying9
 a9:=Tryz.isAgg9
 z9:=Tryz.sizeOf9
 v9:=Tryz.zeroValue9
 t37:=Tryz.underlying212
 a37:=Tryz.isAgg212
 z37:=Tryz.sizeOf212
 v37:=Tryz.zeroValue212
 t70:=Tryz.underlying211
 a70:=Tryz.isAgg211
 z70:=Tryz.sizeOf211
 v70:=Tryz.zeroValue211
 t72:=Tryz.underlying214
 a72:=Tryz.isAgg214
 z72:=Tryz.sizeOf214
 v72:=Tryz.zeroValue214
 t127:=Tryz.underlying242
 a127:=Tryz.isAgg242
 z127:=Tryz.sizeOf242
 v127:=Tryz.zeroValue242 }
def Tryz.lays283_ren:Go.Shelf.Ren:=⟨fun|283=>235|n=>n,fun|3=>3|9=>9|4=>4|n=>n,fun|n=>n⟩
theorem Tryz.lays283:Go.Proofs.Lays.n283 Tryz.prog Tryz.lays283_ren:={
 mixed:=by kernel_rfl
 f283:=Tryz.func235.trans (congrArg some (by kernel_rfl))
 t3:=Tryz.underlying3
 a3:=Tryz.isAgg3
 z3:=Tryz.sizeOf3
 v3:=Tryz.zeroValue3
 t4:=Tryz.underlying4
 a4:=Tryz.isAgg4
 z4:=Tryz.sizeOf4
 v4:=Tryz.zeroValue4
 t9:=Tryz.underlying9
 a9:=Tryz.isAgg9
 z9:=Tryz.sizeOf9
 v9:=Tryz.zeroValue9 }
def Tryz.lays284_ren:Go.Shelf.Ren:=⟨fun|284=>236|129=>229|317=>240|318=>241|n=>n,fun|53=>170|3=>3|212=>276|0=>0|4=>4|46=>202|5=>5|9=>9|n=>n,fun|17=>9|n=>n⟩
theorem Tryz.lays284:Go.Proofs.LaysM.n284 Tryz.prog Tryz.lays284_ren:={
 mixed:=by kernel_rfl
 f129:=Tryz.func229.trans (congrArg some (by kernel_rfl))
 f284:=Tryz.func236.trans (congrArg some (by kernel_rfl))
 f317:=Tryz.func240.trans (congrArg some (by kernel_rfl))
 f318:=Tryz.func241.trans (congrArg some (by kernel_rfl))
 t0:=Tryz.underlying0
 a0:=Tryz.isAgg0
 z0:=Tryz.sizeOf0
 v0:=Tryz.zeroValue0
 t3:=Tryz.underlying3
 a3:=Tryz.isAgg3
 z3:=Tryz.sizeOf3
 v3:=Tryz.zeroValue3
 t4:=Tryz.underlying4
 a4:=Tryz.isAgg4
 z4:=Tryz.sizeOf4
 v4:=Tryz.zeroValue4
 t5:=Tryz.underlying5
 a5:=Tryz.isAgg5
 z5:=Tryz.sizeOf5
 v5:=Tryz.zeroValue5
 t9:=Tryz.underlying9
 a9:=Tryz.isAgg9
 z9:=Tryz.sizeOf9
 v9:=Tryz.zeroValue9
 t46:=Tryz.underlying202
 a46:=Tryz.isAgg202
 z46:=Tryz.sizeOf202
 v46:=Tryz.zeroValue202
 t53:=Tryz.underlying170
 a53:=Tryz.isAgg170
 z53:=Tryz.sizeOf170
 v53:=Tryz.zeroValue170
 t212:=Tryz.underlying276
 a212:=Tryz.isAgg276
 z212:=Tryz.sizeOf276
 v212:=Tryz.zeroValue276
 g17:=by kernel_rfl
 i0:=by kernel_rfl
 i3:=by kernel_rfl
 i4:=by kernel_rfl
 i5:=by kernel_rfl
 i9:=by kernel_rfl
 i46:=by kernel_rfl
 i53:=by kernel_rfl
 i212:=by kernel_rfl
 m17:=by kernel_rfl }
def Tryz.lays285_ren:Go.Shelf.Ren:=⟨fun|285=>237|n=>n,fun|37=>212|53=>170|3=>3|4=>4|51=>201|9=>9|5=>5|0=>0|n=>n,fun|n=>n⟩
theorem Tryz.lays285:Go.Proofs.Lays.n285 Tryz.prog Tryz.lays285_ren:={
 mixed:=by kernel_rfl
 f285:=Tryz.func237.trans (congrArg some (by kernel_rfl))
 t0:=Tryz.underlying0
 a0:=Tryz.isAgg0
 z0:=Tryz.sizeOf0
 v0:=Tryz.zeroValue0
 t3:=Tryz.underlying3
 a3:=Tryz.isAgg3
 z3:=Tryz.sizeOf3
 v3:=Tryz.zeroValue3
 t4:=Tryz.underlying4
 a4:=Tryz.isAgg4
 z4:=Tryz.sizeOf4
 v4:=Tryz.zeroValue4
 t5:=Tryz.underlying5
 a5:=Tryz.isAgg5
 z5:=Tryz.sizeOf5
 v5:=Tryz.zeroValue5
 t9:=Tryz.underlying9
 a9:=Tryz.isAgg9
 z9:=Tryz.sizeOf9
 v9:=Tryz.zeroValue9
 t37:=Tryz.underlying212
 a37:=Tryz.isAgg212
 z37:=Tryz.sizeOf212
 v37:=Tryz.zeroValue212
 t51:=Tryz.underlying201
 a51:=Tryz.isAgg201
 z51:=Tryz.sizeOf201
 v51:=Tryz.zeroValue201
 t53:=Tryz.underlying170
 a53:=Tryz.isAgg170
 z53:=Tryz.sizeOf170
 v53:=Tryz.zeroValue170 }
end Go.Proofs
namespace Go.Proofs.YtppkmifkpjkgpaaGreatDoor
open Go.RowKit
open Go.Proofs.Tryz
set_option linter.unusedSimpArgs false
set_option linter.unusedVariables false
set_option maxHeartbeats 8000000
set_option maxRecDepth 1000000
section
open Go.RowKit Go.Sort Go.Lib
def Tab(w:Vz):Prop:=Lib.TabIs prog w "internal/strconv.uint64pow10" .u64 Lib.pow10Tab
theorem Tab.below{w w':Vz}(h:Tab w)(c:Bl w w'):Tab w':=by
 unfold Tab Lib.TabIs World.var? at*;cases hg:prog.globalNamed "internal/strconv.uint64pow10" with
 |none=>simp[hg] at h
 |some g=>
  simp only[hg,Option.bind_some] at h ⊢;have a:g<w.heap.size:=by
   rcases Nat.lt_or_ge g w.heap.size with b|b
   . exact b
   . simp[Array.getElem?_eq_none b] at h
  rw[c.block g a];exact h
theorem Qxh(i:Nat)(h:i<100)(w:Vz):Calls prog 235 #[.int .i64 i] w fun e w'=>e=.returned (.string ⟨(Lib.decDigits i).toArray⟩)/\w'=w:=Any.internal_strconv_small Tryz.lays283 i h w
theorem Qxi(u:Nat)(a:1<=u)(b:u<18446744073709551616)(w:Vz)(c:Tab w):Calls prog 236 #[.int .u64 u] w fun e w'=>e=.returned (.int .i64 (Lib.nDigits u))/\w'=w:=Any.internal_strconv_numDigits Tryz.lays284 u a b w c
theorem Qxj(a c cap:Nat)(u:Nat)(d:Array UInt8)(w:Vz)(i:Go.Sort.Holds (fun (b:UInt8)=>Value.int .u8 (b.toNat:Int)) w a c d)(j:u<10 ^ d.size)(f:u<18446744073709551616)(g:d.size<4611686018427387904):
 Calls prog 237 #[.slice (some ⟨a,c,none⟩) d.size cap,.int .u64 u] w fun e w'=>
  e=.returned (.tuple #[])/\∃(n k:Nat) (h:Array UInt8),w'=(putRow (fun (b:UInt8)=>Value.int .u8 (b.toNat:Int)) w a c h).drewN n/\FmtInv d.size u 0 k h:=Any.internal_strconv_formatBase10 Tryz.lays285 a c cap u d w i j f g
theorem Qxk(w:Vz)(T:Vr)(a:Nat)(hs:a<=24):Go.Sort.Holds (fun (b:UInt8)=>Value.int .u8 (b.toNat:Int)) (w.alloc (.cells zeros24 T)) w.heap.size 0 (Array.replicate a (0:UInt8)):=fun j c=>by
 have d:j<a:=by simpa using c
 refine⟨?_,World.frozen?_alloc_new _ _ _ _⟩;rw[World.cell?_alloc_new,zeros24_at _ (by omega),getElem!_pos _ j c];simp
theorem Qxl(w:Vz)(o:Obj)(c:Array UInt8)(k:Nat):Bl w ((putRow (fun (b:UInt8)=>Value.int .u8 (b.toNat:Int)) (w.alloc o) w.heap.size 0 c).drewN k):=by
 rw[alloc_eq_grow];obtain⟨a,_,e⟩:=putRow_grow_new (fun (b:UInt8)=>Value.int .u8 (b.toNat:Int)) w #[o] w.heap.size 0 c lZ;rw[e];exact below_grow w.heap.size w lZ k a
theorem Qxm(u:Nat)(a:u<18446744073709551616)(w:Vz)(v:Tab w):
 Calls prog 233 #[.int .u64 u,.int .i64 10] w fun e w'=>e=.returned (.string ⟨(Lib.decDigits u).toArray⟩)/\Below w.heap.size w w':=by
 by_cases hs:u<100
 .
  have E:=Hi (Qxh u hs w);clear v;go_enter func233,ntmps233;go_wp2_with fail;go_fit E.o;rintro e G ⟨rfl,x⟩;subst x;clear E;go_wp2;go_ret;exact⟨rfl,Below.refl _ _⟩
 .
  have i:Lib.nDigits u<=20:=by have:=Lib.numDigits_eq u (by omega) a;split at this<;>omega
  obtain⟨p,c,d,f⟩:=Ic (Lib.lt_pow_nDigits u) (Lib.decDigits_length u) (Qxi u (by omega) a (w.alloc (.cells zeros24 269)) (Tab.below v (bR.alloc lZ _))) (Qxk w 269 (Lib.nDigits u) (by omega));have q:=Hi (Qxj w.heap.size 0 24 u (Array.replicate (Lib.nDigits u) 0) (w.alloc (.cells zeros24 269)) f.o (by rw[Array.size_replicate];exact p.o) a (by rw[Array.size_replicate];omega));rw[Array.size_replicate] at q;obtain⟨N,y⟩:=nm (Lib.nDigits u);have H:∀W,(Instr.sliceAt 269 (.pointer (some ⟨w.heap.size,0,none⟩)) none (some (.int .i64 (N:Int))) none).run prog W=.ok (.slice (some ⟨w.heap.size,0,none⟩) N 24) W:=fun W=>by
   have z:prog.arrayLen 269=24:=by simp[Program.arrayLen,underlying269]
   rw[run_sliceAt_array_h W 269 ⟨w.heap.size,0,none⟩ (by simp[Program.arrayLen,Program.elem,underlying269]) .i64 (N:Int) (by omega) (by rw[z];omega)];go_simp
  rw[y] at p c d f q i;have J:¬((u:Int)<100):=by omega
  obtain⟨K,l⟩:=nm (w.alloc (.cells zeros24 269));obtain⟨A,r⟩:=Ia l (fun s k=>Qxl w (.cells zeros24 269) s k);rw[l] at d f q r;have B:=Hi y;have F:N<=24:=by omega
  clear v hs l y;go_enter func233,ntmps233;go_wp2_with fail;have m:=A.o;unfold zeros24 at m;rw[m];clear m;go_fit d.o;rintro e G ⟨rfl,x⟩;subst x;clear d;go_wp2_with fail;go_fit q.o;rintro e C ⟨rfl,k,L,s,n,t⟩;have g:=Hi (r.o s k);rw[<-n] at g;have I:(convert 212 9 (.slice (some ⟨w.heap.size,0,none⟩) N 24)).run prog C=.ok (.string ⟨(Lib.decDigits u).toArray⟩) C:=by
   have h:=run_convert_bytes_back (P:=prog) C 212 9 5 ⟨w.heap.size,0,none⟩ 24 (Lib.decDigits u) underlying212 underlying5 underlying9 (fun j D=>by
    rw[c.o] at D;rw[Lib.row_is_numeral (by rw[B.o];exact t) j (by rw[c.o];exact D),Lib.add_plain,n,World.cell?_drewN]
    exact cell?_putRow (fun (b:UInt8)=>Value.int .u8 (b.toNat:Int)) _ w.heap.size 0 _ s f.o (by rw[t.size,Array.size_replicate]) j (by rw[t.size];exact D))
   rw[c.o] at h;exact h
  clear n t q;go_wp2;go_ret;exact⟨rfl,g.o⟩
theorem Qxn(u:Nat)(a:u<18446744073709551616)(w:Vz)(b:Tab w):
 Calls prog 222 #[.int .u64 u,.int .i64 10] w fun e w'=>e=.returned (.string ⟨(Lib.decDigits u).toArray⟩)/\Below w.heap.size w w':=by
 have c:=Hi (Qxm u a w b);clear b;go_enter func222,ntmps222;go_wp2_with fail;go_fit c.o;rintro e g ⟨rfl,d⟩;have f:=Hi d;clear c d;go_wp2;go_ret;exact⟨rfl,f.o⟩
end
theorem Tryz.extra:Builder.Extra prog Tryz.lays169_ren where
 sizeBuilder:=by kernel_rfl
 liesBuilder:=by kernel_rfl
 t5:=underlying5
 a5:=Tryz.isAgg5
 z5:=Tryz.sizeOf5
 v5:=Tryz.zeroValue5
 infoByte:=by kernel_rfl
 cellsByte:=by kernel_rfl
 sizeByte:=by kernel_rfl
 neB5:=by decide
theorem Tryz.bdSize:(prog.info? 214).map (·.size)=some 2:=by kernel_rfl
theorem Tryz.bdLies:liesAt prog prog.depth 214 (2 / prog.cellsOf 214) 0 214 1=true:=by kernel_rfl
abbrev Bd(B b:Nat)(bs:Vv)(w:Vz):Prop:=Lib.IsBuilder 214 5 B b bs w
abbrev BdAt(B b:Nat)(bs:Vv)(w:Vz):Prop:=Lib.BuilderAt 214 5 B b (.pointer (some ⟨b,0,none⟩)) bs w
theorem Qwz(B b:Nat)(l:Vu)(w:Vz)(h:Bd B b (Lib.byteCells l) w)(a:B<=w.heap.size):
 Calls prog 172 #[.pointer (some ⟨b,0,none⟩)] w fun e w'=>e=.returned (.string ⟨l.toArray⟩)/\Below B w w':=Any.Builder_String_any Tryz.lays169 Tryz.extra B b l w h a
theorem Qw0(b:Nat)(w:Vz)(d:w.cell? ⟨b,0,none⟩=some (.pointer (some ⟨b,0,none⟩))):
 Calls prog 234 #[.pointer (some ⟨b,0,none⟩)] w fun e w'=>e=.returned (.tuple #[])/\w'=w:=by
 obtain⟨j,a,_⟩:=Option.map_eq_some_iff.1 Tryz.bdSize;have c:∀w,(binOp .neq 211 (.pointer (some ⟨b,0,none⟩)) (.pointer (some ⟨b,0,none⟩))).run prog w=.ok (.bool false) w:=fun w=>Lib.run_neq_ptr_same w ⟨b,0,none⟩ underlying211 a
 go_enter func234,ntmps234;go_wp2;go_end0;exact⟨rfl,rfl⟩
theorem Qw1(b:Nat)(w:Vz)(h:w.cell? ⟨b,0,none⟩=some (.pointer none))(a:w.shape? b=some (214,2))(f:w.frozen? ⟨b,0,none⟩=false):
 Calls prog 234 #[.pointer (some ⟨b,0,none⟩)] w fun e w'=>e=.returned (.tuple #[])/\w'=w.setCell ⟨b,0,none⟩ (.pointer (some ⟨b,0,none⟩)):=by
 obtain⟨j,d,c⟩:=Option.map_eq_some_iff.1 Tryz.bdSize;have i:(convert 211 273 (.pointer (some ⟨b,0,none⟩))).run prog w=.ok (.pointer (some ⟨b,0,none⟩)) w:=Lib.run_to_unsafe w ⟨b,0,none⟩ underlying211 underlying273 d (by rw[c];decide) a (Nat.zero_lt_succ 1);have g:(callFunc 239 #[.pointer (some ⟨b,0,none⟩)]).run prog w=.ok (.value (.pointer (some ⟨b,0,none⟩))) w:=by
  rw[run_callFunc_extern func239 (by kernel_rfl) (by kernel_rfl) (by kernel_rfl) (e:=Extern.AbiNoEscape.same) (by kernel_rfl),Lib.run_noEscape];rfl
 have k:(convert 273 211 (.pointer (some ⟨b,0,none⟩))).run prog w=.ok (.pointer (some ⟨b,0,none⟩)) w:=Lib.run_from_unsafe w ⟨b,0,none⟩ underlying273 underlying211 d a Tryz.bdLies;clear d c a;go_enter func234,ntmps234;go_wp2_with simp only[g];go_end0;exact⟨rfl,rfl⟩
def bufOf(w:Vz)(b:Nat):Option Nat:=(w.cell? ⟨b,1,none⟩).bind Value.ownBlock
structure Wr (b:Nat) (w w':Vz):Prop where
 size:w.heap.size<=w'.heap.size
 block:∀k,k<w.heap.size->k≠b->bufOf w b≠some k->w'.heap[k]?=w.heap[k]?
 buf:bufOf w' b=bufOf w b∨∃g,w.heap.size<=g/\bufOf w' b=some g
theorem Wr.refl(b:Nat)(w:Vz):Wr b w w:=⟨Nat.le_refl _,fun _ _ _ _=>rfl,.inl rfl⟩
theorem Wr.keep{b:Nat}{w w':Vz}(h:Wr b w w'){k:Nat}(hk:k<w.heap.size)(d:bufOf w b≠some k):bufOf w' b≠some k:=by
 rcases h.buf with a|⟨g,e,a⟩
 . rw[a];exact d
 . rw[a];intro c;injection c with c;omega
theorem Wr.trans{b:Nat}{u v w:Vz}(h:Wr b u v)(k:Wr b v w):Wr b u w:=by
 refine⟨Nat.le_trans h.size k.size,fun i c d e=>?_,?_⟩
 . rw[k.block i (by have:=h.size;omega) d (h.keep c e)]
   exact h.block i c d e
 .
  rcases k.buf with a|⟨g,f,a⟩
  . rw[a];exact h.buf
  . exact .inr ⟨g,by have:=h.size;omega,a⟩
theorem Wr.below{b:Nat}{w w':Vz}(a:b<w.heap.size)(h:Bl w w'):Wr b w w':=
 ⟨h.size,fun k hk _ _=>h.block k hk,.inl (by unfold bufOf;rw[h.cell (p:=⟨b,1,none⟩) a])⟩
theorem BdAt.lt'{B b:Nat}{a:Vv}{w:Vz}(h:Bd B b a w):b<w.heap.size:=by rcases h with h|h<;>exact h.lt
theorem Ql2{b:Nat}{w f c:Vz}{p v d:Value}(g:w.heap[b]?=some (.cells #[p,v] 214 (0,0)))(a:Bl w f)(i:f.grownBy c v.ownBlock)(j:d.ownBlock=v.ownBlock∨d.ownBlock=some f.heap.size)(l:v.ownBlock≠some b):Wr b w (c.setCell ⟨b,1,none⟩ d):=by
 have q:b<w.heap.size:=by
  rcases Nat.lt_or_ge b w.heap.size with m|m
  . exact m
  . simp[Array.getElem?_eq_none m] at g
 have o:bufOf w b=v.ownBlock:=by unfold bufOf;rw[Lib.cell_of_heap g];rfl
 have r:f.heap[b]?=some (.cells #[p,v] 214 (0,0)):=by rw[a.block b q];exact g
 have s:c.heap[b]?=some (.cells #[p,v] 214 (0,0)):=by rw[i.block b (by have:=a.size;omega) (fun e=>l e.symm)];exact r
 have t:bufOf (c.setCell ⟨b,1,none⟩ d) b=d.ownBlock:=by
  unfold bufOf;rw[World.cell?_setCell_same _ _ _ (show c.cell? ⟨b,1,none⟩=some v by rw[Lib.cell_of_heap s];rfl)];rfl
 refine⟨?_,fun k hk n u=>?_,?_⟩
 .
  have x:=a.size;have y:=i.size;simp[World.setCell];omega
 . rw[Below.heap_setCell _ _ _ _ n,i.block k (by have:=a.size;omega) (fun e=>u (by rw[o];exact e.symm)),a.block k hk]
 .
  rw[t,o];rcases j with h|h
  . exact .inl h
  . exact .inr ⟨_,a.size,h⟩
def U8In(C:Vw):Prop:=∀(i:Nat) u,C[i]?=some u->∃n,u=Value.int .u8 n
def U8Blk(w:Vz)(v:Value):Prop:=∀g,v.ownBlock=some g->∃C t f,w.heap[g]?=some (.cells C t f)/\U8In C
theorem U8In.append{C D:Vw}(h:U8In C)(k:U8In D):U8In (C++D):=fun i u a=>by
 rw[Array.getElem?_append] at a
 split at a
 . exact h _ _ a
 . exact k _ _ a
theorem U8In.zeros(n:Nat):U8In (Builtin.zeroCells (Value.int .u8 0).cells n):=fun i u b=>by
 have a:=Array.mem_of_getElem? b;simp[Builtin.zeroCells,Value.cells] at a;obtain⟨j,c,e⟩:=a;rw[Nat.mod_one] at e;exact⟨0,e.symm⟩
theorem U8In.list{l:Vv}(h:∀u,u∈ l->∃n,u=Value.int .u8 n):U8In l.toArray:=fun i u a=>h u (by rw[List.getElem?_toArray] at a;exact mO a)
theorem U8In.mem{C:Vw}(h:U8In C){u:Value}(b:u∈ C.toList):∃n,u=Value.int .u8 n:=by
 obtain⟨i,a⟩:=List.mem_iff_getElem?.1 b;exact h i u (by rw[Array.getElem?_toList] at a;exact a)
theorem Ql3(s:Vs):∀u,u∈ Lib.strCells s->∃n,u=Value.int .u8 n:=fun u a=>by
 unfold Lib.strCells at a;obtain⟨c,_,rfl⟩:=List.mem_map.1 a;exact⟨_,rfl⟩
theorem U8Blk.new(w:Vz)(C:Vw)(t:Vr)(n cap:Nat)(h:U8In C):U8Blk (w.drew.alloc (.cells C t)) (.slice (some ⟨w.heap.size,0,none⟩) n cap):=fun g a=>by
 have e:w.heap.size=g:=by simpa [Value.ownBlock] using a
 subst e;exact⟨C,t,_,heap_alloc_new w.drew _,h⟩
theorem U8Blk.row{w:Vz}{g n cap n' cap':Nat}{a news:Vw}{t:Vr}{f:Nat × Nat}(c:w.heap[g]?=some (.cells a t f))(h:U8In news):U8Blk (w.setRow g news) (.slice (some ⟨g,0,none⟩) n cap):=fun d b=>by
 have e:g=d:=by simpa [Value.ownBlock] using b
 subst e;exact⟨news,t,f,setRow_heap w g a _ t _ c,h⟩
theorem Qxo{w:Vz}{r:Nat}{v F:Value}{n m y:Nat}{xs news:Vv}{a:Addr}{w':Vz}{ty:Vr}{i:TypeInfo}(z:prog.info? 5=some i)(G:i.zero=some (.int .u8 0))(e:i.size=1)(s:i.bytes=1)(d:w.ownsRow r 5 1 v n xs)(c:U8Blk w v)
 (hl:news.length=m) (b:∀j u,news[j]?=some u->w.cell? (a.add j)=some u) (H:∀u∈ news,u.oneCell'=true) (A:∀u,u∈ news->∃n,u=Value.int .u8 n) (I:0<m) (J:n+m<=140737488355328)
 (q:(Builtin.append_ #[212,212] ty #[v,.slice (some a) m y]).run prog w=.ok F w'):U8Blk w' F:=by
 have B:xs.length=n:=by simpa using d.1
 have f:=d;have h:news.length=m*i.size:=by rw[e,Nat.mul_one];exact hl
 rcases d.2 with ⟨rfl,rfl⟩|⟨g,cap,D,rfl,K,E,L,M,N,k⟩
 .
  rw[run_append_nil (P:=prog) w 212 ty 5 i (.int .u8 0) underlying212 z G a m y news h b I (by omega) (by rw[s];omega)] at q;injection q with t x
  rw[<-t,<-x];exact U8Blk.new _ _ _ _ _ ((U8In.list A).append (U8In.zeros _))
 .
  obtain⟨C,O,Q,hC,l⟩:=c g rfl;rw[E] at hC;injection hC with hC
  injection hC with hC _ _
  subst hC;by_cases o:n+m<=cap
  .
   rw[run_append_room (P:=prog) w 212 ty 5 i underlying212 z g n cap D E a m y news h b H o (by rw[e];omega)] at q;injection q with t x
   rw[<-t,<-x];refine U8Blk.row (n':=0) (cap':=0) E (U8In.list fun u c=>?_);simp only[List.mem_append] at c;rcases c with (c|c)|c
   . exact l.mem (List.mem_of_mem_take c)
   . exact A u c
   . exact l.mem (List.mem_of_mem_drop c)
  .
   have p:=f.cells (g:=g) rfl;rw[run_append_grow (P:=prog) w 212 ty 5 i (.int .u8 0) underlying212 z G ⟨g,0,none⟩ n cap xs (by rw[e];simpa using B) p a m y news h b (by omega) (by omega) (by rw[s];exact growslice_fits (by omega) (by omega))] at q;injection q with t x
   rw[<-t,<-x];refine U8Blk.new _ _ _ _ _ (((U8In.list fun u c=>?_).append (U8In.list A)).append (U8In.zeros _));rw[<-k] at c;exact l.mem (List.mem_of_mem_take c)
structure Bd8 (B b:Nat) (l:Vu) (w:Vz):Prop where
 bd:Bd B b (Lib.byteCells l) w
 u8:∀v,w.cell? ⟨b,1,none⟩=some v->U8Blk w v
theorem U8Blk.below{w w':Vz}{v:Value}(h:U8Blk w v)(b:∀g,v.ownBlock=some g->w'.heap[g]?=w.heap[g]?):U8Blk w' v:=fun g a=>by
 obtain⟨C,t,f,c,d⟩:=h g a;exact⟨C,t,f,by rw[b g a];exact c,d⟩
theorem Ql4(B b:Nat)(d:Vv)(w:Vz)(h:Bd B b d w)(f:∀v,w.cell? ⟨b,1,none⟩=some v->U8Blk w v):
 Calls prog 234 #[.pointer (some ⟨b,0,none⟩)] w fun e w'=>e=.returned (.tuple #[])/\BdAt B b d w'/\Below B w w'/\Wr b w w'/\(∀v,w'.cell? ⟨b,1,none⟩=some v->U8Blk w' v):=by
 rcases h with h|h
 .
  refine(Qw1 b w h.cell0 h.shape h.frozen0).mono ?_;rintro e w' ⟨rfl,rfl⟩;have i:(w.setCell ⟨b,0,none⟩ (.pointer (some ⟨b,0,none⟩))).cell? ⟨b,1,none⟩=w.cell? ⟨b,1,none⟩:=World.cell?_setCell_other _ _ _ _ (by simp);refine⟨rfl,h.used _,(Below.refl B w).setCell (p:=⟨b,0,none⟩) h.1 _,⟨by simp[World.setCell],fun k hk j _=>Below.heap_setCell _ _ _ _ j,.inl ?_⟩,fun v a=>?_⟩
  . unfold bufOf
    rw[i]
  .
   rw[i] at a;obtain⟨_,u,l,_,c⟩:=h;have:v=u:=by rw[Lib.cell_of_heap l] at a;simpa using a.symm
   subst this;exact(f v a).below fun g m=>Below.heap_setCell _ _ _ _ (fun e=>c (by rw[m,e]))
 .
  refine(Qw0 b w h.cell0).mono ?_;rintro e w' ⟨rfl,rfl⟩;exact⟨rfl,h,Below.refl B _,Wr.refl _ _,f⟩
theorem Qdp{P:Program}(w:Vz){b:Array Oper}{rest:List Oper}{o:Oper}{a:Act}{Q:Exit->Act->World->Prop}(c:o.guard=none)(d x:Operand)(t u:Vr)
 (f:o.op=.call { callee:=.builtin .append,args:=#[d,x],argTypes:=#[t,u] }) (v y e:Value) (w':Vz) (hs:a.eval d=v) (g:a.eval x=y)
 (i:(Builtin.append_ #[t,u] o.type #[v,y]).run P w=.ok e w') (h:wpList P b Q rest (a.put o.dst e) w'):wpList P b Q (o :: rest) a w:=by
 refine wpList_plain c fun K j=>?_
 unfold Oper.wp execOp;simp only[f,resolve,invoke,builtin,Sem.run_bind,Sem.run_pure,Result.andThen_ok,List.map_toArray,List.map_cons,List.map_nil,hs,g,i];exact j _ _ h
def Wrote(B b:Nat)(l:Vu)(r:Value)(w:Vz)(e:Ending)(w':Vz):Prop:=e=.returned r/\Bd8 B b l w'/\Below B w w'/\Wr b w w'
theorem Ql5{a:Vz}{b:Nat}{p v c:Value}(f:a.heap[b]?=some (.cells #[p,v] 214 (0,0)))(h:U8Blk a c)(i:c.ownBlock≠some b):∀u,(a.setCell ⟨b,1,none⟩ c).cell? ⟨b,1,none⟩=some u->U8Blk (a.setCell ⟨b,1,none⟩ c) u:=fun u d=>by
 rw[World.cell?_setCell_same _ _ _ (show a.cell? ⟨b,1,none⟩=some v by rw[Lib.cell_of_heap f];rfl)] at d;injection d with d
 subst d;exact h.below fun g j=>Below.heap_setCell _ _ _ _ (fun e=>i (by rw[j,e]))
theorem Qxp(B b:Nat)(l:Vu)(c:UInt8)(w:Vz)(h:Bd8 B b l w)(V:l.length+1<=140737488355328)(aa:B<=w.heap.size):
 Calls prog 223 #[.pointer (some ⟨b,0,none⟩),.int .u8 (c.toNat:Int)] w (Wrote B b (l++ [c]) .nilIface w):=by
 obtain⟨i0,K,y,z,hz2⟩:=info_parts Tryz.info8;have W:=Hi (Ql4 B b (Lib.byteCells l) w h.bd h.u8);have ab:=Lib.byteCells_length l;clear h;go_enter func223,ntmps223;go_wp2_with fail;go_fit W.o;rintro e n ⟨rfl,⟨hB,v,r,i,A⟩,C,E,X⟩;clear W;have c1:n.cell? ⟨b,1,none⟩=some v:=by rw[Lib.cell_of_heap r];rfl
 have F:=X v c1;have L:b<n.heap.size:=by
  rcases Nat.lt_or_ge b n.heap.size with M|M
  . exact M
  . simp[Array.getElem?_eq_none M] at r
 have ad:=C.size;have t:Bl n (n.alloc (.cells #[.int .u8 (c.toNat:Int)] 5)):=bR.alloc lZ _;have f:=Qbl i t;have D:∀j u,[Value.int .u8 (c.toNat:Int)][j]?=some u->(n.alloc (.cells #[.int .u8 (c.toNat:Int)] 5)).cell? ((⟨n.heap.size,0,none⟩:Addr).add j)=some u:=World.news_of_block (heap_alloc_new n _);have s:∀u∈ [Value.int .u8 (c.toNat:Int)],u.oneCell'=true:=fun u N=>by rw[List.mem_singleton.1 N];rfl
 obtain⟨v',Y,O,a,d,_,G⟩:=run_append_own_at (P:=prog) (n.alloc (.cells #[.int .u8 (c.toNat:Int)] 5)) B 212 212 5 i0 (.int .u8 0) 1 1 underlying212 K y z hz2 rfl (by decide) v _ _ f ⟨n.heap.size,0,none⟩ 1 1 [.int .u8 (c.toNat:Int)] rfl D s (by unfold maxLen;omega) (by omega) (by rw[World.size_alloc];omega);have x:=F.below fun g hg=>t.block g ((i.lt g hg).2)
 have H:=Qxo (m:=1) K y z hz2 f x rfl D s (fun u N=>⟨_,List.mem_singleton.1 N⟩) (by decide) (by omega) O;have q:Y.heap[b]?=some (.cells #[.pointer (some ⟨b,0,none⟩),v] 214 (0,0)):=by
  rw[d.block b (by simp;omega) (fun e=>A e.symm),Lib.alloc_old n _ b L];exact r
 obtain⟨Q,n',cap,rfl⟩:∃Q n' cap,v'=.slice Q n' cap:=by
  rcases a.2 with ⟨R,_⟩|⟨g,cap,ae,R,_⟩
  . exact⟨_,_,_,R⟩
  . exact⟨_,_,_,R⟩
 have d1:Y.cell? ⟨b,1,none⟩=some v:=by rw[Lib.cell_of_heap q];rfl
 have f1:=Lib.frozen_of_heap q 1;obtain⟨I,S,J,U,Z⟩:=Id (Lib.BuilderAt.put (T:=214) (e:=5) hB q (bs':=Lib.byteCells (l++ [c])) (by simpa [Lib.byteCells] using a) (by decide)) (Ql5 q H (Lib.ownBlock_ne a q (by decide))) (((C.alloc (by omega) (.cells #[.int .u8 (c.toNat:Int)] 5)).grown d (by simp;omega) (fun k hk=>(i.lt k hk).1)).setCell (p:=⟨b,1,none⟩) hB (.slice Q n' cap)) (E.trans (Ql2 r t d G A)) O;clear r i A C E q a d G K y z hz2 O H x s D f t F X;go_wp2_with (at_builtin;refine Qdp _ rfl _ _ 212 212 rfl v (.slice (some ⟨n.heap.size,0,none⟩) 1 1) _ _ rfl rfl Z.o ?_);clear Z;go_wp2;go_ret;exact⟨rfl,⟨.inr I.o,S.o⟩,J.o,U.o⟩
theorem Qxq{w:Vz}{l:Nat}{v r:Value}{n:Nat}{xs:Vv}{s:Vs}{w':Vz}{ty:Vr}{i:TypeInfo}(t:prog.info? 5=some i)(B:i.zero=some (.int .u8 0))(m:i.size=1)(o:i.bytes=1)(b:w.ownsRow l 5 1 v n xs)(a:U8Blk w v)(D:0<s.size)(E:n+s.size<=140737488355328)
 (k:(Builtin.append_ #[212,9] ty #[v,.string s]).run prog w=.ok r w'):(r.ownBlock=v.ownBlock∨r.ownBlock=some w.heap.size)/\U8Blk w' r:=by
 have y:xs.length=n:=by simpa using b.1
 have c:=b;rcases b.2 with ⟨rfl,rfl⟩|⟨g,cap,z,rfl,F,A,G,H,I,d⟩
 .
  rw[run_append_nil_string (P:=prog) w 212 9 ty 5 i (.int .u8 0) underlying212 underlying9 t B s D (by omega) (by rw[o];omega)] at k;injection k with p q
  rw[<-p,<-q];refine⟨.inr rfl,U8Blk.new _ _ _ _ _ (U8In.append ?_ (U8In.zeros _))⟩;intro j u a;rw[Array.getElem?_map] at a;obtain⟨x,_,rfl⟩:=Option.map_eq_some_iff.1 a;exact⟨_,rfl⟩
 .
  obtain⟨C,J,K,hC,e⟩:=a g rfl;rw[A] at hC;injection hC with hC
  injection hC with hC _ _
  subst hC;by_cases f:n+s.size<=cap
  .
   rw[Lib.run_append_room_string (P:=prog) w 212 9 ty 5 i underlying212 underlying9 t m g n cap z A s f (by omega)] at k;injection k with p q
   rw[<-p,<-q];refine⟨.inl rfl,U8Blk.row (n':=0) (cap':=0) A (U8In.list fun u a=>?_)⟩;simp only[List.mem_append] at a;rcases a with (a|a)|a
   . exact e.mem (List.mem_of_mem_take a)
   . exact Ql3 s u a
   . exact e.mem (List.mem_of_mem_drop a)
  .
   have h:=c.cells (g:=g) rfl;rw[Lib.run_append_grow_string (P:=prog) w 212 9 ty 5 i (.int .u8 0) underlying212 underlying9 t B ⟨g,0,none⟩ n cap xs (by rw[m];simpa using y) h s (by omega) (by omega) (by rw[o];exact growslice_fits (by omega) (by omega))] at k;injection k with p q
   rw[<-p,<-q];refine⟨.inr rfl,U8Blk.new _ _ _ _ _ (((U8In.list fun u a=>?_).append (U8In.list (Ql3 s))).append (U8In.zeros _))⟩;rw[<-d] at a;exact e.mem (List.mem_of_mem_take a)
theorem Ql6(B b:Nat)(l:Vu)(s:Vs)(w:Vz)(h:Bd8 B b l w)(Q:0<s.size)(K:l.length+s.size<=140737488355328)(R:B<=w.heap.size):
 Calls prog 224 #[.pointer (some ⟨b,0,none⟩),.string s] w (Wrote B b (l++s.data.toList) (.tuple #[.int .i64 s.size,.nilIface]) w):=by
 obtain⟨S,C,j,m,hz2⟩:=info_parts Tryz.info8;have L:=Hi (Ql4 B b (Lib.byteCells l) w h.bd h.u8);have U:=Lib.byteCells_length l;clear h;go_enter func224,ntmps224;go_wp2_with fail;go_fit L.o;rintro e A ⟨rfl,⟨hB,v,i,d,n⟩,q,r,M⟩;clear L;have c1:A.cell? ⟨b,1,none⟩=some v:=by rw[Lib.cell_of_heap i];rfl
 have V:=q.size;obtain⟨W,N,D,a,c,_⟩:=Lib.run_append_own_string (P:=prog) A B 212 9 212 5 S underlying212 underlying9 C j m hz2 v _ _ d s (by unfold maxLen;omega) (by omega) (by omega);obtain⟨t,u⟩:=Qxq C j m hz2 d (M v c1) Q (by omega) D;have E:b<A.heap.size:=by
  rcases Nat.lt_or_ge b A.heap.size with F|F
  . exact F
  . simp[Array.getElem?_eq_none F] at i
 have f:N.heap[b]?=some (.cells #[.pointer (some ⟨b,0,none⟩),v] 214 (0,0)):=by
  rw[c.block b E (fun e=>n e.symm)];exact i
 obtain⟨G,n',cap,rfl⟩:∃G n' cap,W=.slice G n' cap:=by
  rcases a.2 with ⟨H,_⟩|⟨g,cap,X,H,_⟩
  . exact⟨_,_,_,H⟩
  . exact⟨_,_,_,H⟩
 have d1:N.cell? ⟨b,1,none⟩=some v:=by rw[Lib.cell_of_heap f];rfl
 have f1:=Lib.frozen_of_heap f 1;have x:Lib.byteCells (l++s.data.toList)=Lib.byteCells l++Lib.strCells s:=by rw[Lib.strCells_eq];simp[Lib.byteCells]
 obtain⟨y,I,z,J,O⟩:=Id (Lib.BuilderAt.put (T:=214) (e:=5) hB f (bs':=Lib.byteCells (l++s.data.toList)) (by rw[x,List.length_append,Lib.strCells_length];exact a) (by decide)) (Ql5 f u (Lib.ownBlock_ne a f (by decide))) ((q.grown c (by omega) (fun k hk=>(d.lt k hk).1)).setCell (p:=⟨b,1,none⟩) hB (.slice G n' cap)) (r.trans (Ql2 i bR c t n)) D;clear i d n q r f a c t C j m hz2 D u M x;go_wp2_with (at_builtin;refine Qdp _ rfl _ _ 212 9 rfl v (.string s) _ _ rfl rfl O.o ?_);clear O;go_wp2;go_ret2;exact⟨rfl,⟨.inr y.o,I.o⟩,z.o,J.o⟩
theorem Bd8.parts{B b:Nat}{l:Vu}{w:Vz}(h:Bd8 B b l w):∃q a n c,w.heap[b]?=some (.cells #[.pointer q,.slice a n c] 214 (0,0)):=by
 have:∃q,Lib.BuilderAt 214 5 B b (.pointer q) (Lib.byteCells l) w:=by
  rcases h.bd with h|h
  . exact⟨_,h⟩
  . exact⟨_,h⟩
 obtain⟨q,hB,v,d,e,i⟩:=this;rcases e.2 with ⟨f,_⟩|⟨g,cap,j,f,_⟩
 . exact⟨q,none,0,0,by rw[<-f];exact d⟩
 . exact⟨q,some ⟨g,0,none⟩,_,cap,by rw[<-f];exact d⟩
theorem Bd8.lt{B b:Nat}{l:Vu}{w:Vz}(h:Bd8 B b l w):b<w.heap.size:=BdAt.lt' h.bd
theorem Bd8.not_buf{B b:Nat}{l:Vu}{w:Vz}(h:Bd8 B b l w){k o:Nat}{u:Value}(a:w.cell? ⟨k,o,none⟩=some u)(d:∀n,u≠.int .u8 n):bufOf w b≠some k:=by
 intro c;unfold bufOf at c;obtain⟨v,e,hk⟩:=Option.bind_eq_some_iff.1 c;obtain⟨C,t,f,hC,g⟩:=h.u8 v e k hk;rw[Lib.cell_of_heap hC] at a;obtain⟨n,i⟩:=g o u a;exact d n i
theorem Bd8.word_apart{B b:Nat}{l:Vu}{w:Vz}(h:Bd8 B b l w){k o:Nat}{n:Int}(d:w.cell? ⟨k,o,none⟩=some (.int .u64 n)):k≠b/\bufOf w b≠some k:=by
 refine⟨?_,h.not_buf d (fun n e=>by cases e)⟩;rintro rfl;obtain⟨q,a,m,c,f⟩:=h.parts;rw[Lib.cell_of_heap f] at d
 match o with
 |0=>simp at d
 |1=>simp at d
 |o+2=>simp at d
theorem Bd8.slice_apart{B b:Nat}{l:Vu}{w:Vz}(h:Bd8 B b l w){k:Nat}{a:Vx}{n c:Nat}(d:w.cell? ⟨k,0,none⟩=some (.slice a n c)):k≠b/\bufOf w b≠some k:=by
 refine⟨?_,h.not_buf d (fun n e=>by cases e)⟩;rintro rfl;obtain⟨q,a,m,c,f⟩:=h.parts;rw[Lib.cell_of_heap f] at d;simp at d
theorem Bd8.below{B b:Nat}{l:Vu}{w w':Vz}(h:Bd8 B b l w)(e:Bl w w'):Bd8 B b l w':=by
 have a:=h.lt;have c:∀p,Lib.BuilderAt 214 5 B b p (Lib.byteCells l) w->Lib.BuilderAt 214 5 B b p (Lib.byteCells l) w':=fun p ⟨hB,v,i,d,j⟩=>
  ⟨hB,v,by rw[e.block b a];exact i,Qbl d e,j⟩
 refine⟨?_,fun v k=>?_⟩
 .
  rcases h.bd with h|h
  . exact .inl (c _ h)
  . exact .inr (c _ h)
 .
  rw[e.cell (p:=⟨b,1,none⟩) a] at k;refine(h.u8 v k).below fun g m=>e.block g ?_
  obtain⟨C,t,f,hC,_⟩:=h.u8 v k g m;exact(Array.getElem?_eq_some_iff.1 hC).1
theorem U64.wrote{B b:Nat}{l:Vu}{w w':Vz}{a:Vx}{cap n:Nat}{f:Vy}(h:U64 w a cap f n)(m:Bd8 B b l w)(k:Wr b w w'):U64 w' a cap f n:=by
 refine⟨⟨h.row.fit,?_,fun i o=>?_⟩,h.num,h.short⟩
 .
  rcases h.row.shape with d|⟨e,c,d,g⟩
  . exact .inl d
  . exact .inr ⟨e,c,d,by have:=k.size;omega⟩
 .
  obtain⟨e,c,d,g,j⟩:=h.row.cell i o;obtain⟨p,q⟩:=m.word_apart j;exact⟨e,c,d,by have:=k.size;omega,(World.cell?_of_block (w:=w) (k.block e g p q)).trans j⟩
structure OutT (fill:Bool) (k:Nat) (m:Vu) (x:Nat):Prop where
 dig:AllDigits m
 eq:decVal m=x
 most:m.length<=k
 full:fill=true->m.length=k
 some:m≠ []
 lean:fill=false->m= [48]∨m.head?≠Option.some 48
theorem Qlx(c:UInt8)(l:Vu):decVal (c :: l)=(c.toNat - 48)*10 ^ l.length+decVal l:=by
 have:=Qb9 [c] l
 simpa [decVal] using this
theorem Qha(d:Nat)(h:d<10):(UInt8.ofNat (48+d)).toNat=48+d:=by
 rw[UInt8.toNat_ofNat'];omega
theorem Qw6(u:Nat):AllDigits (Lib.decDigits u)/\decVal (Lib.decDigits u)=u/\Lib.decDigits u≠ []/\(Lib.decDigits u= [48]∨(Lib.decDigits u).head?≠Option.some 48):=by
 induction u using Nat.strongRecOn with
 |_ u ih=>
  rw[Lib.decDigits];by_cases h:u<10
  .
   rw[dif_pos h];have e:=Qha u h;refine⟨fun c a=>?_,?_,by simp,?_⟩
   . rw[List.mem_singleton.1 a,e];omega
   . simp only[decVal,List.foldl_cons,List.foldl_nil,e];omega
   .
    by_cases g:u=0
    . left;subst g;rfl
    .
     right;intro a;have d:UInt8.ofNat (48+u)=48:=by simpa using a
     rw[d] at e;have:(48:UInt8).toNat=48:=rfl;omega
  .
   rw[dif_neg h];obtain⟨d,f,i,b⟩:=ih (u / 10) (by omega);have e:=Qha (u % 10) (by omega);refine⟨fun c a=>?_,?_,by simp,.inr ?_⟩
   .
    rcases List.mem_append.1 a with a|a
    . exact d c a
    . rw[List.mem_singleton.1 a,e];omega
   . rw[Qfd,f,e];omega
   .
    rcases b with b|b
    .
     rw[b] at f;have:decVal [48]=0:=rfl;omega
    .
     cases hl:Lib.decDigits (u / 10) with
     |nil=>exact absurd hl i
     |cons c t=>rw[hl] at b;simpa using b
theorem Qly{m:Vu}(a:AllDigits m)(b:m≠ [])(h:m.head?≠Option.some 48):10 ^ (m.length - 1)<=decVal m:=by
 cases m with
 |nil=>exact absurd rfl b
 |cons c t=>
  have f:=a c (List.mem_cons_self ..);have d:c.toNat≠48:=by
   intro e;apply h;simp only[List.head?_cons,Option.some.injEq];exact UInt8.toNat_inj.1 e
  rw[Qlx,List.length_cons,Nat.add_sub_cancel];have:1*10 ^ t.length<=(c.toNat - 48)*10 ^ t.length:=Nat.mul_le_mul_right _ (by omega);omega
theorem Qw7{u k:Nat}(e:u<10 ^ k)(hk:0<k):OutT false k (Lib.decDigits u) u:=by
 obtain⟨b,c,d,a⟩:=Qw6 u;refine⟨b,c,?_,(fun h=>by cases h),d,fun _=>a⟩;rcases a with a|a
 . rw[a];simp;omega
 .
  have:=Qly b d a;rw[c] at this;have f:(Lib.decDigits u).length - 1<k:=(Nat.pow_lt_pow_iff_right (by decide:1<10)).1 (Nat.lt_of_le_of_lt this e);omega
theorem Qw8(j:Nat)(m:Vu):decVal (List.replicate j 48++m)=decVal m:=by
 induction j with
 |zero=>rfl
 |succ j a=>rw[List.replicate_succ,List.cons_append,Qj5,a]
theorem Qw9{u k:Nat}{m:Vu}(h:OutT false k m u):OutT true k (List.replicate (k - m.length) 48++m) u:=by
 refine⟨fun c a=>?_,by rw[Qw8];exact h.eq,?_,fun _=>?_,?_,(fun h=>by cases h)⟩
 .
  rcases List.mem_append.1 a with a|a
  . rw[List.eq_of_mem_replicate a];decide
  . exact h.dig c a
 . rw[List.length_append,List.length_replicate];have:=h.most;omega
 . rw[List.length_append,List.length_replicate];have:=h.most;omega
 . intro a
   exact h.some (List.append_eq_nil_iff.1 a).2
theorem Qlz{a:Bool}{k g lo:Nat}{j l:Vu}(b:OutT a k j g)(i:OutT true k l lo)(f:a=true∨0<g):OutT a (2*k) (j++l) (g*10 ^ k+lo):=by
 have m:=i.full rfl;refine⟨fun c e=>?_,by rw[Qb9,b.eq,i.eq,m],?_,fun h=>?_,?_,fun h=>.inr ?_⟩
 .
  rcases List.mem_append.1 e with e|e
  . exact b.dig c e
  . exact i.dig c e
 . rw[List.length_append];have:=b.most;have:=i.most;omega
 . rw[List.length_append,b.full h,m];omega
 . intro e
   exact b.some (List.append_eq_nil_iff.1 e).1
 .
  have d:0<g:=by
   rcases f with f|f
   . rw[h] at f;cases f
   . exact f
  rcases b.lean h with hl|hl
  . rw[<-b.eq,hl] at d
    exact absurd d (by decide)
  .
   cases hm:j with
   |nil=>exact absurd hm b.some
   |cons c t=>rw[hm] at hl;simpa using hl
theorem OutT.grow{k a x:Nat}{m:Vu}(h:OutT false k m x)(hk:k<=a):OutT false a m x:=⟨h.dig,h.eq,Nat.le_trans h.most hk,(fun h=>by cases h),h.some,h.lean⟩
theorem Qxa(m:Vu):val 10 (m.reverse.map (fun c=>c.toNat - 48))=decVal m:=by
 induction m with
 |nil=>rfl
 |cons c t a=>
  rw[List.reverse_cons,List.map_append,List.map_cons,List.map_nil,Qak,a,Qlx,List.length_map,List.length_reverse,Nat.mul_comm (10 ^ t.length)];omega
theorem OutT.dec{k x:Nat}{m:Vu}(h:OutT false k m x):IsDec m x:=by
 by_cases a:x=0
 .
  left;refine⟨a,?_⟩;rcases h.lean rfl with hl|hl
  . exact hl
  .
   have:=Qly h.dig h.some hl;rw[h.eq,a] at this;have:=Nat.pow_pos (n:=m.length - 1) (by decide:0<10);omega
 .
  right;refine⟨a,m.reverse.map (fun c=>c.toNat - 48),⟨?_,?_,by rw[Qxa];exact h.eq⟩,?_⟩
  .
   intro d e;obtain⟨c,b,rfl⟩:=List.mem_map.1 e;have:=h.dig c (List.mem_reverse.1 b);omega
  .
   right;rcases h.lean rfl with hl|hl
   . rw[<-h.eq,hl] at a
     exact absurd rfl a
   .
    cases hm:m with
    |nil=>exact absurd hm h.some
    |cons c t=>
     rw[hm] at hl;have b:=h.dig c (by rw[hm];exact List.mem_cons_self ..);have f:c.toNat≠48:=fun g=>hl (by simp only[List.head?_cons,Option.some.injEq];exact UInt8.toNat_inj.1 g)
     rw[List.reverse_cons,List.map_append,List.map_cons,List.map_nil,List.length_append,List.length_singleton,Nat.add_sub_cancel,List.getD_eq_getElem?_getD,List.getElem?_append_right lZ,Nat.sub_self];simp;omega
  .
   rw[<-List.map_reverse,List.reverse_reverse,List.map_map]
   conv=>lhs;rw[<-List.map_id m]
   apply List.map_congr_left;intro c b;have:=h.dig c b;apply UInt8.toNat_inj.1;simp only[id_eq,Function.comp_apply];rw[Qha _ (by omega)];omega
def Digs(B b:Nat)(l:Vu)(fill:Bool)(k x:Nat)(w:Vz)(e:Ending)(w':Vz):Prop:=∃m,OutT fill k m x/\Wrote B b (l++m) (.tuple #[]) w e w'
theorem Qw2(w0 w:Vz)(b:Nat)(l:Vu)(u:Nat)(g:Bool)(N:Tab w0)(v:Bl w0 w)(h:Bd8 w0.heap.size b l w)(S:u<10000000000000000000)(hl:l.length+19<=140737488355328):
 Calls prog 198 #[.pointer (some ⟨b,0,none⟩),.int .u64 u,.bool g] w (Digs w0.heap.size b l g 19 u w):=by
 have G:=Hi (Qw7 (u:=u) (k:=19) S (by decide));have x:w0.heap.size<=w.heap.size:=v.size;obtain⟨y,z⟩:=Ia (Qxn u (by omega) w (N.below v)) h;obtain⟨s,hs⟩:=nm ((⟨(Lib.decDigits u).toArray⟩:ByteArray));rw[hs] at y;have t:s.data.toList=Lib.decDigits u:=by rw[<-hs]
 have p:s.size=(Lib.decDigits u).length:=by rw[<-t];simp
 have A:0<s.size:=by rw[p];exact List.length_pos_iff.2 G.o.some
 have O:s.size<=19:=by rw[p];exact G.o.most
 obtain⟨B,H⟩:=Ia t p;clear v h N hs t p;cases g with
 |false=>
  go_enter func198,ntmps198;go_wp2_with fail;go_fit y.o;rintro e I ⟨rfl,a⟩;obtain⟨q,r⟩:=Ia (Ql6 w0.heap.size b l s I (z.o.below a) A (by omega) (by have:=a.size;omega)) a;clear y a;go_wp2_with fail;go_fit q.o;rintro e P ⟨rfl,i,d,c⟩;obtain⟨f,m,n⟩:=Ib i d c;clear q i d c;go_wp2;go_end0;rw[B.o] at f;exact⟨_,G.o,rfl,f.o,(r.o.mono x).trans m.o,(Wr.below z.o.lt r.o).trans n.o⟩
 |true=>
  go_enter func198,ntmps198;go_wp2_with fail;go_fit y.o;rintro e I ⟨rfl,a⟩;obtain⟨J,r,K⟩:=Ib (z.o.below a) (a.mono x) (Wr.below z.o.lt a);have C:w0.heap.size<=I.heap.size:=by have:=a.size;omega
  clear y a z;go_wp2_with fail;go_loopw [13] (fun L wr=>∃j:Nat,j+s.size<=19/\L=.int .i64 j/\Bd8 w0.heap.size b (l++List.replicate j 48) wr/\Below w0.heap.size w wr/\Wr b w wr/\w0.heap.size<=wr.heap.size) (fun L _=>19 - (intOf L).toNat)
  case atStart=>exact⟨0,by omega,rfl,by rw[List.replicate_zero,List.append_nil];exact J.o,r.o,K.o,C⟩
  case round=>
   obtain⟨j,V,rfl,i,v,Q,R⟩:=hrel;obtain⟨D,E,F⟩:=Ib i v Q;clear i v Q;by_cases T:j+s.size<19
   .
    have U:((j:Int)<19 - (s.size:Int)):=by omega
    have q:=Hi (Qxp w0.heap.size b (l++List.replicate j 48) 48 wr D.o (by rw[List.length_append,List.length_replicate];omega) R);rw[show ((48:UInt8).toNat:Int)=48 from rfl] at q;go_wp2_with fail;go_fit q.o;rintro e P ⟨rfl,i,d,c⟩;obtain⟨f,m,n⟩:=Ib i d c;have hz2:=c.size;clear q i d c;go_wp2;go_roundw
    case rel=>exact⟨j+1,by omega,by go_num,by rw[List.replicate_succ',<-List.append_assoc];exact f.o,E.o.trans m.o,F.o.trans n.o,by omega⟩
    case measure=>simp[intOf];omega
   .
    have U:¬((j:Int)<19 - (s.size:Int)):=by omega
    have M:j=19 - (Lib.decDigits u).length:=by rw[<-H.o];omega
    have q:=Hi (Ql6 w0.heap.size b (l++List.replicate j 48) s wr D.o A (by rw[List.length_append,List.length_replicate];omega) R);go_wp2_with fail;go_fit q.o;rintro e P ⟨rfl,i,d,c⟩;obtain⟨f,m,n⟩:=Ib i d c;clear q i d c;go_wp2;go_end0;rw[B.o,List.append_assoc,M] at f;exact⟨_,Qw9 G.o,rfl,f.o,E.o.trans m.o,F.o.trans n.o⟩
def SlIn(C:Vw):Prop:=∀(i:Nat) u,C[i]?=some u->∃a n c,u=Value.slice a n c
def SlBlk(w:Vz)(v:Value):Prop:=∀g,v.ownBlock=some g->∃C t f,w.heap[g]?=some (.cells C t f)/\SlIn C
theorem SlIn.append{C D:Vw}(h:SlIn C)(k:SlIn D):SlIn (C++D):=fun i u a=>by
 rw[Array.getElem?_append] at a
 split at a
 . exact h _ _ a
 . exact k _ _ a
theorem SlIn.zeros(n:Nat):SlIn (Builtin.zeroCells (Value.slice none 0 0).cells n):=fun i u b=>by
 have a:=Array.mem_of_getElem? b;simp[Builtin.zeroCells,Value.cells] at a;obtain⟨j,c,e⟩:=a;rw[Nat.mod_one] at e;exact⟨none,0,0,e.symm⟩
theorem SlIn.list{l:Vv}(h:∀u,u∈ l->∃a n c,u=Value.slice a n c):SlIn l.toArray:=fun i u b=>h u (by rw[List.getElem?_toArray] at b;exact mO b)
theorem SlIn.mem{C:Vw}(h:SlIn C){u:Value}(d:u∈ C.toList):∃a n c,u=Value.slice a n c:=by
 obtain⟨i,b⟩:=List.mem_iff_getElem?.1 d;exact h i u (by rw[Array.getElem?_toList] at b;exact b)
theorem SlBlk.below{w w':Vz}{v:Value}(h:SlBlk w v)(b:∀g,v.ownBlock=some g->w'.heap[g]?=w.heap[g]?):SlBlk w' v:=fun g a=>by
 obtain⟨C,t,f,c,d⟩:=h g a;exact⟨C,t,f,by rw[b g a];exact c,d⟩
theorem SlBlk.new(w:Vz)(C:Vw)(t:Vr)(n cap:Nat)(h:SlIn C):SlBlk (w.drew.alloc (.cells C t)) (.slice (some ⟨w.heap.size,0,none⟩) n cap):=fun g a=>by
 have e:w.heap.size=g:=by simpa [Value.ownBlock] using a
 subst e;exact⟨C,t,_,heap_alloc_new w.drew _,h⟩
theorem SlBlk.row{w:Vz}{g n cap:Nat}{a news:Vw}{t:Vr}{f:Nat × Nat}(c:w.heap[g]?=some (.cells a t f))(h:SlIn news):SlBlk (w.setRow g news) (.slice (some ⟨g,0,none⟩) n cap):=fun d b=>by
 have e:g=d:=by simpa [Value.ownBlock] using b
 subst e;exact⟨news,t,f,setRow_heap w g a _ t _ c,h⟩
theorem Tryz.infoNat:(prog.info? 139).map (fun i=>(i.zero,i.size,i.bytes))=some (some (.slice none 0 0),1,24):=by kernel_rfl
theorem Qxb{w:Vz}{s:Nat}{v G:Value}{n m z:Nat}{xs news:Vv}{a:Addr}{w':Vz}{ty:Vr}{i:TypeInfo}(A:prog.info? 139=some i)(H:i.zero=some (.slice none 0 0))(f:i.size=1)(t:i.bytes=24)(e:w.ownsRow s 139 1 v n xs)(d:SlBlk w v)
 (hl:news.length=m) (b:∀j u,news[j]?=some u->w.cell? (a.add j)=some u) (I:∀u∈ news,u.oneCell'=true) (B:∀u,u∈ news->∃a n c,u=Value.slice a n c) (J:0<m) (K:n+m<=1099511627776)
 (r:(Builtin.append_ #[216,216] ty #[v,.slice (some a) m z]).run prog w=.ok G w'):SlBlk w' G:=by
 have D:xs.length=n:=by simpa using e.1
 have h:=e;have k:news.length=m*i.size:=by rw[f,Nat.mul_one];exact hl
 rcases e.2 with ⟨rfl,rfl⟩|⟨g,cap,E,rfl,L,F,M,N,O,l⟩
 .
  rw[run_append_nil (P:=prog) w 216 ty 139 i (.slice none 0 0) underlying216 A H a m z news k b J (by omega) (by rw[t];omega)] at r;injection r with x y
  rw[<-x,<-y];exact SlBlk.new _ _ _ _ _ ((SlIn.list B).append (SlIn.zeros _))
 .
  obtain⟨C,Q,R,hC,o⟩:=d g rfl;rw[F] at hC;injection hC with hC
  injection hC with hC _ _
  subst hC;by_cases p:n+m<=cap
  .
   rw[run_append_room (P:=prog) w 216 ty 139 i underlying216 A g n cap E F a m z news k b I p (by rw[f];omega)] at r;injection r with x y
   rw[<-x,<-y];refine SlBlk.row F (SlIn.list fun u d=>?_);simp only[List.mem_append] at d;rcases d with (d|d)|d
   . exact o.mem (List.mem_of_mem_take d)
   . exact B u d
   . exact o.mem (List.mem_of_mem_drop d)
  .
   have q:=h.cells (g:=g) rfl;rw[run_append_grow (P:=prog) w 216 ty 139 i (.slice none 0 0) underlying216 A H ⟨g,0,none⟩ n cap xs (by rw[f];simpa using D) q a m z news k b (by omega) (by omega) (by rw[t];exact growslice_fits (by omega) (by omega))] at r;injection r with x y
   rw[<-x,<-y];refine SlBlk.new _ _ _ _ _ (((SlIn.list fun u d=>?_).append (SlIn.list B)).append (SlIn.zeros _));rw[<-l] at d;exact o.mem (List.mem_of_mem_take d)
def pw(i:Nat):Nat:=10 ^ (19*2 ^ i)
theorem Qew(i:Nat):pw (i+1)=pw i*pw i:=by unfold pw;rw[<-Nat.pow_add];congr 1;rw[Nat.pow_succ];omega
theorem Ql0:pw 0=10000000000000000000:=by decide
theorem Qhb(i:Nat):0<pw i:=Nat.pow_pos (by decide)
def Pows(w:Vz)(vs:Vv):Prop:=∀i v,vs[i]?=some v->∃a c l,v=.slice a (List.length l) c/\U64 w a c l (pw i)
theorem Pows.below{w w':Vz}{vs:Vv}(h:Pows w vs)(b:Bl w w'):Pows w' vs:=fun i v d=>by
 obtain⟨a,c,l,e,f⟩:=h i v d;exact⟨a,c,l,e,f.below b⟩
theorem Pows.snoc{w:Vz}{vs:Vv}{a:Vx}{c:Nat}{l:Vy}(h:Pows w vs)(e:U64 w a c l (pw vs.length)):Pows w (vs++ [.slice a l.length c]):=fun i v b=>by
 rw[List.getElem?_append] at b
 split at b
 . exact h i v b
 .
  rename_i f;rw[List.getElem?_singleton] at b
  split at b
  .
   have d:i=vs.length:=by omega
   subst d;injection b with b
   exact⟨a,c,l,b.symm,e⟩
  . cases b
theorem U64.grownSl{w w':Vz}{v:Value}{a:Vx}{cap n:Nat}{l:Vy}(h:U64 w a cap l n)(g:w.grownBy w' v.ownBlock)(hs:SlBlk w v):U64 w' a cap l n:=by
 refine⟨⟨h.row.fit,?_,fun i m=>?_⟩,h.num,h.short⟩
 .
  rcases h.row.shape with c|⟨d,b,c,k⟩
  . exact .inl c
  . exact .inr ⟨d,b,c,by have:=g.size;omega⟩
 .
  obtain⟨d,b,c,k,j⟩:=h.row.cell i m;refine⟨d,b,c,by have:=g.size;omega,(World.cell?_of_block (w:=w) (g.block d k ?_)).trans j⟩;intro o;obtain⟨C,t,f,hC,p⟩:=hs d o.symm;rw[Lib.cell_of_heap hC] at j;obtain⟨_,_,_,e⟩:=p _ _ j;cases e
theorem Pows.grown{w w':Vz}{v:Value}{vs:Vv}(h:Pows w vs)(b:w.grownBy w' v.ownBlock)(hs:SlBlk w v):Pows w' vs:=fun i u d=>by
 obtain⟨a,c,l,e,f⟩:=h i u d;exact⟨a,c,l,e,f.grownSl b hs⟩
theorem Qxc(k:Nat):2 ^ (63*k)<=10 ^ (19*k):=by
 rw[Nat.pow_mul,Nat.pow_mul];exact Nat.pow_le_pow_left (by decide) k
theorem Ql1{w:Vz}{a:Vx}{c i:Nat}{l:Vy}(h:U64 w a c l (pw i)):63*2 ^ i<64*l.length:=by
 have b:=Qaa (B:=18446744073709551616) (by decide) h.num.small;rw[h.num.eq] at b;have d:2 ^ (63*2 ^ i)<=pw i:=Qxc _;have e:(18446744073709551616:Nat) ^ l.length=2 ^ (64*l.length):=by rw[Nat.pow_mul]
 rw[e] at b;exact(Nat.pow_lt_pow_iff_right (by decide:1<2)).1 (Nat.lt_of_le_of_lt d b)
theorem Qxd(n:Nat):n+1<=2 ^ n:=Nat.lt_two_pow_self
theorem Qxe{w:Vz}{a e:Vx}{c c2 i x:Nat}{l m:Vy}(h:U64 w a c l (pw i))(d:U64 w e c2 m x)(hl:m.length+1<2*l.length):x<pw (i+1):=by
 have f:=Qaa (B:=18446744073709551616) (by decide) d.num.small;rw[d.num.eq] at f;have b:=h.num.trim.pow_le (B:=18446744073709551616) (by omega);rw[h.num.eq] at b;have g:=Nat.mul_le_mul b b;rw[<-Nat.pow_add,<-Qew] at g;have j:(18446744073709551616:Nat) ^ m.length<=18446744073709551616 ^ (l.length - 1+(l.length - 1)):=Nat.pow_le_pow_right (by decide) (by omega);omega
theorem Qxf{n k:Nat}(h:63*2 ^ n<64*k)(hk:k<=549755813890):19*2 ^ (n+1)<=140737488355000:=by
 rw[Nat.pow_succ];omega
def PowAns(w:Vz)(x:Nat)(e:Ending)(w':Vz):Prop:=(∃g n cap,e=.returned (.slice (some ⟨g,0,none⟩) (n+1) cap)/\n+1<=cap/\(∃vs,List.length vs=n+1/\(∀i v,vs[i]?=some v->w'.cell? ⟨g,i,none⟩=some v)/\Pows w' vs)/\g<w'.heap.size/\x<pw (n+1)/\n<=1099511627770/\19*2 ^ (n+1)<=140737488355000)/\Below w.heap.size w w'
theorem Qxg(a:Vx)(cap x:Nat)(C:Vy)(w:Vz)(h:U64 w a cap C x)(hl:C.length<=274877906944):
 Calls prog 171 #[.slice a C.length cap] w (PowAns w x):=by
 obtain⟨i0,hi,M,N,hz2⟩:=info_parts Tryz.infoNat;obtain⟨HX,HI,O,Q,R⟩:=Id h hi M N hz2;clear h hi M N hz2;go_enter func171,ntmps171;go_wp2_with fail;go_loopw [3,4] (fun lv pv wr=>∃(n:Nat) (vs:Vv) (S:Vx) (c1:Nat) (c:Vy),vs.length=n+1/\lv=.slice S c.length c1/\vs[n]?=some lv/\wr.ownsRow w.heap.size 139 1 pv (n+1) vs/\SlBlk wr pv/\Pows wr vs/\U64 wr S c1 c (pw n)/\c.length<=2*C.length+1/\n<=2*C.length/\Below w.heap.size w wr) (fun _ pv _=>2*C.length+2 - sliceLen pv)
 case atStart=>
  have af:Blk .u64 170 (w.alloc (.cells (wordCells .u64 [10000000000000000000]) 170)) w.heap.size [10000000000000000000]:=Blk.new _ _ _ _;have ag:U64 (w.alloc (.cells (wordCells .u64 [10000000000000000000]) 170)) (some ⟨w.heap.size,0,none⟩) 1 [10000000000000000000] (pw 0):=⟨af.row 1 (by simp) 1 (by omega),⟨fun d hd=>by simp at hd;omega,.inr (by simp),by rw[Ql0];simp[val]⟩,by simp⟩;have ah:Below (w.alloc (.cells (wordCells .u64 [10000000000000000000]) 170)).heap.size (w.alloc (.cells (wordCells .u64 [10000000000000000000]) 170)) ((w.alloc (.cells (wordCells .u64 [10000000000000000000]) 170)).alloc (.cells #[.slice (some ⟨w.heap.size,0,none⟩) 1 1] 139)):=bR.alloc lZ _;have T:=ag.below ah;refine⟨0,[.slice (some ⟨w.heap.size,0,none⟩) 1 1],some ⟨w.heap.size,0,none⟩,1,[10000000000000000000],rfl,rfl,rfl,?_,?_,?_,T,by simp,by omega,?_⟩
  . exact⟨rfl,.inr ⟨w.heap.size+1,1,#[.slice (some ⟨w.heap.size,0,none⟩) 1 1],rfl,by omega,by have:=heap_alloc_new (w.alloc (.cells (wordCells .u64 [10000000000000000000]) 170)) (.cells #[.slice (some ⟨w.heap.size,0,none⟩) 1 1] 139);rw[World.size_alloc] at this;exact this,by omega,by unfold maxLen;omega,rfl,rfl⟩⟩
  .
   intro g U;have e:w.heap.size+1=g:=by simpa [Value.ownBlock] using U
   subst e;refine⟨#[.slice (some ⟨w.heap.size,0,none⟩) 1 1],139,(0,0),by have:=heap_alloc_new (w.alloc (.cells (wordCells .u64 [10000000000000000000]) 170)) (.cells #[.slice (some ⟨w.heap.size,0,none⟩) 1 1] 139);rw[World.size_alloc] at this;exact this,?_⟩;intro i u q
   match i with
   |0=>simp at q;exact⟨_,_,_,q.symm⟩
   |i+1=>simp at q
  .
   intro i v V
   match i with
   |0=>simp at V;exact⟨_,_,[10000000000000000000],V.symm,T⟩
   |i+1=>simp at V
  . exact(bR.alloc lZ _).alloc (by rw[World.size_alloc];omega) _
 case round=>
  obtain⟨n,vs,S,c1,c,W,rfl,J,r,X,Y,q,av,aw,hb⟩:=hrel;have Z:=Qfu r;have ai:=Ql1 q;have aj:=Qxd n;obtain⟨s,f,ak,aa,L,HB⟩:=Ie W r X Y q hb;have au:=hb.size;have ax:1<=c.length:=by omega
  have D:63*(n+1)<64*c.length:=by omega
  clear W J r X Y q hb ai aj;by_cases hc:2*c.length<=C.length+1
  .
   have q1:(2*(c.length:Int) - 1<=(C.length:Int)):=by omega
   have HM:=Hi (Qjy S S c1 c1 c c (pw n) (pw n) wr L.o L.o (by omega));go_wp2_with fail;go_fit HM.o;rintro e E ⟨⟨F,c2,A,rfl,G⟩,K⟩;rw[<-Qew] at G;have ay:A.length<=2*c.length:=G.num.length_le_of_lt (by decide) (by
    rw[Qew,show 2*c.length=c.length+c.length by omega,Nat.pow_add];have h1:=Qaa (B:=18446744073709551616) (by decide) L.o.num.small;rw[L.o.num.eq] at h1
    exact Nat.mul_lt_mul'' h1 h1)
   have al:=K.size;obtain⟨am,H⟩:=Ia G K;clear HM G K;have t:Bl E (E.alloc (.cells #[.slice F A.length c2] 139)):=bR.alloc lZ _;have l:=Qbl (Qbl f.o H.o) t;have p:=(ak.o.below fun g U=>H.o.block g (f.o.lt g U).2).below fun g U=>t.block g (by have:=(f.o.lt g U).2;omega)
   have D:∀j u,[Value.slice F A.length c2][j]?=some u->(E.alloc (.cells #[.slice F A.length c2] 139)).cell? ((⟨E.heap.size,0,none⟩:Addr).add j)=some u:=World.news_of_block (heap_alloc_new E _);have y:∀u∈ [Value.slice F A.length c2],u.oneCell'=true:=fun u q=>by rw[List.mem_singleton.1 q];rfl
   obtain⟨v',w3,hr,z,b,_,an⟩:=run_append_own_at (P:=prog) (E.alloc (.cells #[.slice F A.length c2] 139)) w.heap.size 216 216 139 i0 (.slice none 0 0) 1 24 underlying216 HI.o O.o Q.o R.o rfl (by decide) u4 (n+1) vs l ⟨E.heap.size,0,none⟩ 1 1 [.slice F A.length c2] rfl D y (by unfold maxLen;omega) (by omega) (by rw[World.size_alloc];omega);obtain⟨ao,ab,ap,ad,aq,HR⟩:=Ie (Qxb (m:=1) HI.o O.o Q.o R.o l p rfl D y (fun u q=>⟨_,_,_,List.mem_singleton.1 q⟩) (by decide) (by omega) hr) ((am.o.below t).grownSl b p) (((aa.o.below H.o).below t).grown b p) z (((HB.o.trans (H.o.mono (by omega))).alloc (by omega) (.cells #[.slice F A.length c2] 139)).grown b (by rw[World.size_alloc];omega) (fun k hk=>(f.o.lt k hk).1)) hr
   clear t l p D y hr z b an;go_wp2_with (at_builtin;refine Qdp _ rfl _ _ 216 216 rfl u4 (.slice (some ⟨E.heap.size,0,none⟩) 1 1) _ _ rfl rfl HR.o ?_);clear HR;go_wp2;go_roundw
   case rel=>
    refine⟨n+1,vs++ [.slice F A.length c2],F,c2,A,by rw[List.length_append,s.o];rfl,rfl,?_,ad.o,ao.o,ap.o.snoc (by rw[s.o];exact ab.o),ab.o,by omega,by omega,aq.o⟩;rw[List.getElem?_append_right (by rw[s.o];omega),s.o,Nat.sub_self];rfl
   case measure=>
    rw[Z];have:=Qfu ad.o;simp only[sliceLen] at this ⊢;simp at this ⊢;omega
  .
   have q1:¬(2*(c.length:Int) - 1<=(C.length:Int)):=by omega
   obtain⟨g,ae,rfl,az,ar⟩:=f.o.form (by omega);go_wp2;go_ret;have I:=f.o.cells (g:=g) rfl;refine⟨⟨g,n,ae,rfl,?_,⟨vs,s.o,fun i v V=>?_,aa.o⟩,ar,Qxe L.o (HX.o.below HB.o) (by omega),by omega,Qxf (Ql1 L.o) (by omega)⟩,HB.o⟩
   .
    rcases f.o.2 with ⟨h,_⟩|⟨g',cap',a0,he,_,_,hf,_⟩
    . cases h
    . injection he with _ _ h3
      omega
   .
    have:=I i v V;rw[Lib.add_plain,Nat.zero_add] at this;exact this
def Pw(w:Vz)(g n:Nat):Prop:=∀i,i<n->∃a c l,w.cell? ⟨g,i,none⟩=some (.slice a (List.length l) c)/\U64 w a c l (pw i)
theorem Pw.below{w w':Vz}{g n:Nat}(h:Pw w g n)(b:Bl w w'):Pw w' g n:=fun i e=>by
 obtain⟨a,c,l,d,f⟩:=h i e;exact⟨a,c,l,ce b (World.block_lt_of_cell? _ _ d) d,f.below b⟩
theorem Pw.wrote{B b:Nat}{l:Vu}{w w':Vz}{g n:Nat}(h:Pw w g n)(e:Bd8 B b l w)(k:Wr b w w'):Pw w' g n:=fun i f=>by
 obtain⟨a,c,j,m,o⟩:=h i f;obtain⟨r,s,t,d,_⟩:=h 0 (by omega);obtain⟨p,q⟩:=e.slice_apart d;exact⟨a,c,j,(World.cell?_of_block (w:=w) (a:=⟨g,i,none⟩) (k.block g (World.block_lt_of_cell? _ _ d) p q)).trans m,o.wrote e k⟩
theorem Pw.less{w:Vz}{g n m:Nat}(h:Pw w g n)(a:m<=n):Pw w g m:=fun i b=>h i (by omega)
theorem Qw3{w:Vz}{a:Vx}{c x:Nat}{l:Vy}(h:U64 w a c l x)(b:x<10000000000000000000):l.getD 0 0=x:=by
 have hl:l.length<=1:=h.num.length_le_of_lt (by decide) (by rw[Nat.pow_one];omega);rw[<-h.num.eq]
 match l,hl with
 | [],_=>rfl
 | [d],_=>simp[val]
theorem Qw4(w0:Vz)(b g:Nat)(hT:Tab w0)(n:Nat):∀(cap:Nat) (i:Bool) (l:Vu) (a:Vx) (c x:Nat) (N:Vy) (w:Vz),Below w0.heap.size w0 w->Bd8 w0.heap.size b l w->U64 w a c N x->Pw w g n->n<=cap->x<pw n->N.length<=274877906944->n<=1099511627776->l.length+19*2 ^ n<=140737488355328->
 Calls prog 170 #[.pointer (some ⟨b,0,none⟩),.slice a N.length c,.slice (some ⟨g,0,none⟩) n cap,.bool i] w (Digs w0.heap.size b l i (19*2 ^ n) x w):=by
 induction n with
 |zero=>
  intro cap i l a c x N w X Z L hp ah Y ai hn hl;rw[Ql0] at Y;have R:=Hi (Qb1 a c N 0 w L.row L.short (by decide));rw[Qw3 L Y] at R;have aa:=Hi (Qw2 w0 w b l x i hT X Z Y (by simpa using hl));clear X Z L hp;go_enter func170,ntmps170;go_wp2_with fail;go_fit R.o;rintro e w1 ⟨rfl,hw⟩;subst hw;clear R;go_wp2_with fail;go_fit aa.o;rintro e w2 ⟨m,z,rfl,j,f,d⟩;obtain⟨HO,aj,A,C⟩:=Ic z j f d;clear aa z j f d;go_wp2;go_end0;exact⟨m,by simpa using HO.o,rfl,aj.o,A.o,C.o⟩
 |succ n ih=>
  intro cap i l a c x N w X Z L hp ah Y ai hn hl;obtain⟨ap,cp,lp,ak,ab⟩:=hp n (by omega);obtain⟨ad,HB,HD,HP,D⟩:=Id (Qju a ap c cp N lp x (pw n) w L ab (Qhb n) (by omega)) X Z hp ih;have ae:x / pw n<pw n:=by rw[Nat.div_lt_iff_lt_mul (Qhb n)];rw[Qew] at Y;exact Y
  have S:x % pw n<pw n:=Nat.mod_lt _ (Qhb n);have P:∀(w':Vz) (a':Vx) (c' y:Nat) (l':Vy),U64 w' a' c' l' y->y<=x->l'.length<=N.length:=fun w' a' c' y l' h' hy=>h'.num.length_le_of_lt (by decide) (Nat.lt_of_le_of_lt hy (by have:=Qaa (B:=18446744073709551616) (by decide) L.num.small;rw[L.num.eq] at this;exact this))
  obtain⟨Q,HX⟩:=Ia P (Nat.div_add_mod x (pw n));have h2:19*2 ^ (n+1)=2*(19*2 ^ n):=by rw[Nat.pow_succ];omega
  have af:=Hi (show pw n=10 ^ (19*2 ^ n) from rfl);have n1:((n+1:Nat):Int) - 1=(n:Int):=by omega
  have n2:((n:Int)+1) - 1=(n:Int):=by omega
  have n0:(((n+1:Nat):Int) == 0)=false:=by rw[beq_eq_false_iff_ne];omega
  have M:w0.heap.size<=w.heap.size:=X.size;clear X Z L hp ab ih P;go_enter func170,ntmps170;go_wp2_with fail;go_fit ad.o;rintro e w1 ⟨⟨aq,cq,lq,ar,cr,lr,rfl,hq,hr⟩,t⟩;have hz:=hq.num.len_zero (by decide);obtain⟨ag,T,HQ,HR,U,u,E,V,F⟩:=Ih (Q.o _ _ _ _ _ hq (Nat.div_le_self _ _)) (Q.o _ _ _ _ _ hr (Nat.mod_le _ _)) hq hr t (HD.o.below t) (HP.o.below t) (Wr.below HD.o.lt t) (HB.o.trans (t.mono M));have am:=t.size;clear ad hq hr t;cases i with
  |true=>
   have G:=Hi (D.o cap true l aq cq (x / pw n) lq w1 F.o u.o HQ.o (E.o.less (by omega)) (by omega) ae (by have:=ag.o;omega) (by omega) (by omega));clear hz;go_wp2_with fail;go_fit G.o;rintro e w2 ⟨m1,v,rfl,j,f,d⟩;obtain⟨W,k,A,C⟩:=Ic v (D.o cap true (l++m1) ar cr (x % pw n) lr w2 (F.o.trans f) j (HR.o.wrote u.o d) ((E.o.wrote u.o d).less (by omega)) (by omega) S (by have:=T.o;omega) (by omega) (by rw[List.length_append];have:=v.most;omega)) f d;clear G v j f d;go_wp2_with fail;go_fit k.o;rintro e w3 ⟨m2,p,rfl,q,r,s⟩;obtain⟨H,I,J,K⟩:=Ic p q r s;clear k p q r s;go_wp2;go_end0;have z:=Qlz W.o H.o (.inl rfl);rw[<-af.o,Nat.mul_comm (x / pw n),HX.o,<-h2] at z
   exact⟨m1++m2,z,rfl,by rw[<-List.append_assoc];exact I.o,(U.o.mono M).trans (A.o.trans J.o),V.o.trans (C.o.trans K.o)⟩
  |false=>
   by_cases an:0<lq.length
   .
    have q1:((0:Int)<(lq.length:Int)):=by omega
    have HF:O (0<x / pw n):=Hi (by
     rcases Nat.eq_zero_or_pos (x / pw n) with h|h
     . have:=hz.1 h;omega
     . exact h)
    have G:=Hi (D.o cap false l aq cq (x / pw n) lq w1 F.o u.o HQ.o (E.o.less (by omega)) (by omega) ae (by have:=ag.o;omega) (by omega) (by omega));clear hz;go_wp2_with fail;go_fit G.o;rintro e w2 ⟨m1,v,rfl,j,f,d⟩;obtain⟨W,k,A,C⟩:=Ic v (D.o cap true (l++m1) ar cr (x % pw n) lr w2 (F.o.trans f) j (HR.o.wrote u.o d) ((E.o.wrote u.o d).less (by omega)) (by omega) S (by have:=T.o;omega) (by omega) (by rw[List.length_append];have:=v.most;omega)) f d;clear G v j f d;go_wp2_with fail;go_fit k.o;rintro e w3 ⟨m2,p,rfl,q,r,s⟩;obtain⟨H,I,J,K⟩:=Ic p q r s;clear k p q r s;go_wp2;go_end0;have z:=Qlz W.o H.o (.inr HF.o);rw[<-af.o,Nat.mul_comm (x / pw n),HX.o,<-h2] at z
    exact⟨m1++m2,z,rfl,by rw[<-List.append_assoc];exact I.o,(U.o.mono M).trans (A.o.trans J.o),V.o.trans (C.o.trans K.o)⟩
   .
    have q1:¬((0:Int)<(lq.length:Int)):=by omega
    have al:x % pw n=x:=by
     have h1:=HX.o;rw[hz.2 (by omega),Nat.mul_zero,Nat.zero_add] at h1;exact h1
    have k:=Hi (D.o cap false l ar cr (x % pw n) lr w1 F.o u.o HR.o (E.o.less (by omega)) (by omega) S (by have:=T.o;omega) (by omega) (by omega));clear hz;go_wp2_with fail;go_fit k.o;rintro e w3 ⟨m2,p,rfl,q,r,s⟩;obtain⟨H,I,J,K⟩:=Ic p q r s;clear k p q r s;go_wp2;go_end0;have z:=H.o;rw[al] at z;exact⟨m2,z.grow (by omega),rfl,I.o,(U.o.mono M).trans J.o,V.o.trans K.o⟩
def TextAns(x:Nat)(w:Vz)(e:Ending)(w':Vz):Prop:=(∃s:Vs,e=.returned (.string s)/\IsDec s.data.toList x/\s.size<=140737488355328)/\Below w.heap.size w w'
theorem Qw5(a:Vx)(c x:Nat)(l:Vy)(w:Vz)(S:Tab w)(h:U64 w a c l x)(hl:l.length<=274877906944):
 Calls prog 138 #[.slice a l.length c] w (TextAns x w):=by
 obtain⟨F,j⟩:=nm (w.alloc (.cells #[.pointer none,.slice none 0 0] 214));have d:Bl w F:=by rw[<-j];exact(Below.refl _ _).alloc lZ _
 have k:F.heap[w.heap.size]?=some (.cells #[.pointer none,.slice none 0 0] 214 (0,0)):=by rw[<-j];exact heap_alloc_new w _
 have p:Bd8 w.heap.size w.heap.size [] F:=⟨.inl ⟨Nat.le_refl _,.slice none 0 0,k,World.ownsRow_nil _ _ _ _,by simp[Value.ownBlock]⟩,fun v q=>by
  rw[Lib.cell_of_heap k] at q;have:v=.slice none 0 0:=by simpa using q.symm
  subst this;intro g W
  simp[Value.ownBlock] at W⟩
 obtain⟨r,X,Y,s,G,Z⟩:=Ie (Qxg a c x l F (h.below d) hl) (h.below d) p d j S;have t:=d.size;clear S h d k p j;go_enter func138,ntmps138;go_wp2_with fail;rw[G.o];go_fit r.o;rintro e T ⟨⟨g,n,cap,rfl,H,⟨vs,I,u,f⟩,J,U,aa,K⟩,b⟩;have y:Pw T g (n+1):=fun i hi=>by
  obtain⟨v,q⟩:∃v,vs[i]?=some v:=⟨vs[i]'(by omega),gE (by omega)⟩;obtain⟨a',c',l',e',L⟩:=f i v q;exact⟨a',c',l',by rw[u i v q,e'],L⟩
 obtain⟨z,M⟩:=Ia (Qw4 w w.heap.size g Z.o (n+1) cap false [] a c x l T (s.o.trans (b.mono t)) (Y.o.below b) (X.o.below b) y H U hl (by omega) (by rw[List.length_nil];omega)) (s.o.trans (b.mono t));have V:=b.size;clear r y I u f J U b;go_wp2_with fail;go_fit z.o;rintro e w2 ⟨m,N,rfl,A,B,C⟩;obtain⟨D,O,P,Q⟩:=Ic (Qwz w.heap.size w.heap.size m w2 (by have:=A.bd;rwa [List.nil_append] at this) (by have:=C.size;omega)) N.dec N.most (M.o.trans B);clear z N A B C;go_wp2_with fail;go_fit D.o;rintro e w3 ⟨rfl,E⟩;have R:=Hi (Q.o.trans E);clear D E;go_wp2;go_ret;refine⟨⟨_,rfl,O.o,?_⟩,R.o⟩;have h1:=P.o;rw[<-Qag]
 show m.length<=_
 omega
def QAns(q:Rat)(w:Vz)(e:Ending)(w':Vz):Prop:=(∃s:Vs,e=.returned (.string s)/\QText s.data.toList q)/\Below w.heap.size w w'
theorem Qc4(s t:Vs):(s++t).data.toList=s.data.toList++t.data.toList:=by simp[ByteArray.data_append]
theorem Qpb(w:Vz)(d:Nat)(a:Vx)(n c:Nat):(Op.equalIn (d+1) 139 (.slice a n c) (.slice none 0 0)).run prog w=.ok a.isNone w:=by
 cases a<;>simp[Op.equalIn,run_underlying underlying139]
theorem Qpc(w:Vz)(a:Vx)(n c:Nat):(Op.equal 139 (.slice a n c) (.slice none 0 0)).run prog w=.ok a.isNone w:=Qpb w 9999 a n c
theorem Qpd(w:Vz)(a:Vx)(n c:Nat):(binOp .neq 139 (.slice a n c) (.slice none 0 0)).run prog w=.ok (.bool a.isSome) w:=by
 cases a<;>simp[binOp,Qpc]
theorem Qfq{a:Vx}{n c x K:Nat}{w:Vz}(b:Tab w)(h:NumV w a n c x)(d:x<2 ^ K)(e:K<=274877906944):Calls prog 138 #[.slice a n c] w (TextAns x w):=by
 obtain⟨l,rfl,h⟩:=h;exact Qw5 a c x l w b h (Nat.le_trans (h.len_bits d) e)
theorem num_Q(neg:Bool)(a b:Vx)(n c m d K:Nat)(q:Rat)(w:Vz)(H:Tab w)(h:FracAt w neg a n c b m d q)(I:Fits q K)(J:K<=274877906944):
 Calls prog 88 #[.agg #[.bool neg,.slice a n c,.slice b m d]] w (QAns q w):=by
 have Z:=Qpd;obtain⟨Q,s⟩:=nm (w.alloc (.cells #[.bool neg,.slice a n c,.slice b m d] 141));have g:Bl w Q:=by rw[<-s];exact(Below.refl _ _).alloc lZ _
 have x:SB Q w.heap.size 141 #[.bool neg,.slice a n c,.slice b m d]:=by rw[<-s];exact SB.new w _ _
 obtain⟨y,z,A,B,R,t,L,M⟩:=Ig (Qfq (H.below g) (h.top.below g) I.1 J) (h.low.below g) (H.below g) h.neg I x g s;have N:=g.size;clear H h I g x s;go_enter func88,ntmps88;obtain⟨-,T,-⟩:=zc t.o;go_wp2_with fail;rw[M.o];go_fit y.o;rintro e w1 ⟨⟨G,rfl,C,U⟩,i⟩;obtain⟨D,j,E,F⟩:=Ic C (L.o.trans (i.mono N)) (z.o.below i) (A.o.below i);obtain⟨g0,-,g2,-⟩:=zc (t.o.below i t.o.lt);have S:=i.size;clear y C i T z A;cases neg with
 |true=>
  have k:O (IntText ((⟨#[45]⟩:ByteArray)++G).data.toList q.num):=Hi ⟨G.data.toList,D.o,by rw[if_pos (of_decide_eq_true B.o.symm),Qc4];rfl⟩;rcases E.o with ⟨rfl,rfl,rfl,f⟩|⟨f,hl⟩
  .
   go_wp2;go_ret;exact⟨⟨_,rfl,_,k.o,.inl ⟨f,rfl⟩⟩,j.o⟩
  .
   obtain⟨V,W,rfl⟩:=hl.some (by omega);have l:=Hi (Qfq F.o hl R.o.2 J);clear hl;go_wp2_with fail;go_fit l.o;rintro e X ⟨⟨Y,rfl,p,P⟩,r⟩;obtain⟨u,v⟩:=Ia p (j.o.trans (r.mono j.o.size));clear l p r;go_wp2;go_ret;exact⟨⟨_,rfl,_,k.o,.inr ⟨by omega,_,u.o,by rw[Qc4,Qc4];rfl⟩⟩,v.o⟩
 |false=>
  have k:O (IntText G.data.toList q.num):=Hi ⟨G.data.toList,D.o,by rw[if_neg (of_decide_eq_false B.o.symm)]⟩;rcases E.o with ⟨rfl,rfl,rfl,f⟩|⟨f,hl⟩
  .
   go_wp2;go_ret;exact⟨⟨_,rfl,_,k.o,.inl ⟨f,rfl⟩⟩,j.o⟩
  .
   obtain⟨V,W,rfl⟩:=hl.some (by omega);have l:=Hi (Qfq F.o hl R.o.2 J);clear hl;go_wp2_with fail;go_fit l.o;rintro e X ⟨⟨Y,rfl,p,P⟩,r⟩;obtain⟨u,v⟩:=Ia p (j.o.trans (r.mono j.o.size));clear l p r;go_wp2;go_ret;exact⟨⟨_,rfl,_,k.o,.inr ⟨by omega,_,u.o,by rw[Qc4,Qc4];rfl⟩⟩,v.o⟩
theorem Qfr{v:Value}{K:Nat}{q:Rat}{w:Vz}(e:Tab w)(h:FracV w v q)(f:Fits q K)(g:K<=274877906944):Calls prog 88 #[v] w (QAns q w):=by
 obtain⟨neg,a,n,c,b,m,d,rfl,h⟩:=h;exact num_Q neg a b n c m d K q w e h f g
theorem Qip(A B:Vx)(c1 c2:Nat)(l m:Vy)(w:Vz)(d:Row .u64 w A c1 l)(C:Row .u64 w B c2 m)(hl:l.length<=1099511627776)(Q:m.length<=1099511627776):
 Calls prog 188 #[.slice A l.length c1,.slice B m.length c2] w fun e w'=>e=.returned (.bool (decide (l=m)))/\Below w.heap.size w w':=by
 obtain⟨I,J⟩:=Ia d C;clear d C;by_cases a:l.length=m.length
 .
  have K:((l.length:Int) != (m.length:Int))=false:=by simp[a]
  have L:((l.length:Int) == (m.length:Int))=true:=by simp[a]
  go_enter func188,ntmps188;go_wp2;go_loopw [13] (fun n wr=>∃k:Nat,k<=l.length/\n=.int .i64 k/\l.take k=m.take k/\Below w.heap.size w wr) (fun n _=>l.length - (intOf n).toNat)
  case atStart=>exact⟨0,by omega,rfl,by simp,Below.refl _ _⟩
  case round=>
   obtain⟨k,hk,rfl,D,E⟩:=hrel;obtain⟨F,f⟩:=Ia D E;clear D E;by_cases b:k<l.length
   .
    obtain⟨R,S,rfl,M,p⟩:=(I.o.below f.o).cell k b;obtain⟨T,U,rfl,N,q⟩:=(J.o.below f.o).cell k (by omega);obtain⟨x,i⟩:=nm (l.getD k 0);obtain⟨y,j⟩:=nm (m.getD k 0);rw[i] at p;rw[j] at q;obtain⟨r,s⟩:=Ia i j;have G:l.take (k+1)=l.take k++ [x]:=by rw[List.take_succ_eq_append_getElem b,<-i,List.getD_eq_getElem?_getD,gE b];rfl
    have H:m.take (k+1)=m.take k++ [y]:=by rw[List.take_succ_eq_append_getElem (by omega),<-j,List.getD_eq_getElem?_getD,gE (by omega)];rfl
    obtain⟨t,u⟩:=Ia G H;clear i j G H;by_cases g:x=y
    .
     subst g;have P:((x:Int) == (x:Int))=true:=by simp
     go_wp2_with fail;go_region
     all_goals
      go_wp2;go_roundw
      case rel=>exact⟨k+1,by omega,by go_num,by rw[t.o,u.o,F.o],f.o.drew⟩
      case measure=>simp[intOf];omega
    .
     have P:((x:Int) == (y:Int))=false:=by rw[beq_eq_false_iff_ne];omega
     have V:((x:Int) != (y:Int))=true:=by rw[bne_iff_ne];omega
     have c:O (decide (l=m)=false):=Hi (decide_eq_false (fun h=>by
      have d:=r.o;rw[h,s.o] at d
      exact g d.symm))
     go_wp2_with fail;go_region
     all_goals
      go_wp2;go_ret;exact⟨by rw[c.o];rfl,f.o.drew⟩
   .
    have v:k=l.length:=by omega
    subst v;have z:O (decide (l=m)=true):=Hi (decide_eq_true (by have:=F.o;rwa [List.take_length,List.take_of_length_le (by omega)] at this));go_wp2;go_ret;exact⟨by rw[z.o];rfl,f.o⟩
 .
  have K:((l.length:Int) != (m.length:Int))=true:=by rw[bne_iff_ne];omega
  have L:((l.length:Int) == (m.length:Int))=false:=by rw[beq_eq_false_iff_ne];omega
  have c:O (decide (l=m)=false):=Hi (decide_eq_false (fun h=>a (by rw[h])));go_enter func188,ntmps188;go_wp2;go_ret;exact⟨by rw[c.o];rfl,Below.refl _ _⟩
theorem Low.row{w:Vz}{b:Vx}{m d k:Nat}(h:Low w b m d k):∃L:Vy,L.length=m/\Row .u64 w b d L/\L.length<=1099511627776/\((L= []/\k=1)∨(1<k/\Num 18446744073709551616 L k)):=by
 rcases h with ⟨rfl,rfl,rfl,rfl⟩|⟨h,l,hl,a⟩
 . exact⟨[],rfl,Row.nil _ _,by simp,.inl ⟨rfl,rfl⟩⟩
 . exact⟨l,hl,a.row,a.short,.inr ⟨h,a.num⟩⟩
theorem Qiq{L M:Vy}{j k:Nat}(b:(L= []/\j=1)∨(1<j/\Num 18446744073709551616 L j))(c:(M= []/\k=1)∨(1<k/\Num 18446744073709551616 M k)):L=M↔j=k:=by
 rcases b with ⟨rfl,rfl⟩|⟨d,n1⟩<;>rcases c with ⟨rfl,rfl⟩|⟨e,a⟩
 . simp
 .
  constructor
  . rintro rfl;have:=a.eq;simp[val] at this;omega
  . intro h;omega
 .
  constructor
  . rintro rfl;have:=n1.eq;simp[val] at this;omega
  . intro h;omega
 .
  constructor
  . rintro rfl;rw[<-n1.eq,<-a.eq]
  . rintro rfl;exact n1.inj (by decide) a
theorem Qpe(p q:Rat):p=q↔(decide (p.num<0)=decide (q.num<0)/\p.num.natAbs=q.num.natAbs/\p.den=q.den):=by
 constructor
 . rintro rfl;exact⟨rfl,rfl,rfl⟩
 .
  rintro⟨a,b,c⟩;refine Rat.ext ?_ c;rw[<-Qbx p.num,<-Qbx q.num,a,b]
theorem Qpf(x y:Bool)(A bx B C:Vx)(lx D mx E ly F my G:Nat)(p q:Rat)(w:Vz)(Q:FracAt w x A lx D bx mx E p)(R:FracAt w y B ly F C my G q):
 Calls prog 158 #[.agg #[.bool x,.slice A lx D,.slice bx mx E],.agg #[.bool y,.slice B ly F,.slice C my G]] w fun e w'=>e=.returned (.bool (decide (p=q)))/\Below w.heap.size w w':=by
 obtain⟨S,rfl,z⟩:=Q.top;obtain⟨T,rfl,H⟩:=R.top;obtain⟨U,rfl,I,l,d⟩:=Q.low.row;obtain⟨V,rfl,J,m,f⟩:=R.low.row;have hT:decide (S=T)=decide (p.num.natAbs=q.num.natAbs):=by
  by_cases h:p.num.natAbs=q.num.natAbs
  . rw[decide_eq_true h];rw[h] at z;exact decide_eq_true (z.num.inj (by decide) H.num)
  . rw[decide_eq_false h];exact decide_eq_false (fun hc=>h (by rw[<-z.num.eq,<-H.num.eq,hc]))
 have hL:decide (U=V)=decide (p.den=q.den):=by
  by_cases h:p.den=q.den
  . rw[decide_eq_true h];exact decide_eq_true ((Qiq d f).2 h)
  . rw[decide_eq_false h];exact decide_eq_false (fun hc=>h ((Qiq d f).1 hc))
 have n:=Qpe p q;rw[<-Q.neg,<-R.neg] at n;obtain⟨W,g⟩:=nm ((w.alloc (.cells #[.bool x,.slice A S.length D,.slice bx U.length E] 141)).alloc (.cells #[.bool y,.slice B T.length F,.slice C V.length G] 141));have c:Bl w W:=by rw[<-g];exact Below.new2 w _ _
 have r:SB W (w.heap.size+1) 141 #[.bool y,.slice B T.length F,.slice C V.length G]:=by rw[<-g];exact SB.new2 w _ _ _ _
 have s:SB W w.heap.size 141 #[.bool x,.slice A S.length D,.slice bx U.length E]:=by rw[<-g];exact(SB.new w _ _).alloc _
 obtain⟨a,i⟩:=Ia (Qip A B D F S T W (z.row.below c) (H.row.below c) z.short H.short) (fun X hb=>Qip bx C E G U V X ((I.below c).below hb) ((J.below c).below hb) l m);rw[hT] at a;rw[hL] at i;obtain⟨x0,x1,-⟩:=zc s;obtain⟨y0,y1,-⟩:=zc r;obtain⟨K,L,t,u,j⟩:=Id s r c g n;have M:=c.size;clear Q R z H I l d J m f hT hL n c s r g;by_cases hn:x=y
 .
  subst hn;by_cases Y:p.num.natAbs=q.num.natAbs
  .
   rw[decide_eq_true Y] at a;go_enter func158,ntmps158;go_wp2_with fail;rw[u.o];go_fit a.o;rintro e X ⟨rfl,b⟩;have N:=Hi (i.o X b);obtain⟨-,-,x2,-⟩:=zc (K.o.below b K.o.lt);obtain⟨-,-,y2,-⟩:=zc (L.o.below b L.o.lt);have k:=Hi (t.o.trans (b.mono M));clear a i b;go_wp2_with fail;go_fit N.o;rintro e w2 ⟨rfl,P⟩;have aa:=Hi (k.o.trans (P.mono k.o.size));clear N P;go_wp2;go_ret;refine⟨?_,aa.o⟩;by_cases Z:p.den=q.den
   . rw[decide_eq_true Z,decide_eq_true (j.o.2 ⟨by trivial,Y,Z⟩)];rfl
   . rw[decide_eq_false Z,decide_eq_false (fun h=>Z (j.o.1 h).2.2)];rfl
  .
   rw[decide_eq_false Y] at a;have v:O (decide (p=q)=false):=Hi (decide_eq_false (fun h=>Y (j.o.1 h).2.1));go_enter func158,ntmps158;go_wp2_with fail;rw[u.o];go_fit a.o;rintro e X ⟨rfl,b⟩;have k:=Hi (t.o.trans (b.mono M));clear a i b;go_wp2;go_ret;exact⟨by rw[v.o];rfl,k.o⟩
 .
  have q0:(x == y)=false:=by simpa using hn
  have v:O (decide (p=q)=false):=Hi (decide_eq_false (fun h=>hn (j.o.1 h).1));clear a i;go_enter func158,ntmps158;go_wp2;go_ret;exact⟨by rw[v.o];rfl,by rw[u.o];exact t.o⟩
theorem Qpg{c d:Value}{p q:Rat}{w:Vz}(a:FracV w c p)(b:FracV w d q):Calls prog 158 #[c,d] w fun e w'=>e=.returned (.bool (decide (p=q)))/\Below w.heap.size w w':=by
 obtain⟨f,g,h,i,bx,j,k,rfl,a⟩:=a;obtain⟨l,m,n,o,r,s,t,rfl,b⟩:=b;exact Qpf f l g bx m r h i j k n o s t p q w a b
structure Glob (w:Vz):Prop where
 most:∃m,w.cell? ⟨4,0,none⟩=some (.int .i64 m)
 tab:Tab w
theorem Glob.below{w w':Vz}(h:Glob w)(a:Bl w w'):Glob w':=by
 obtain⟨m,b⟩:=h.most;exact⟨⟨m,ce a (World.block_lt_of_cell? _ _ b) b⟩,h.tab.below a⟩
structure FE where
 x:Value
 y:Value
 z:Value
 q:Rat
 k:Nat
structure FBag (w0 w:Vz) (L:List FE):Prop where
 base:Bl w0 w
 glob:Glob w0
 ts:∀t,t∈ L->FracV w (.agg #[t.x,t.y,t.z]) t.q/\Fits t.q t.k/\0<t.k
theorem FBag.start{w:Vz}(h:Glob w):FBag w w []:=⟨Below.refl _ _,h,fun t a=>by cases a⟩
theorem FBag.below{w0 w w':Vz}{L:List FE}(h:FBag w0 w L)(a:Bl w w'):FBag w0 w' L:=
 ⟨h.base.trans (a.mono h.base.size),h.glob,fun t b=>⟨(h.ts t b).1.below a,(h.ts t b).2⟩⟩
theorem FBag.drew{w0 w:Vz}{L:List FE}(h:FBag w0 w L):FBag w0 w.drew L:=h.below bR.drew
theorem FBag.globNow{w0 w:Vz}{L:List FE}(h:FBag w0 w L):Glob w:=h.glob.below h.base
theorem FBag.get{w0 w:Vz}{L:List FE}{x y z:Value}{q:Rat}{k:Nat}(h:FBag w0 w L)(a:⟨x,y,z,q,k⟩∈ L):FracV w (.agg #[x,y,z]) q/\Fits q k/\0<k:=h.ts _ a
theorem FBag.put{w0 w:Vz}{L:List FE}{x y z:Value}{q:Rat}{k:Nat}(h:FBag w0 w L)(b:FracV w (.agg #[x,y,z]) q)(c:Fits q k)(hk:0<k):FBag w0 w (⟨x,y,z,q,k⟩ :: L):=
 ⟨h.base,h.glob,fun t a=>by
   rcases List.mem_cons.1 a with rfl|a
   . exact⟨b,c,hk⟩
   . exact h.ts t a⟩
theorem FBag.only{w0 w w':Vz}{L:List FE}{g:Nat}{t:Vr}{C:Vw}(h:FBag w0 w L)(a:Only g w w')(hs:SB w g t C)(c:NoU64 C)(d:w0.heap.size<=g):FBag w0 w' L:=
 ⟨Only.fresh h.base a d,h.glob,fun t b=>⟨(h.ts t b).1.only a hs c,(h.ts t b).2⟩⟩
theorem FBag.from{w0 b w:Vz}{L M:List FE}(h:FBag b w L)(c:Bl w0 b)(d:Glob w0)(e:∀t,t∈ M->∃k,⟨t.x,t.y,t.z,t.q,k⟩∈ L/\k<=t.k):FBag w0 w M:=by
 refine⟨c.trans (h.base.mono c.size),d,fun t f=>?_⟩;obtain⟨k,hk,a⟩:=e t f;have:=h.ts _ hk;exact⟨this.1,this.2.1.mono a,Nat.lt_of_lt_of_le this.2.2 a⟩
def FNewB(w0:Vz)(L:List FE)(q:Rat)(k:Nat)(e:Ending)(w':Vz):Prop:=∃x y z,e=.returned (.agg #[x,y,z])/\FBag w0 w' (⟨x,y,z,q,k⟩ :: L)
theorem FBag.new{w0 w w':Vz}{L:List FE}{q:Rat}{k:Nat}{e:Ending}(h:FBag w0 w L)(f:FNew w q e w')(g:Fits q k)(hk:0<k):FNewB w0 L q k e w':=by
 obtain⟨⟨v,rfl,neg,a,n,c,b,m,d,rfl,i⟩,j⟩:=f;exact⟨_,_,_,rfl,(h.below j).put ⟨neg,a,n,c,b,m,d,rfl,i⟩ g hk⟩
theorem FBag.minus{w0 w:Vz}{L:List FE}{x1 x2 x3 y1 y2 y3:Value}{j k:Nat}{p q:Rat}(h:FBag w0 w L)(a:⟨x1,x2,x3,p,j⟩∈ L)(b:⟨y1,y2,y3,q,k⟩∈ L)(f:j+k<68719476000):
 Calls prog 101 #[.agg #[x1,x2,x3],.agg #[y1,y2,y3]] w (FNewB w0 L (p - q) (j+k+1)):=by
 obtain⟨a,c,i⟩:=h.get a;obtain⟨b,d,l⟩:=h.get b;exact(Qbj a b c d f).mono fun e w' g=>h.new g (c.sub d) (by omega)
theorem Fits.div{p q:Rat}{j k:Nat}(h:Fits p j)(b:Fits q k)(c:0<j)(hk:0<k):Fits (p / q) (j+k):=by
 by_cases a:q=0
 . rw[a,Rat.div_def,Rat.inv_zero,Rat.mul_zero];exact Fits.zero.mono (by omega)
 . rw[Rat.div_def];exact h.mul (b.inv a) c
theorem FBag.equal{w0 w:Vz}{L:List FE}{x1 x2 x3 y1 y2 y3:Value}{j k:Nat}{p q:Rat}(h:FBag w0 w L)(a:⟨x1,x2,x3,p,j⟩∈ L)(b:⟨y1,y2,y3,q,k⟩∈ L):
 Calls prog 158 #[.agg #[x1,x2,x3],.agg #[y1,y2,y3]] w (fun e w'=>e=.returned (.bool (decide (p=q)))/\FBag w0 w' L):=by
 obtain⟨a,d,f⟩:=h.get a;obtain⟨b,g,i⟩:=h.get b;refine(Qpg a b).mono ?_;rintro e w' ⟨rfl,c⟩;exact⟨rfl,h.below c⟩
theorem FBag.of{w0 w:Vz}{L:List FE}{n:Nat}(s:Vs)(h:FBag w0 w L)(hs:s.size<=n)(d:n<=1073741824):
 Calls prog 82 #[.string s] w (fun e w'=>∃q,QOf s.data.toList q/\FNewB w0 L q (4*n+1) e w'):=by
 obtain⟨m,b⟩:=h.globNow.most;refine(Qj9 s m w b (by omega)).mono ?_;rintro e w' ⟨q,a,c⟩;exact⟨q,a,h.new c (a.fits (by rw[Qag];exact hs)) (by omega)⟩
theorem Qih{C:Vw}(h:∀v,v∈ C.toList->∀n,v≠Value.int .u64 n):NoU64 C:=fun i n a=>h _ (by rw[<-Array.getElem?_toList] at a;exact mO a) n rfl
theorem Qao(P:Program){v:Value}(h:v.oneCell'=true):∀(a:Addr) (w:Vz),(store a v).run P w=stored P w a v .plain:=fun a w=>run_store P w a v .plain h
theorem FracV.one{w:Vz}{x y z:Value}{q:Rat}(h:FracV w (.agg #[x,y,z]) q):x.oneCell'=true/\y.oneCell'=true/\z.oneCell'=true:=by
 obtain⟨neg,a,n,c,b,m,d,e,_⟩:=h;simp at e;obtain⟨rfl,rfl,rfl⟩:=e;exact⟨rfl,rfl,rfl⟩
theorem FracV.no64{w:Vz}{x y z:Value}{q:Rat}(h:FracV w (.agg #[x,y,z]) q)(n:Int):x≠.int .u64 n/\y≠.int .u64 n/\z≠.int .u64 n:=by
 obtain⟨neg,a,m,c,b,k,d,e,_⟩:=h;simp at e;obtain⟨rfl,rfl,rfl⟩:=e;exact⟨by simp,by simp,by simp⟩
theorem Tryz.spotInfo:(prog.info? 56).map (·.size)=some 2:=by kernel_rfl
section
open Go
section
variable {P:Program} {ops:Array Oper} {Q:Exit->Act->World->Prop} {md:Region.Mode} {S:World->Prop} {k:Nat}
def AnyBut(P:Program)(md:Region.Mode)(ops:Array Oper)(Q:Exit->Act->World->Prop)(S:World->Prop)(k:Nat):Nat->Array Bool->Act->World->Prop
 |0,listed,a,w=>Region.ready md ops listed= []/\Q .normal a w
 |fuel+1,listed,a,w=>(Region.ready md ops listed= []->Q .normal a w)/\∀i∈ Region.ready md ops listed,wpOp P ops Q i (fun a' w'=>(i≠k->S w')/\AnyBut P md ops Q S k fuel (listed.setIfInBounds i true) a' w') a w
theorem AnyBut.any:∀(b:Nat) (c:Array Bool) (a:Act) (w:Vz),AnyBut P md ops Q S k b c a w->wpAny P md ops Q b c a w
 |0,_,_,_,h=>h
 |b+1,_,_,_,h=>⟨h.1,fun i d=>wpOp_mono (fun e w' f=>AnyBut.any b _ e w' f.2) (h.2 i d)⟩
def waits(md:Region.Mode)(ops:Array Oper)(k i:Nat):Bool:=match ops[k]? with
 |some o=>o.after.any (fun e=>Region.binds md e && (e.on == i))
 |none=>false
theorem Qdh{i:Nat}(h:waits md ops k i=true){o:Oper}(b:ops[k]?=some o):¬∀e∈ o.after,Region.binds md e=true->e.on≠i:=by
 unfold waits at h;rw[b] at h;simp only[Array.any_eq_true] at h;obtain⟨j,c,a⟩:=h;simp only[Bool.and_eq_true,beq_iff_eq] at a;intro d;exact d _ (Array.getElem_mem c) a.1 a.2
theorem AnyBut.first{i:Nat}{t:Oper}{v:Value}(J:ops[i]?=some t)(q:∀(j:Nat) (o:Oper) z b,ops[j]?=some o->o.op≠.select z b)
 (T:∀c a w,Q (.panic c) (a.put t.dst v) w->Q (.panic c) a w) (hk:waits md ops k i=true):
 ∀(f:Nat) (d:Array Bool) (a:Act) (w:Vz),
  (∀j u,ops[j]?=some u->j≠i->d.getD j true=false->(∀e∈ u.after,Region.binds md e=true->e.on≠i)->t.apart ops u=true)->
  i∈ Region.ready md ops d->YieldsIf P ops S t v a->S w->
  AnyBut P md ops Q S k f (d.setIfInBounds i true) (a.put t.dst v) w->AnyBut P md ops Q S k (f+1) d a w:=by
 intro f
 induction f with
 |zero=>
  intro d a w _ x F A H;refine⟨fun h=>(by rw[h] at x;cases x),fun j G=>?_⟩;by_cases g:j=i
  . subst g;exact F.wpOp J A ⟨fun _=>A,H⟩
  .
   have:=ready_mono G g;rw[H.1] at this;cases this
 |succ f U=>
  intro d a w l x F A H;refine⟨fun h=>(by rw[h] at x;cases x),fun j G=>?_⟩;by_cases g:j=i
  . subst g;exact F.wpOp J A ⟨fun _=>A,H⟩
  .
   have y:=H.2 j (ready_mono G g);obtain⟨r,u,n,B⟩:=mem_ready.1 G;have s:∀e∈ u.after,Region.binds md e=true->e.on≠i:=fun e V W K=>by
    have y:=B e V W;have R:=(mem_ready.1 x).1;rw[K] at y;rcases Nat.lt_or_ge i d.size with L|L
    . simp[L] at R y;rw[R] at y;cases y
    . simp[Array.getElem?_eq_none L] at y
   have M:j≠k:=fun e=>Qdh hk (by rw[<-e];exact n) s
   have X:=wpOp_putIf n (l j u n g r s) (fun z b=>q i t z b J) (fun z b=>q j u z b n) T F y;have p:∀m C,ops[m]?=some C->m≠i->(d.setIfInBounds j true).getD m true=false->
    (∀e∈ C.after,Region.binds md e=true->e.on≠i)->t.apart ops C=true:=fun m C Y N D O=>by
    refine l m C Y N ?_ O;by_cases E:j=m
    . subst E;exact r
    . rw[_root_.Go.getD_set_ne true E] at D;exact D
   refine wpOp_mono (fun Z w' I=>⟨I.2.1,U (d.setIfInBounds j true) Z w' p (ready_mono x (Ne.symm g)) I.1 (I.2.1 M) ?_⟩) X;rw[Array.setIfInBounds_comm _ _ g];exact I.2.2
theorem AnyBut.take{i:Nat}{e:Oper}{v:Value}{d:Nat}{b:Array Bool}{a:Act}{w:Vz}(f:ops[i]?=some e)
 (hs:Region.noSelect ops=true) (g:Region.free md ops b i=true) (j:(Region.ready md ops b).contains i=true) (hk:waits md ops k i=true)
 (l:∀c a w,Q (.panic c) (a.put e.dst v) w->Q (.panic c) a w) (m:YieldsIf P ops S e v a) (n:S w)
 (h:AnyBut P md ops Q S k d (b.setIfInBounds i true) (a.put e.dst v) w):AnyBut P md ops Q S k (d+1) b a w:=
 AnyBut.first f (Region.noSelect_spec hs) l hk d b a w (Region.free_spec f g) (by simpa using j) m n h
theorem AnyBut.one{i:Nat}{o:Oper}{c:Nat}{b:Array Bool}{a:Act}{w:Vz}(d:Region.ready md ops b= [i])(g:ops[i]?=some o)
 (h:∀K':Act->World->Prop,Shut (∀a w,(i≠k->S w)->AnyBut P md ops Q S k c (b.setIfInBounds i true) a w->K' a w)->if Region.wanted o (yielded ops a.tmps)=true then Oper.wp P o a w K' Q else K' (a.put o.dst undef) w):AnyBut P md ops Q S k (c+1) b a w:=by
 refine⟨(fun e=>by rw[d] at e;cases e),fun j f=>?_⟩;rw[d] at f;obtain rfl:=List.mem_singleton.1 f;exact wpOp_step g (fun K' l=>h K' (fun a w m n=>l a w ⟨m,n⟩))
theorem AnyBut.done{b:Array Bool}{a:Act}{w:Vz}(d:Region.ready md ops b= [])(h:Q .normal a w):∀c,AnyBut P md ops Q S k c b a w
 |0=>⟨d,h⟩
 |_+1=>⟨fun _=>h,by rw[d];simp⟩
theorem AnyBut.begin{id:Nat}{a:Act}{w:Vz}(b:P.follows .mixedOrders=true)
 (h:AnyBut P .any ops Q S k ops.size (Array.replicate ops.size false) a w.drew):(Code.region id ops true).wp P Q a w:=
 wp_region_any b (AnyBut.any _ _ _ _ h)
end
end
theorem Qdl(s t:Vs)(w:Vz):Calls prog 29 #[.string s,.string t] w fun e w'=>e=.returned (.agg #[.string s,.string t])/\Below w.heap.size w w':=by
 have a:=Hi ((Below.refl w.heap.size w).alloc lZ (.cells #[.string s,.string t] 56));go_enter func29,ntmps29;go_wp2;refine bodyPost_ret (results_cell_row rfl _ _ w.heap.size 56 #[.string s,.string t] (0,0) _ rfl (SB.new w _ _) underlying56 rfl Tryz.spotInfo) rfl ?_;exact⟨rfl,a.o⟩
theorem Qco:prog.cellsOf 54=1:=by kernel_rfl
theorem Qgv:prog.cellsOf 56=2:=by kernel_rfl
section
variable {H:Type} {enc:TypeId × Value->H} {P:Program} {w:Vz} {base:Nat} {spare:Nat->Bool} {held:Bool} {fuel:Nat} {cs:Vv} {x:DataW H × List MemPlace} {tF tS tQ:Vr} {f0 f1 g0 g1:Field}
theorem Qky(g:P.underlying tS=some (.struct #[f0,f1]))(e:P.underlying tQ=some .string)(i:P.cellsOf tS=2)(f:P.cellsOf tQ=1)(t0:f0.type=tQ)(t1:f1.type=tQ)(j:f0.offset=0)(k:f1.offset=1)
 (h:DataW.trod enc P w base spare held fuel tS cs=some x):
 ∃s t:Vs,cs= [.string s,.string t]/\x.1=.agg [.lit (.string s.data.toList),.lit (.string t.data.toList)]/\x.2= []:=by
 obtain⟨xs,n,rfl,rfl,hl,a,b⟩:=DataW.trod_struct g h;rw[i] at hl;clear h;have c:=b 0 f0 rfl;have d:=b 1 f1 rfl;rw[t0,j,f] at c;rw[t1,k,f] at d;clear b
 match cs,hl,xs,a with
 | [v0,v1],_,[y0,y1],_=>
   simp only[List.drop_zero,List.drop_succ_cons,List.take_succ_cons,List.take_zero,List.getElem?_cons_zero,List.getElem?_cons_succ] at c d;obtain⟨s,l,rfl,_⟩:=DataW.trod_string e c;obtain⟨t,m,rfl,_⟩:=DataW.trod_string e d;obtain rfl:v0=_:=by simpa using l
   obtain rfl:v1=_:=by simpa using m
   exact⟨s,t,rfl,rfl,rfl⟩
end
section
open Go.ChangeShapes Go.WideShapes Go.ChangeAt Go.RowKit
theorem own:ownKnob prog.godebug=none:=by kernel_rfl
theorem Qun:laidOutB prog=true:=by kernel_rfl
theorem Qgy{H:Type}{d:DataW H}{l:List (DataW H)}(h:d∈ l):Rows.uptoBulk d<=Rows.uptoBulkAll l:=by
 induction l with
 |nil=>cases h
 |cons x r a=>
  simp only[Rows.uptoBulkAll];rcases List.mem_cons.1 h with rfl|h
  . omega
  . have:=a h;omega
theorem Quo{H:Type}(l r:List (DataW H)):Rows.uptoBulkAll l<=Rows.uptoBulk (.slice l r):=by
 simp only[Rows.uptoBulk];omega
theorem Qbd{P:Program}{W:Vz}{x:String × DataW Unit}{l:List (String × DataW Unit)}(h:laidMet P (x :: l) W):laidMet P l W:=by
 obtain⟨i,⟨g,t,j,c,p,q,_,_,_,_,hl,rfl⟩,d,e⟩:=h;exact⟨q,hl,(List.nodup_append.1 d).2.1,fun b a f=>e b a (List.mem_append.2 (.inr f))⟩
theorem gTen:prog.globalNamed "internal/strconv.uint64pow10" =some 9:=by kernel_rfl
theorem Qup:(prog.globals[9]?).map (·.type)=some 276:=by kernel_rfl
theorem Quq:prog.cellsOf 276=20:=by kernel_rfl
theorem Qur:prog.cellsOf 170=1:=by kernel_rfl
theorem Qus:(Rows.laid_internal_strconv_uint64pow10:DataW Unit)=Lib.tabData .u64 Lib.pow10Tab:=by kernel_rfl
theorem Qut{W:Vz}{rest:List (String × DataW Unit)}(h:laidMet prog (("internal/strconv.uint64pow10",Rows.laid_internal_strconv_uint64pow10) :: rest) W):Tab W:=by
 rw[Qus] at h;exact Lib.tabIs_of_head gTen Qup underlying276 underlying170 Qur Quq h
theorem Quu{W:Vz}(h:W.ShapedOpen prog):∃m,W.cell? ⟨4,0,none⟩=some (.int .i64 m):=
 cell_of_shapedOpen_int (zero:=#[.int .i64 0]) (t:=3) h (of_decide_eq_true (by kernel_rfl)) (by kernel_rfl) rfl (by kernel_rfl) (by kernel_rfl) underlying3
def flat1:DataW Unit->List Value
 | .lit (.int k z)=>[.int k z]
 | .lit (.string bs)=>[.string ⟨bs.toArray⟩]
 |_=>[]
def flat2:DataW Unit->List Value
 | .agg ps=>ps.flatMap flat1
 |d=>flat1 d
def flat3:DataW Unit->List Value
 | .agg ps=>ps.flatMap flat2
 |d=>flat1 d
def put(g:Nat)(d:DataW Unit)(w:Vz):World:={ w with heap:=w.heap.modify g fun
 | .cells _ t frozen=>.cells (flat3 d).toArray t frozen
 |o=>o }
end
structure CRow (w:Vz) (a:Vx) (xs:Vv):Prop where
 cell:∀j u,xs[j]?=some u->∃b off,a=some ⟨b,off,none⟩/\b<w.heap.size/\w.cell? ⟨b,off+j,none⟩=some u
theorem CRow.below{w w':Vz}{a:Vx}{xs:Vv}(h:CRow w a xs)(d:Bl w w'):CRow w' a xs:=by
 refine⟨fun j u f=>?_⟩;obtain⟨b,c,g,k,l⟩:=h.cell j u f;exact⟨b,c,g,by have:=d.size;omega,ce d k l⟩
section
variable {P:Program} {t e:Vr} {i:TypeInfo} {size:Nat}
theorem Qja(b a j:Nat):Addr.add ⟨b,a,none⟩ j=⟨b,a+j,none⟩:=by
 unfold Addr.add;by_cases c:j=0<;>simp[c]
theorem Qp8(p:P.underlying t=some (.slice e))(s:P.info? e=some i)(k:i.size=size)(x:0<size){w:Vz}{g c d n cap:Nat}{a:Vx}{xs:Vv}
 (f:w.ownsRow d e size (.slice (some ⟨g,0,none⟩) 0 c) 0 []) (v:CRow w a xs) (hl:xs.length=n*size) (y:∀u∈ xs,u.oneCell'=true) (q:n<=c) (ty:Vr):
 ∃w',(Builtin.append_ #[t,t] ty #[.slice (some ⟨g,0,none⟩) 0 c,.slice a n cap]).run P w=.ok (.slice (some ⟨g,0,none⟩) n c) w'/\w'.ownsRow d e size (.slice (some ⟨g,0,none⟩) n c) n xs/\w.grownBy w' (some g):=by
 cases a with
 |none=>
  have o:xs= []:=by
   cases xs with
   |nil=>rfl
   |cons u l=>
    obtain⟨b,r,h,_⟩:=v.cell 0 u rfl;cases h
  subst o;have z:n=0:=by
   rcases Nat.eq_zero_or_pos n with h|h
   . exact h
   .
    have:=Nat.mul_pos h x;simp at hl;omega
  subst z;have hs:Src P i.size t (.slice none 0 cap) 0 [] w:=Src.ofNil w p cap;exact⟨w,run_append_nothing w t t ty e i p s _ 0 c (Nat.zero_le _) _ hs,f,⟨rfl,rfl,rfl,Nat.le_refl _,fun _ _ _=>rfl⟩⟩
 |some ad=>
  have m:∀j u,xs[j]?=some u->w.cell? (ad.add j)=some u:=by
   intro j u A;obtain⟨b,r,h,_,B⟩:=v.cell j u A;cases h;rw[Qja];exact B
  have:=run_append_fits w d t ty e i size p s k g 0 c [] f ad n cap xs hl m y (by omega)
  simpa using this
theorem Qa4{b:Array Oper}{o:Oper}{a:Act}{w:Vz}{K:Act->World->Prop}{Q:Exit->Act->World->Prop}{E:Prop}
 (f:o.guard=none) (s x:Operand) (d:o.op=Op.call { callee:=Callee.builtin Builtin.append,args:=#[s,x],argTypes:=#[t,t] })
 {vs vx v:Value} {w':Vz} (hs:a.eval s=vs) (g:a.eval x=vx) (c:(Builtin.append_ #[t,t] o.type #[vs,vx]).run P w=.ok v w') (h:K (a.put o.dst v) w'):
 if Region.wanted o (yielded b a.tmps)=true then Oper.wp P o a w K Q else E:=by
 have j:Region.wanted o (yielded b a.tmps)=true:=by simp[Region.wanted,f]
 rw[if_pos j];unfold Oper.wp;simp[execOp,d,resolve,invoke,builtin,hs,g,c,Result.andThen];exact h
theorem Qba(p:P.underlying t=some (.slice e))(q:P.info? e=some i)(d:i.size=size)(r:0<size){k:Array Oper}{o:Oper}{a:Act}{w:Vz}{K:Act->World->Prop}{Q:Exit->Act->World->Prop}{E:Prop}
 (v:o.guard=none) (s x:Operand) (l:o.op=Op.call { callee:=Callee.builtin Builtin.append,args:=#[s,x],argTypes:=#[t,t] })
 {g c n cap:Nat} (b:Nat) {m:Vx} {xs:Vv} (hs:a.eval s=.slice (some ⟨g,0,none⟩) 0 c) (y:a.eval x=.slice m n cap)
 (h:w.ownsRow b e size (.slice (some ⟨g,0,none⟩) 0 c) 0 []) (z:CRow w m xs) (hl:xs.length=n*size) (A:∀u∈ xs,u.oneCell'=true) (f:n<=c)
 (B:∀w',w'.ownsRow b e size (.slice (some ⟨g,0,none⟩) n c) n xs->w.grownBy w' (some g)->K (a.put o.dst (.slice (some ⟨g,0,none⟩) n c)) w'):
 if Region.wanted o (yielded k a.tmps)=true then Oper.wp P o a w K Q else E:=by
 obtain⟨w',j,C,D⟩:=Qp8 p q d r (cap:=cap) h z hl A f o.type;exact Qa4 v s x l hs y j (B w' C D)
theorem Qcf(r:P.underlying t=some (.slice e))(v:P.info? e=some i)(d:i.size=size){l:Array Oper}{o:Oper}{a:Act}{w:Vz}{K:Act->World->Prop}{Q:Exit->Act->World->Prop}{E:Prop}
 (y:o.guard=none) (s x:Operand) (p:o.op=Op.call { callee:=Callee.builtin Builtin.append,args:=#[s,x],argTypes:=#[t,t] })
 {g c n m cap q:Nat} (b:Nat) {xs news:Vv} (hs:a.eval s=.slice (some ⟨g,0,none⟩) n c) (z:a.eval x=.slice (some ⟨q,0,none⟩) m cap)
 (h:w.ownsRow b e size (.slice (some ⟨g,0,none⟩) n c) n xs) (hl:news.length=m*size) (A:∀j u,news[j]?=some u->w.cell? ⟨q,j,none⟩=some u) (B:∀u∈ news,u.oneCell'=true) (f:n+m<=c)
 (C:∀w',w'.ownsRow b e size (.slice (some ⟨g,0,none⟩) (n+m) c) (n+m) (xs++news)->w.grownBy w' (some g)->K (a.put o.dst (.slice (some ⟨g,0,none⟩) (n+m) c)) w'):
 if Region.wanted o (yielded l a.tmps)=true then Oper.wp P o a w K Q else E:=by
 obtain⟨w',k,D,F⟩:=run_append_fits w b t o.type e i size r v d g n c xs h ⟨q,0,none⟩ m cap news hl (fun j u G=>by rw[Qja];simpa using A j u G) B f;exact Qa4 y s x p hs z k (C w' D F)
end
theorem Below.ofGrown{B:Nat}{a w w':Vz}{g:Nat}(h:Below B a w)(b:w.grownBy w' (some g))(hB:B<=w.heap.size)(c:B<=g):Below B a w':=
 h.grown b hB (fun k hk=>by cases hk;exact c)
theorem Qcg{w w':Vz}{g:Nat}(b:w.grownBy w' (some g)){p:Addr}(c:p.block<w.heap.size)(a:p.block≠g):w'.cell? p=w.cell? p:=
 World.cell?_of_block (b.block p.block c (by simpa using a))
theorem Qf0{w:Vz}{a e size g n c:Nat}{xs:Vv}(h:w.ownsRow a e size (.slice (some ⟨g,0,none⟩) n c) n xs):CRow w (some ⟨g,0,none⟩) xs:=by
 refine⟨fun j u b=>⟨g,0,rfl,(h.lt g rfl).2,?_⟩⟩;have hl:=h.1;have d:=(gZ b).1;rw[Nat.zero_add,h.cellAt j (by omega)];exact b
theorem CRow.left{w:Vz}{a:Vx}{xs c:Vv}(h:CRow w a (xs++c)):CRow w a xs:=by
 refine⟨fun j u b=>h.cell j u ?_⟩;rw[List.getElem?_append_left (gZ b).1];exact b
structure S2 where
 x:ByteArray
 y:ByteArray
structure B6 where
 a:Int
 b:Int
 c:ByteArray
 e:ByteArray
 l:ByteArray
 m:ByteArray
structure H3 where
 j:Int
 w:Int
 q:ByteArray
structure L3 where
 j:Int
 x:ByteArray
 y:ByteArray
def S2.cells(s:S2):List Value:=[.string s.x,.string s.y]
def B6.cells(s:B6):List Value:=[.int .i64 s.a,.int .i64 s.b,.string s.c,.string s.e,.string s.l,.string s.m]
def H3.cells(s:H3):List Value:=[.int .i64 s.j,.int .i64 s.w,.string s.q]
def L3.cells(s:L3):List Value:=[.int .i64 s.j,.string s.x,.string s.y]
theorem S2.one(s:S2):∀u∈ s.cells,u.oneCell'=true:=by simp[S2.cells,Value.oneCell']
theorem B6.one(s:B6):∀u∈ s.cells,u.oneCell'=true:=by simp[B6.cells,Value.oneCell']
theorem H3.one(s:H3):∀u∈ s.cells,u.oneCell'=true:=by simp[H3.cells,Value.oneCell']
structure ARow {α:Type} (c:α->List Value) (w:Vz) (a:Vx) (cap:Nat) (es:List α):Prop where
 fit:es.length<=cap
 row:CRow w a (es.flatMap c)
section
variable {α:Type} {c:α->List Value} {sz:Nat}
theorem ARow.below{w w':Vz}{a:Vx}{cap:Nat}{b:List α}(h:ARow c w a cap b)(d:Bl w w'):ARow c w' a cap b:=⟨h.fit,h.row.below d⟩
theorem ARow.left{w:Vz}{a:Vx}{cap:Nat}{b d:List α}(h:ARow c w a cap (b++d)):ARow c w a cap b:=by
 refine⟨?_,?_⟩
 .
  have:=h.fit;simp at this;omega
 .
  have:=h.row;rw[List.flatMap_append] at this;exact this.left
theorem Qa9(b:∀e,(c e).length=sz)(a:List α):(a.flatMap c).length=a.length*sz:=by
 induction a with
 |nil=>simp
 |cons e l d=>rw[List.flatMap_cons,List.length_append,d,b,List.length_cons,Nat.succ_mul];omega
theorem Qfo(a:∀e,∀u∈ c e,u.oneCell'=true)(b:List α):∀u∈ b.flatMap c,u.oneCell'=true:=by
 intro u d;obtain⟨e,_,h⟩:=List.mem_flatMap.1 d;exact a e u h
theorem Qcb(a:∀e,(c e).length=sz):∀(b:List α) (i:Nat) (e:α) (j:Nat) (u:Value),b[i]?=some e->(c e)[j]?=some u->(b.flatMap c)[i*sz+j]?=some u
 | [],i,e,j,u,h,_=>by simp at h
 |g :: l,0,e,j,u,h,hj=>by
  obtain rfl:g=e:=by simpa using h
  rw[List.flatMap_cons,Nat.zero_mul,Nat.zero_add,List.getElem?_append_left (gZ hj).1];exact hj
 |g :: l,i+1,e,j,u,h,hj=>by
  have:=Qcb a l i e j u (by simpa using h) hj;rw[List.flatMap_cons,List.getElem?_append_right (by rw[a,Nat.succ_mul];omega),a,show (i+1)*sz+j - sz=i*sz+j by rw[Nat.succ_mul];omega];exact this
theorem ARow.at(l:∀e,(c e).length=sz)(p:0<sz){w:Vz}{a:Vx}{cap:Nat}{k:List α}(h:ARow c w a cap k){i:Nat}{e:α}(m:k[i]?=some e):
 ∃b d,a=some ⟨b,d,none⟩/\b<w.heap.size/\∀j u,(c e)[j]?=some u->w.cell? ⟨b,d+i*sz+j,none⟩=some u:=by
 have q:∃u,(c e)[0]?=some u:=⟨_,gE (by rw[l];exact p)⟩;obtain⟨u,r⟩:=q;obtain⟨b,d,n,s,_⟩:=h.row.cell _ _ (Qcb l k i e 0 u m r);refine⟨b,d,n,s,fun j v t=>?_⟩;obtain⟨x,o,g,_,f⟩:=h.row.cell _ _ (Qcb l k i e j v m t);rw[n] at g;cases g;rw[Nat.add_assoc];exact f
end
theorem ARow.spot{w:Vz}{a:Vx}{cap:Nat}{f:List S2}(h:ARow S2.cells w a cap f){i:Nat}{e:S2}(j:f[i]?=some e):
 ∃b d,a=some ⟨b,d,none⟩/\b<w.heap.size/\w.cell? ⟨b,d+i*2,none⟩=some (.string e.x)/\w.cell? ⟨b,d+i*2+1,none⟩=some (.string e.y):=by
 obtain⟨b,d,k,l,g⟩:=h.at (sz:=2) (fun _=>rfl) (by decide) j;exact⟨b,d,k,l,g 0 _ rfl,g 1 _ rfl⟩
theorem ARow.bar{w:Vz}{a:Vx}{cap:Nat}{g:List B6}(h:ARow B6.cells w a cap g){i:Nat}{e:B6}(j:g[i]?=some e):
 ∃b d,a=some ⟨b,d,none⟩/\b<w.heap.size/\w.cell? ⟨b,d+i*6,none⟩=some (.int .i64 e.a)/\w.cell? ⟨b,d+i*6+1,none⟩=some (.int .i64 e.b)/\w.cell? ⟨b,d+i*6+2,none⟩=some (.string e.c)/\w.cell? ⟨b,d+i*6+3,none⟩=some (.string e.e)/\w.cell? ⟨b,d+i*6+4,none⟩=some (.string e.l)/\w.cell? ⟨b,d+i*6+5,none⟩=some (.string e.m):=by
 obtain⟨b,d,k,n,f⟩:=h.at (sz:=6) (fun _=>rfl) (by decide) j;exact⟨b,d,k,n,f 0 _ rfl,f 1 _ rfl,f 2 _ rfl,f 3 _ rfl,f 4 _ rfl,f 5 _ rfl⟩
theorem ARow.hold{w:Vz}{a:Vx}{cap:Nat}{g:List H3}(h:ARow H3.cells w a cap g){i:Nat}{e:H3}(k:g[i]?=some e):
 ∃b d,a=some ⟨b,d,none⟩/\b<w.heap.size/\w.cell? ⟨b,d+i*3,none⟩=some (.int .i64 e.j)/\w.cell? ⟨b,d+i*3+1,none⟩=some (.int .i64 e.w)/\w.cell? ⟨b,d+i*3+2,none⟩=some (.string e.q):=by
 obtain⟨b,d,l,m,f⟩:=h.at (sz:=3) (fun _=>rfl) (by decide) k;exact⟨b,d,l,m,f 0 _ rfl,f 1 _ rfl,f 2 _ rfl⟩
theorem ARow.load{w:Vz}{a:Vx}{cap:Nat}{g:List L3}(h:ARow L3.cells w a cap g){i:Nat}{e:L3}(k:g[i]?=some e):
 ∃b d,a=some ⟨b,d,none⟩/\b<w.heap.size/\w.cell? ⟨b,d+i*3,none⟩=some (.int .i64 e.j)/\w.cell? ⟨b,d+i*3+1,none⟩=some (.string e.x)/\w.cell? ⟨b,d+i*3+2,none⟩=some (.string e.y):=by
 obtain⟨b,d,l,m,f⟩:=h.at (sz:=3) (fun _=>rfl) (by decide) k;exact⟨b,d,l,m,f 0 _ rfl,f 1 _ rfl,f 2 _ rfl⟩
theorem Qjb:(prog.info? 56).map (fun i=>(i.zero,i.size,i.bytes))=some (some (.agg #[.string ⟨#[]⟩,.string ⟨#[]⟩]),2,32):=by kernel_rfl
theorem Qp9(n:Nat)(f:n<=1048576):∃a:Vw,a.size=(n+3)*2/\∀w,(Instr.makeSlice 22 (.int .i64 0) (.int .i64 (IntKind.i64.wrap ((n:Int)+3)))).run prog w=.ok (.slice (some ⟨w.heap.size,0,none⟩) 0 (n+3)) (w.alloc (.cells a 56)):=by
 obtain⟨i,b,h⟩:=Option.map_eq_some_iff.1 Qjb;simp only[Prod.mk.injEq] at h;obtain⟨c,hs,d⟩:=h;refine⟨madeCells (Value.cells (.agg #[.string ⟨#[]⟩,.string ⟨#[]⟩])) ((n+3)*2),size_madeCells _ _,fun w=>?_⟩;have:=run_make w 22 56 i _ underlying22 b c .i64 .i64 0 ((n:Int)+3) (by omega) (by omega) (by rw[d];omega) (by omega);have e:((n:Int)+3).toNat=n+3:=by omega
 rw[e,hs] at this;rw[show IntKind.i64.wrap ((n:Int)+3)=(n:Int)+3 by rw[IntKind.wrap_i64];omega];exact this
theorem Qqa(a:Vx)(cap:Nat)(t:List S2)(d:Vs)(f:Vs)(w:Vz)(hf:ARow S2.cells w a cap t)(hn:t.length<=1048576):
 Calls prog 30 #[.slice a t.length cap,.agg #[.string d,.string f]] w fun e w'=>∃g,w.heap.size<=g/\e=.returned (.slice (some ⟨g,0,none⟩) t.length (t.length+3))/\ARow S2.cells w' (some ⟨g,0,none⟩) (t.length+3) (t++ [⟨d,f⟩,⟨d,f⟩,⟨d,f⟩])/\Below w.heap.size w w':=by
 have HC:=Hi hf.row;obtain⟨G,M,ak⟩:=Qp9 t.length hn;have ad:=Hi M;obtain⟨i,hi,h⟩:=Option.map_eq_some_iff.1 Qjb;simp only[Prod.mk.injEq] at h;obtain⟨hz,hs,hb⟩:=h;obtain⟨N,P,A,B⟩:=Ic hi hs (Qa9 (c:=S2.cells) (sz:=2) (fun _=>rfl) t) (Qfo S2.one t);obtain⟨xs,H⟩:=nm (t.flatMap S2.cells);rw[H] at HC A B;have ae:=Hi H;clear hz hb hi hs M hf H;go_enter func30,ntmps30;go_wp2_with fail;obtain⟨W,hW⟩:=nm (w.alloc (.cells #[.string d,.string f] 56));have x:=Ua hW;have C:SB W w.heap.size 56 #[.string d,.string f]:=by rw[<-hW];exact SB.new w _ _
 rw[hW];have al:=C.lt;obtain⟨Q,c1,-⟩:=zc C;have r:=Hi C;clear C hW;obtain⟨E,y⟩:∃E:Vv,E= [.string d,.string f,.string d,.string f,.string d,.string f]:=⟨_,rfl⟩;have af:=Hi y;have I:∀(X:Vz) (j:Nat) (u:Value),E[j]?=some u->(X.alloc (.cells #[.string d,.string f,.string d,.string f,.string d,.string f] 56)).cell? ⟨X.heap.size,j,none⟩=some u:=by
  intro X j u F;rw[(SB.new X 56 #[.string d,.string f,.string d,.string f,.string d,.string f]).cell j];rw[y] at F
  simpa using F
 have R:=Hi I;have S:O (E.length=3*2):=Hi (by rw[y];rfl);have T:O (∀u∈ E,u.oneCell'=true):=Hi (by rw[y];simp[Value.oneCell']);have J:=Hi (HC.o.below x.o);have z:∀X:Vz,W.heap.size<=X.heap.size->(X.alloc (.cells G 56)).ownsRow W.heap.size 56 2 (.slice (some ⟨X.heap.size,0,none⟩) 0 (t.length+3)) 0 []:=fun X hX=>World.ownsRow_made X G (t.length+3) hX (by unfold maxLen;omega) ad.o
 have U:=Hi z;have K:O (Bl W (W.alloc (.cells G 56)).drew):=Hi (bR.alloc lZ _).drew;have V:O (Bl W ((W.alloc (.cells #[.string d,.string f,.string d,.string f,.string d,.string f] 56)).alloc (.cells G 56)).drew):=Hi (((bR.alloc lZ _).alloc (by simp) _).drew);have ag:O (((W.alloc (.cells #[.string d,.string f,.string d,.string f,.string d,.string f] 56)).alloc (.cells G 56)).drew.ownsRow W.heap.size 56 2 (.slice (some ⟨W.heap.size+1,0,none⟩) 0 (t.length+3)) 0 []):=Hi (by
  have:=z (W.alloc (.cells #[.string d,.string f,.string d,.string f,.string d,.string f] 56)) (by simp);simp only[World.size_alloc] at this
  exact this)
 have ah:=Hi (J.o.below V.o);have ai:=Hi (fun j u F=>by
  have h1:=I W j u F;have h2:Below (W.alloc (.cells #[.string d,.string f,.string d,.string f,.string d,.string f] 56)).heap.size _ _:=(Below.refl _ (W.alloc (.cells #[.string d,.string f,.string d,.string f,.string d,.string f] 56))).alloc lZ (.cells G 56)
  exact ce h2.drew (by simp) h1)
 clear y I z;go_region_held3 (fun w'=>w'.cell? ⟨w.heap.size,0,none⟩=some (.string d)/\w'.cell? ⟨w.heap.size,1,none⟩=some (.string f)) ((first|(simp [*];done)|go_keep)) (first
  |(
   refine Qba underlying22 N.o P.o (by decide) rfl (.tmp 9) (.tmp 10) rfl W.heap.size (xs:=xs) rfl rfl (U.o W lZ) (J.o.below K.o) A.o B.o (by omega) ?_;intro L k b;have D:=Hi k;have Y:W.heap.size<L.heap.size:=by have:=b.size;simp at this;omega
   have s:=Hi (Below.ofGrown K.o b K.o.size lZ);obtain⟨Q,c1,-⟩:=zc (r.o.below s.o r.o.lt)
   clear k b)
  |(
   refine Qcf underlying22 N.o P.o rfl (.tmp 11) (.tmp 15) rfl W.heap.size (xs:=xs) (news:=E) (n:=t.length) (m:=3) rfl rfl (D.o.alloc _) S.o (R.o L) T.o lZ ?_;intro w2 l q;have Z:=Hi l;have aj:L.heap.size<w2.heap.size:=by have:=q.size;simp at this;omega
   have v:=Below.ofGrown (s.o.alloc s.o.size _) q (by have:=s.o.size;simp;omega) lZ;obtain⟨Q,c1,-⟩:=zc (r.o.below v r.o.lt);have aa:=Hi (x.o.trans (v.mono x.o.size))
   clear l q v)
  |(
   refine Qba underlying22 N.o P.o (by decide) rfl (.tmp 9) (.tmp 10) rfl W.heap.size (xs:=xs) rfl rfl ((U.o W lZ).alloc (.cells #[.string d,.string f,.string d,.string f,.string d,.string f] 56)) (J.o.below (K.o.alloc K.o.size _)) A.o B.o (by omega) ?_;intro L k b;have D:=Hi k;have Y:W.heap.size<L.heap.size:=by have:=b.size;simp at this;omega
   have s:=Hi (Below.ofGrown (K.o.alloc K.o.size _) b (by simp<;>omega) lZ);obtain⟨Q,c1,-⟩:=zc (r.o.below s.o r.o.lt);have ab:=Hi (fun j u F=>(Qcg b (p:=⟨W.heap.size+1,j,none⟩) (by simp<;>omega) (by simp<;>omega)).trans (by simpa using R.o (W.alloc (.cells G 56)) j u F))
   clear k b)
  |(
   refine Qba underlying22 N.o P.o (by decide) rfl (.tmp 9) (.tmp 10) rfl W.heap.size (xs:=xs) (g:=W.heap.size+1) rfl rfl (ag.o) (ah.o) A.o B.o (by omega) ?_;intro L k b;have D:=Hi k;have Y:W.heap.size<L.heap.size:=by have:=b.size;simp at this;omega
   have s:=Hi (Below.ofGrown V.o b (by simp<;>omega) (by omega));obtain⟨Q,c1,-⟩:=zc (r.o.below s.o r.o.lt);have ab:=Hi (fun j u F=>(Qcg b (p:=⟨W.heap.size,j,none⟩) (by simp<;>omega) (by simp<;>omega)).trans (ai.o j u F))
   clear k b)
  |(
   refine Qcf underlying22 N.o P.o rfl (.tmp 11) (.tmp 15) rfl W.heap.size (xs:=xs) (news:=E) (n:=t.length) (m:=3) rfl rfl D.o S.o ab.o T.o lZ ?_;intro w2 l q;have Z:=Hi l;have aj:=q.size;have v:=Below.ofGrown s.o q s.o.size (by omega);obtain⟨Q,c1,-⟩:=zc (r.o.below v r.o.lt);have aa:=Hi (x.o.trans (v.mono x.o.size))
   clear l q v)
  )
 all_goals
  go_wp2;go_ret;exact⟨_,by omega,rfl,⟨by simp,by rw[List.flatMap_append,ae.o,show ([⟨d,f⟩,⟨d,f⟩,⟨d,f⟩]:List S2).flatMap S2.cells=E from af.o.symm];exact Qf0 Z.o⟩,aa.o⟩
theorem Qjc:(prog.info? 80).map (fun i=>(i.zero,i.size,i.bytes))=some (some (.agg #[.int .i64 0,.int .i64 0,.string ⟨#[]⟩,.string ⟨#[]⟩,.string ⟨#[]⟩,.string ⟨#[]⟩]),6,80):=by kernel_rfl
theorem Qqb(n:Nat)(f:n<=1048576):∃a:Vw,a.size=(n+3)*6/\∀w,(Instr.makeSlice 23 (.int .i64 0) (.int .i64 (IntKind.i64.wrap ((n:Int)+3)))).run prog w=.ok (.slice (some ⟨w.heap.size,0,none⟩) 0 (n+3)) (w.alloc (.cells a 80)):=by
 obtain⟨i,b,h⟩:=Option.map_eq_some_iff.1 Qjc;simp only[Prod.mk.injEq] at h;obtain⟨c,hs,d⟩:=h;refine⟨madeCells (Value.cells (.agg #[.int .i64 0,.int .i64 0,.string ⟨#[]⟩,.string ⟨#[]⟩,.string ⟨#[]⟩,.string ⟨#[]⟩])) ((n+3)*6),size_madeCells _ _,fun w=>?_⟩;have:=run_make w 23 80 i _ underlying23 b c .i64 .i64 0 ((n:Int)+3) (by omega) (by omega) (by rw[d];omega) (by omega);have e:((n:Int)+3).toNat=n+3:=by omega
 rw[e,hs] at this;rw[show IntKind.i64.wrap ((n:Int)+3)=(n:Int)+3 by rw[IntKind.wrap_i64];omega];exact this
theorem Qqc(a:Vx)(cap:Nat)(z:List B6)(d:Int)(f:Int)(k:Vs)(l:Vs)(q:Vs)(r:Vs)(w:Vz)(hf:ARow B6.cells w a cap z)(hn:z.length<=1048576):
 Calls prog 31 #[.slice a z.length cap,.agg #[.int .i64 d,.int .i64 f,.string k,.string l,.string q,.string r]] w fun e w'=>∃g,w.heap.size<=g/\e=.returned (.slice (some ⟨g,0,none⟩) z.length (z.length+3))/\ARow B6.cells w' (some ⟨g,0,none⟩) (z.length+3) (z++ [⟨d,f,k,l,q,r⟩,⟨d,f,k,l,q,r⟩,⟨d,f,k,l,q,r⟩])/\Below w.heap.size w w':=by
 have HC:=Hi hf.row;obtain⟨K,R,ao⟩:=Qqb z.length hn;have ah:=Hi R;obtain⟨i,hi,h⟩:=Option.map_eq_some_iff.1 Qjc;simp only[Prod.mk.injEq] at h;obtain⟨hz,hs,hb⟩:=h;obtain⟨S,T,E,F⟩:=Ic hi hs (Qa9 (c:=B6.cells) (sz:=6) (fun _=>rfl) z) (Qfo B6.one z);obtain⟨xs,L⟩:=nm (z.flatMap B6.cells);rw[L] at HC E F;have ai:=Hi L;clear hz hb hi hs R hf L;go_enter func31,ntmps31;go_wp2_with fail;obtain⟨W,hW⟩:=nm (w.alloc (.cells #[.int .i64 d,.int .i64 f,.string k,.string l,.string q,.string r] 80));have B:=Ua hW;have G:SB W w.heap.size 80 #[.int .i64 d,.int .i64 f,.string k,.string l,.string q,.string r]:=by rw[<-hW];exact SB.new w _ _
 rw[hW];have ap:=G.lt;obtain⟨U,c1,c2,c3,c4,c5,-⟩:=zc G;have x:=Hi G;clear G hW;obtain⟨I,C⟩:∃I:Vv,I= [.int .i64 d,.int .i64 f,.string k,.string l,.string q,.string r,.int .i64 d,.int .i64 f,.string k,.string l,.string q,.string r,.int .i64 d,.int .i64 f,.string k,.string l,.string q,.string r]:=⟨_,rfl⟩;have aj:=Hi C
 have M:∀(X:Vz) (j:Nat) (u:Value),I[j]?=some u->(X.alloc (.cells #[.int .i64 d,.int .i64 f,.string k,.string l,.string q,.string r,.int .i64 d,.int .i64 f,.string k,.string l,.string q,.string r,.int .i64 d,.int .i64 f,.string k,.string l,.string q,.string r] 80)).cell? ⟨X.heap.size,j,none⟩=some u:=by
  intro X j u J;rw[(SB.new X 80 #[.int .i64 d,.int .i64 f,.string k,.string l,.string q,.string r,.int .i64 d,.int .i64 f,.string k,.string l,.string q,.string r,.int .i64 d,.int .i64 f,.string k,.string l,.string q,.string r]).cell j];rw[C] at J
  simpa using J
 have V:=Hi M;have Y:O (I.length=3*6):=Hi (by rw[C];rfl);have Z:O (∀u∈ I,u.oneCell'=true):=Hi (by rw[C];simp[Value.oneCell']);have N:=Hi (HC.o.below B.o);have D:∀X:Vz,W.heap.size<=X.heap.size->(X.alloc (.cells K 80)).ownsRow W.heap.size 80 6 (.slice (some ⟨X.heap.size,0,none⟩) 0 (z.length+3)) 0 []:=fun X hX=>World.ownsRow_made X K (z.length+3) hX (by unfold maxLen;omega) ah.o
 have aa:=Hi D;have P:O (Bl W (W.alloc (.cells K 80)).drew):=Hi (bR.alloc lZ _).drew;have ab:O (Bl W ((W.alloc (.cells #[.int .i64 d,.int .i64 f,.string k,.string l,.string q,.string r,.int .i64 d,.int .i64 f,.string k,.string l,.string q,.string r,.int .i64 d,.int .i64 f,.string k,.string l,.string q,.string r] 80)).alloc (.cells K 80)).drew):=Hi (((bR.alloc lZ _).alloc (by simp) _).drew);have ak:O (((W.alloc (.cells #[.int .i64 d,.int .i64 f,.string k,.string l,.string q,.string r,.int .i64 d,.int .i64 f,.string k,.string l,.string q,.string r,.int .i64 d,.int .i64 f,.string k,.string l,.string q,.string r] 80)).alloc (.cells K 80)).drew.ownsRow W.heap.size 80 6 (.slice (some ⟨W.heap.size+1,0,none⟩) 0 (z.length+3)) 0 []):=Hi (by
  have:=D (W.alloc (.cells #[.int .i64 d,.int .i64 f,.string k,.string l,.string q,.string r,.int .i64 d,.int .i64 f,.string k,.string l,.string q,.string r,.int .i64 d,.int .i64 f,.string k,.string l,.string q,.string r] 80)) (by simp);simp only[World.size_alloc] at this
  exact this)
 have al:=Hi (N.o.below ab.o);have am:=Hi (fun j u J=>by
  have h1:=M W j u J;have h2:Below (W.alloc (.cells #[.int .i64 d,.int .i64 f,.string k,.string l,.string q,.string r,.int .i64 d,.int .i64 f,.string k,.string l,.string q,.string r,.int .i64 d,.int .i64 f,.string k,.string l,.string q,.string r] 80)).heap.size _ _:=(Below.refl _ (W.alloc (.cells #[.int .i64 d,.int .i64 f,.string k,.string l,.string q,.string r,.int .i64 d,.int .i64 f,.string k,.string l,.string q,.string r,.int .i64 d,.int .i64 f,.string k,.string l,.string q,.string r] 80))).alloc lZ (.cells K 80)
  exact ce h2.drew (by simp) h1)
 clear C M D;go_region_held3 (fun w'=>w'.cell? ⟨w.heap.size,0,none⟩=some (.int .i64 d)/\w'.cell? ⟨w.heap.size,1,none⟩=some (.int .i64 f)/\w'.cell? ⟨w.heap.size,2,none⟩=some (.string k)/\w'.cell? ⟨w.heap.size,3,none⟩=some (.string l)/\w'.cell? ⟨w.heap.size,4,none⟩=some (.string q)/\w'.cell? ⟨w.heap.size,5,none⟩=some (.string r)) ((first|(simp [*];done)|go_keep)) (first
  |(
   refine Qba underlying23 S.o T.o (by decide) rfl (.tmp 9) (.tmp 10) rfl W.heap.size (xs:=xs) rfl rfl (aa.o W lZ) (N.o.below P.o) E.o F.o (by omega) ?_;intro Q s b;have H:=Hi s;have ad:W.heap.size<Q.heap.size:=by have:=b.size;simp at this;omega
   have y:=Hi (Below.ofGrown P.o b P.o.size lZ);obtain⟨U,c1,c2,c3,c4,c5,-⟩:=zc (x.o.below y.o x.o.lt)
   clear s b)
  |(
   refine Qcf underlying23 S.o T.o rfl (.tmp 11) (.tmp 15) rfl W.heap.size (xs:=xs) (news:=I) (n:=z.length) (m:=3) rfl rfl (H.o.alloc _) Y.o (V.o Q) Z.o lZ ?_;intro w2 t v;have ae:=Hi t;have an:Q.heap.size<w2.heap.size:=by have:=v.size;simp at this;omega
   have A:=Below.ofGrown (y.o.alloc y.o.size _) v (by have:=y.o.size;simp;omega) lZ;obtain⟨U,c1,c2,c3,c4,c5,-⟩:=zc (x.o.below A x.o.lt);have af:=Hi (B.o.trans (A.mono B.o.size))
   clear t v A)
  |(
   refine Qba underlying23 S.o T.o (by decide) rfl (.tmp 9) (.tmp 10) rfl W.heap.size (xs:=xs) rfl rfl ((aa.o W lZ).alloc (.cells #[.int .i64 d,.int .i64 f,.string k,.string l,.string q,.string r,.int .i64 d,.int .i64 f,.string k,.string l,.string q,.string r,.int .i64 d,.int .i64 f,.string k,.string l,.string q,.string r] 80)) (N.o.below (P.o.alloc P.o.size _)) E.o F.o (by omega) ?_;intro Q s b;have H:=Hi s;have ad:W.heap.size<Q.heap.size:=by have:=b.size;simp at this;omega
   have y:=Hi (Below.ofGrown (P.o.alloc P.o.size _) b (by simp<;>omega) lZ);obtain⟨U,c1,c2,c3,c4,c5,-⟩:=zc (x.o.below y.o x.o.lt);have ag:=Hi (fun j u J=>(Qcg b (p:=⟨W.heap.size+1,j,none⟩) (by simp<;>omega) (by simp<;>omega)).trans (by simpa using V.o (W.alloc (.cells K 80)) j u J))
   clear s b)
  |(
   refine Qba underlying23 S.o T.o (by decide) rfl (.tmp 9) (.tmp 10) rfl W.heap.size (xs:=xs) (g:=W.heap.size+1) rfl rfl (ak.o) (al.o) E.o F.o (by omega) ?_;intro Q s b;have H:=Hi s;have ad:W.heap.size<Q.heap.size:=by have:=b.size;simp at this;omega
   have y:=Hi (Below.ofGrown ab.o b (by simp<;>omega) (by omega));obtain⟨U,c1,c2,c3,c4,c5,-⟩:=zc (x.o.below y.o x.o.lt);have ag:=Hi (fun j u J=>(Qcg b (p:=⟨W.heap.size,j,none⟩) (by simp<;>omega) (by simp<;>omega)).trans (am.o j u J))
   clear s b)
  |(
   refine Qcf underlying23 S.o T.o rfl (.tmp 11) (.tmp 15) rfl W.heap.size (xs:=xs) (news:=I) (n:=z.length) (m:=3) rfl rfl H.o Y.o ag.o Z.o lZ ?_;intro w2 t v;have ae:=Hi t;have an:=v.size;have A:=Below.ofGrown y.o v y.o.size (by omega);obtain⟨U,c1,c2,c3,c4,c5,-⟩:=zc (x.o.below A x.o.lt);have af:=Hi (B.o.trans (A.mono B.o.size))
   clear t v A)
  )
 all_goals
  go_wp2;go_ret;exact⟨_,by omega,rfl,⟨by simp,by rw[List.flatMap_append,ai.o,show ([⟨d,f,k,l,q,r⟩,⟨d,f,k,l,q,r⟩,⟨d,f,k,l,q,r⟩]:List B6).flatMap B6.cells=I from aj.o.symm];exact Qf0 ae.o⟩,af.o⟩
theorem Qjd:(prog.info? 83).map (fun i=>(i.zero,i.size,i.bytes))=some (some (.agg #[.int .i64 0,.int .i64 0,.string ⟨#[]⟩]),3,32):=by kernel_rfl
theorem Qqd(n:Nat)(f:n<=1048576):∃a:Vw,a.size=(n+3)*3/\∀w,(Instr.makeSlice 24 (.int .i64 0) (.int .i64 (IntKind.i64.wrap ((n:Int)+3)))).run prog w=.ok (.slice (some ⟨w.heap.size,0,none⟩) 0 (n+3)) (w.alloc (.cells a 83)):=by
 obtain⟨i,b,h⟩:=Option.map_eq_some_iff.1 Qjd;simp only[Prod.mk.injEq] at h;obtain⟨c,hs,d⟩:=h;refine⟨madeCells (Value.cells (.agg #[.int .i64 0,.int .i64 0,.string ⟨#[]⟩])) ((n+3)*3),size_madeCells _ _,fun w=>?_⟩;have:=run_make w 24 83 i _ underlying24 b c .i64 .i64 0 ((n:Int)+3) (by omega) (by omega) (by rw[d];omega) (by omega);have e:((n:Int)+3).toNat=n+3:=by omega
 rw[e,hs] at this;rw[show IntKind.i64.wrap ((n:Int)+3)=(n:Int)+3 by rw[IntKind.wrap_i64];omega];exact this
theorem Qqe(a:Vx)(cap:Nat)(v:List H3)(d:Int)(f:Int)(k:Vs)(w:Vz)(hf:ARow H3.cells w a cap v)(hn:v.length<=1048576):
 Calls prog 32 #[.slice a v.length cap,.agg #[.int .i64 d,.int .i64 f,.string k]] w fun e w'=>∃g,w.heap.size<=g/\e=.returned (.slice (some ⟨g,0,none⟩) v.length (v.length+3))/\ARow H3.cells w' (some ⟨g,0,none⟩) (v.length+3) (v++ [⟨d,f,k⟩,⟨d,f,k⟩,⟨d,f,k⟩])/\Below w.heap.size w w':=by
 have HC:=Hi hf.row;obtain⟨H,N,al⟩:=Qqd v.length hn;have ae:=Hi N;obtain⟨i,hi,h⟩:=Option.map_eq_some_iff.1 Qjd;simp only[Prod.mk.injEq] at h;obtain⟨hz,hs,hb⟩:=h;obtain⟨P,Q,B,C⟩:=Ic hi hs (Qa9 (c:=H3.cells) (sz:=3) (fun _=>rfl) v) (Qfo H3.one v);obtain⟨xs,I⟩:=nm (v.flatMap H3.cells);rw[I] at HC B C;have af:=Hi I;clear hz hb hi hs N hf I;go_enter func32,ntmps32;go_wp2_with fail;obtain⟨W,hW⟩:=nm (w.alloc (.cells #[.int .i64 d,.int .i64 f,.string k] 83));have y:=Ua hW;have D:SB W w.heap.size 83 #[.int .i64 d,.int .i64 f,.string k]:=by rw[<-hW];exact SB.new w _ _
 rw[hW];have am:=D.lt;obtain⟨R,c1,c2,-⟩:=zc D;have s:=Hi D;clear D hW;obtain⟨F,z⟩:∃F:Vv,F= [.int .i64 d,.int .i64 f,.string k,.int .i64 d,.int .i64 f,.string k,.int .i64 d,.int .i64 f,.string k]:=⟨_,rfl⟩;have ag:=Hi z;have J:∀(X:Vz) (j:Nat) (u:Value),F[j]?=some u->(X.alloc (.cells #[.int .i64 d,.int .i64 f,.string k,.int .i64 d,.int .i64 f,.string k,.int .i64 d,.int .i64 f,.string k] 83)).cell? ⟨X.heap.size,j,none⟩=some u:=by
  intro X j u G;rw[(SB.new X 83 #[.int .i64 d,.int .i64 f,.string k,.int .i64 d,.int .i64 f,.string k,.int .i64 d,.int .i64 f,.string k]).cell j];rw[z] at G
  simpa using G
 have S:=Hi J;have T:O (F.length=3*3):=Hi (by rw[z];rfl);have U:O (∀u∈ F,u.oneCell'=true):=Hi (by rw[z];simp[Value.oneCell']);have K:=Hi (HC.o.below y.o);have A:∀X:Vz,W.heap.size<=X.heap.size->(X.alloc (.cells H 83)).ownsRow W.heap.size 83 3 (.slice (some ⟨X.heap.size,0,none⟩) 0 (v.length+3)) 0 []:=fun X hX=>World.ownsRow_made X H (v.length+3) hX (by unfold maxLen;omega) ae.o
 have V:=Hi A;have L:O (Bl W (W.alloc (.cells H 83)).drew):=Hi (bR.alloc lZ _).drew;have Y:O (Bl W ((W.alloc (.cells #[.int .i64 d,.int .i64 f,.string k,.int .i64 d,.int .i64 f,.string k,.int .i64 d,.int .i64 f,.string k] 83)).alloc (.cells H 83)).drew):=Hi (((bR.alloc lZ _).alloc (by simp) _).drew);have ah:O (((W.alloc (.cells #[.int .i64 d,.int .i64 f,.string k,.int .i64 d,.int .i64 f,.string k,.int .i64 d,.int .i64 f,.string k] 83)).alloc (.cells H 83)).drew.ownsRow W.heap.size 83 3 (.slice (some ⟨W.heap.size+1,0,none⟩) 0 (v.length+3)) 0 []):=Hi (by
  have:=A (W.alloc (.cells #[.int .i64 d,.int .i64 f,.string k,.int .i64 d,.int .i64 f,.string k,.int .i64 d,.int .i64 f,.string k] 83)) (by simp);simp only[World.size_alloc] at this
  exact this)
 have ai:=Hi (K.o.below Y.o);have aj:=Hi (fun j u G=>by
  have h1:=J W j u G;have h2:Below (W.alloc (.cells #[.int .i64 d,.int .i64 f,.string k,.int .i64 d,.int .i64 f,.string k,.int .i64 d,.int .i64 f,.string k] 83)).heap.size _ _:=(Below.refl _ (W.alloc (.cells #[.int .i64 d,.int .i64 f,.string k,.int .i64 d,.int .i64 f,.string k,.int .i64 d,.int .i64 f,.string k] 83))).alloc lZ (.cells H 83)
  exact ce h2.drew (by simp) h1)
 clear z J A;go_region_held3 (fun w'=>w'.cell? ⟨w.heap.size,0,none⟩=some (.int .i64 d)/\w'.cell? ⟨w.heap.size,1,none⟩=some (.int .i64 f)/\w'.cell? ⟨w.heap.size,2,none⟩=some (.string k)) ((first|(simp [*];done)|go_keep)) (first
  |(
   refine Qba underlying24 P.o Q.o (by decide) rfl (.tmp 9) (.tmp 10) rfl W.heap.size (xs:=xs) rfl rfl (V.o W lZ) (K.o.below L.o) B.o C.o (by omega) ?_;intro M l b;have E:=Hi l;have Z:W.heap.size<M.heap.size:=by have:=b.size;simp at this;omega
   have t:=Hi (Below.ofGrown L.o b L.o.size lZ);obtain⟨R,c1,c2,-⟩:=zc (s.o.below t.o s.o.lt)
   clear l b)
  |(
   refine Qcf underlying24 P.o Q.o rfl (.tmp 11) (.tmp 15) rfl W.heap.size (xs:=xs) (news:=F) (n:=v.length) (m:=3) rfl rfl (E.o.alloc _) T.o (S.o M) U.o lZ ?_;intro w2 q r;have aa:=Hi q;have ak:M.heap.size<w2.heap.size:=by have:=r.size;simp at this;omega
   have x:=Below.ofGrown (t.o.alloc t.o.size _) r (by have:=t.o.size;simp;omega) lZ;obtain⟨R,c1,c2,-⟩:=zc (s.o.below x s.o.lt);have ab:=Hi (y.o.trans (x.mono y.o.size))
   clear q r x)
  |(
   refine Qba underlying24 P.o Q.o (by decide) rfl (.tmp 9) (.tmp 10) rfl W.heap.size (xs:=xs) rfl rfl ((V.o W lZ).alloc (.cells #[.int .i64 d,.int .i64 f,.string k,.int .i64 d,.int .i64 f,.string k,.int .i64 d,.int .i64 f,.string k] 83)) (K.o.below (L.o.alloc L.o.size _)) B.o C.o (by omega) ?_;intro M l b;have E:=Hi l;have Z:W.heap.size<M.heap.size:=by have:=b.size;simp at this;omega
   have t:=Hi (Below.ofGrown (L.o.alloc L.o.size _) b (by simp<;>omega) lZ);obtain⟨R,c1,c2,-⟩:=zc (s.o.below t.o s.o.lt);have ad:=Hi (fun j u G=>(Qcg b (p:=⟨W.heap.size+1,j,none⟩) (by simp<;>omega) (by simp<;>omega)).trans (by simpa using S.o (W.alloc (.cells H 83)) j u G))
   clear l b)
  |(
   refine Qba underlying24 P.o Q.o (by decide) rfl (.tmp 9) (.tmp 10) rfl W.heap.size (xs:=xs) (g:=W.heap.size+1) rfl rfl (ah.o) (ai.o) B.o C.o (by omega) ?_;intro M l b;have E:=Hi l;have Z:W.heap.size<M.heap.size:=by have:=b.size;simp at this;omega
   have t:=Hi (Below.ofGrown Y.o b (by simp<;>omega) (by omega));obtain⟨R,c1,c2,-⟩:=zc (s.o.below t.o s.o.lt);have ad:=Hi (fun j u G=>(Qcg b (p:=⟨W.heap.size,j,none⟩) (by simp<;>omega) (by simp<;>omega)).trans (aj.o j u G))
   clear l b)
  |(
   refine Qcf underlying24 P.o Q.o rfl (.tmp 11) (.tmp 15) rfl W.heap.size (xs:=xs) (news:=F) (n:=v.length) (m:=3) rfl rfl E.o T.o ad.o U.o lZ ?_;intro w2 q r;have aa:=Hi q;have ak:=r.size;have x:=Below.ofGrown t.o r t.o.size (by omega);obtain⟨R,c1,c2,-⟩:=zc (s.o.below x s.o.lt);have ab:=Hi (y.o.trans (x.mono y.o.size))
   clear q r x)
  )
 all_goals
  go_wp2;go_ret;exact⟨_,by omega,rfl,⟨by simp,by rw[List.flatMap_append,af.o,show ([⟨d,f,k⟩,⟨d,f,k⟩,⟨d,f,k⟩]:List H3).flatMap H3.cells=F from ag.o.symm];exact Qf0 aa.o⟩,ab.o⟩
end Go.Proofs.YtppkmifkpjkgpaaGreatDoor
