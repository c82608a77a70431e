/- The library's Builder: copyCheck, WriteByte, WriteString, String. -/
import Derived.Test.YtldjeecnapgakaaGreatDoorV20FracB
import Derived.Test.YtldjeecnapgakaaGreatDoorV21NumNat
import Derived.Shelf.Strings.Builder1
import Derived.Shelf.Strconv.Itoa1
import Derived.Shelf.Strconv.Itoa2
import Derived.Lib.ItoaMem
import Derived.Lib.AppendIntMem
import Derived.BigCall
import Derived.BigGuard
import Derived.Lib.Builder
import Derived.Lib.AppendStr
import Derived.Lib.UnsafeStr
import Derived.Laws.Externs
namespace Go.Proofs.YtldjeecnapgakaaGreatDoor
open Go.RowKit
open Go.Proofs.Tryz
set_option linter.unusedSimpArgs false
set_option linter.unusedVariables false
set_option maxHeartbeats 8000000
set_option maxRecDepth 1000000
theorem Qqq(s:ByteArray)(w:World):
 Calls prog 76 #[.string s,.string ⟨#[45]⟩] w fun e w'=>e=.returned (.tuple #[.string ⟨(Lib.trimPrefix s.data.toList [45]).toArray⟩,.bool (Lib.hasPrefix s.data.toList [45])])/\w'=w:=Any.strings_CutPrefix Tryz.lays103 s ⟨#[45]⟩ w
theorem Qqr(s:ByteArray)(m:Int)(w:World)(hs:s.size<4294967281)(hm:w.cell? ⟨1,0,none⟩=some (.int .i64 m)):
 Calls prog 77 #[.string s,.string ⟨#[47]⟩] w fun e w'=>e=.returned (.tuple #[.string ⟨(Lib.cut s.data.toList [47]).1.toArray⟩,.string ⟨(Lib.cut s.data.toList [47]).2.1.toArray⟩,.bool (Lib.cut s.data.toList [47]).2.2])/\∃n,w'=w.drewN n:=Any.strings_Cut Tryz.lays145 s ⟨#[47]⟩ m w hs hm
theorem Nat64.numV{w w':World}{x:Nat}{e:Ending}(h:Nat64 w x e w'):(∃a n c,e=.returned (.slice a n c)/\NumV w' a n c x)/\Below w.heap.size w w':=by
 obtain⟨⟨a,c,l,rfl,hu⟩,hb⟩:=h;exact⟨⟨a,l.length,c,rfl,l,rfl,hu⟩,hb⟩
theorem Qqs(neg:Bool)(t k:Nat):mkRat (sgn neg t) k=if neg=true then -(mkRat (t:Int) k) else mkRat (t:Int) k:=by
 cases neg
 . simp[sgn]
 . simp only[sgn,if_true]
   rw[Rat.neg_mkRat]
theorem Qfc{s t:List UInt8}(ht:Lib.trimPrefix s [45]=t)(h:¬QForm t):QOf s 0:=by
 refine⟨0,by rw[ht];exact .inr ⟨h,rfl⟩,?_⟩
 split<;>simp
theorem Qds{s t c1 c2:List UInt8}{bar neg:Bool}(ht:Lib.trimPrefix s [45]=t)(hn:Lib.hasPrefix s [45]=neg)(h1:(Lib.cut t [47]).1=c1)(h2:(Lib.cut t [47]).2.1=c2)(h3:(Lib.cut t [47]).2.2=bar)(hd1:IsDig c1)(hd2:bar=true->IsDig c2):
 QOf s (mkRat (sgn neg (decVal c1)) (if bar=true then decVal c2 else 1)):=by
 by_cases h0:bar=true/\decVal c2=0
 .
  rw[if_pos h0.1,h0.2,Rat.mkRat_zero];apply Qfc ht;intro hq;exact(hq.2 (by rw[h3];exact h0.1)).2 (by rw[h2];exact h0.2)
 .
  refine⟨mkRat (decVal c1:Nat) (if bar=true then decVal c2 else 1),?_,by rw[hn];exact Qqs _ _ _⟩;rw[ht];refine .inl ⟨⟨by rw[h1];exact hd1,fun hb=>?_⟩,by rw[h1,h2,h3]⟩;rw[h3] at hb;rw[h2];exact⟨hd2 hb,fun hz=>h0 ⟨hb,hz⟩⟩
def OfAns(s:List UInt8)(w:World)(e:Ending)(w':World):Prop:=∃q,QOf s q/\FNew w q e w'
theorem Qqt(s:ByteArray)(m:Int)(w:World)(hm:w.cell? ⟨1,0,none⟩=some (.int .i64 m))(hs:s.size<=1073741824):
 Calls prog 34 #[.string s] w (OfAns s.data.toList w):=by
 obtain⟨t,ht⟩:=nm ((⟨(Lib.trimPrefix s.data.toList [45]).toArray⟩:ByteArray));obtain⟨neg,hneg⟩:=nm (Lib.hasPrefix s.data.toList [45]);have hte:Lib.trimPrefix s.data.toList [45]=t.data.toList:=by rw[<-ht]
 have hts:t.size<=1073741824:=by
  have:=Qdv s.data.toList [45];rw[hte,Qah,Qah] at this;omega
 obtain⟨c1,hc1⟩:∃c,(⟨(Lib.cut t.data.toList [47]).1.toArray⟩:ByteArray)=c:=⟨_,rfl⟩;obtain⟨c2,hc2⟩:∃c,(⟨(Lib.cut t.data.toList [47]).2.1.toArray⟩:ByteArray)=c:=⟨_,rfl⟩;obtain⟨bar,hbar⟩:∃b,(Lib.cut t.data.toList [47]).2.2=b:=⟨_,rfl⟩;have he1:(Lib.cut t.data.toList [47]).1=c1.data.toList:=by rw[<-hc1]
 have he2:(Lib.cut t.data.toList [47]).2.1=c2.data.toList:=by rw[<-hc2]
 have hs1:c1.size<=1073741824:=by have:=Qi0 t.data.toList;rw[he1,Qah,Qah] at this;omega
 have hs2:c2.size<=1073741824:=by have:=Qi1 t.data.toList;rw[he2,Qah,Qah] at this;omega
 have HBP:=Hi ((Below.refl w.heap.size w).alloc lZ (.cells zeroFrac 63));obtain⟨HM,HS⟩:=Ia (ce HBP.o (World.block_lt_of_cell? _ _ hm) hm) (SB.new w 63 zeroFrac);obtain⟨wA,hwA⟩:=nm (w.alloc (.cells zeroFrac 63));rw[hwA] at HBP HM HS;obtain⟨HCP,HCU⟩:=Ia (Qqq s wA) (Qqr t m wA (by omega) HM.o);rw[ht,hneg] at HCP;rw[hc1,hc2,hbar] at HCU;obtain⟨HWA,HTE,HNG,HE1,HE2,HBR,HI1,HI2,HP1⟩:=Ih hwA hte hneg he1 he2 hbar (fun w=>Qiv c1 w hs1) (fun w=>Qiv c2 w hs2) (fun w h=>Qiu c1 w hs1 h);have HP2:=Hi (fun w h=>Qiu c2 w hs2 h);clear ht hneg hte hc1 hc2 hbar he1 he2 hm hwA;go_enter func34,ntmps34;go_wp2_with fail;rw[show w.alloc (.cells #[.bool false,.slice none 0 0,.slice none 0 0] 63)=wA from HWA.o];go_fit HCP.o;rintro e w1 ⟨rfl,hw⟩;subst hw;clear HCP
 go_wp2_with fail;go_fit HCU.o;rintro e w1 ⟨rfl,nD,hw⟩;subst hw;clear HCU;have hbD:Below w1.heap.size w1 (w1.drewN nD):=Qfb bR nD;obtain⟨wD,hwD⟩:=nm (w1.drewN nD);rw[hwD] at hbD;obtain⟨HBD,HSD,HWD⟩:=Ib (HBP.o.trans (hbD.mono HBP.o.size)) (HS.o.below hbD HS.o.lt) hwD;clear hbD hwD HBP HS HM;have HBP:=HBD;have HS:=HSD;clear HBD HSD;go_wp2_with fail;rw[HWD.o];go_fit (HI1.o _);rintro e w2 ⟨⟨v1,rfl,hv1⟩,hw2⟩;subst hw2;have HV1:=Hi hv1;clear hv1;cases v1 with
 |false=>
  have HQ:O (QOf s.data.toList 0):=Hi (Qfc HTE.o (fun h=>by have:=HV1.o.2 (by rw[<-HE1.o];exact h.1);cases this));have k0:=HS.o.cell 0;have k1:=HS.o.cell 1;have k2:=HS.o.cell 2;have f0:=HS.o.free 0;have f1:=HS.o.free 1;have f2:=HS.o.free 2;simp[zeroFrac] at k0 k1 k2;go_wp2;refine bodyPost_ret (v:=.agg #[.bool false,.slice none 0 0,.slice none 0 0]) (results_cell_row rfl _ _ (w.heap.size) 63 #[.bool false,.slice none 0 0,.slice none 0 0] (0,0) _ rfl (((HS.o.set 0 _).set 1 _).set 2 _) underlying63 rfl Tryz.fracInfo) rfl ?_;exact⟨0,HQ.o,⟨_,rfl,FracV.zero _⟩,((HBP.o.setCell lZ _).setCell lZ _).setCell lZ _⟩
 |true=>
  have HD1:O (IsDig c1.data.toList):=Hi (HV1.o.1 rfl);clear HV1;cases bar with
  |false=>
   have HQ:=Hi (Qds HTE.o HNG.o HE1.o HE2.o HBR.o HD1.o (fun h=>by cases h));go_wp2_with fail;go_fit (HP1.o _ HD1.o.2);rintro e w3 hN;obtain⟨⟨a,n,c,rfl,hv⟩,hb⟩:=hN.numV;have HNV:=Hi hv;have HS':=Hi (HS.o.below hb HS.o.lt);have HBP':=Hi (HBP.o.trans (hb.mono HBP.o.size));clear HS HBP hv hb hN;have HS:=HS';have HBP:=HBP';clear HS' HBP';go_wp2_with fail;go_fit (Qck neg a none n c 0 0 (decVal c1.data.toList) 1 _ HNV.o (.inl ⟨rfl,rfl,rfl,rfl⟩) (Nat.coprime_one_right _));rintro e w9 ⟨⟨v9,rfl,hv⟩,hb⟩;obtain⟨neg9,a9,n9,c9,b9,m9,d9,rfl,hv⟩:=hv;have hs:=HS.o.below hb HS.o.lt;have k0:=hs.cell 0;have k1:=hs.cell 1;have k2:=hs.cell 2;have f0:=hs.free 0;have f1:=hs.free 1;have f2:=hs.free 2;simp[zeroFrac] at k0 k1 k2;obtain⟨HV,HS9,HB9⟩:=Ib hv hs (HBP.o.trans (hb.mono HBP.o.size));clear hv hs hb;go_wp2
   refine bodyPost_ret (v:=.agg #[.bool neg9,.slice a9 n9 c9,.slice b9 m9 d9]) (results_cell_row rfl _ _ (w.heap.size) 63 #[.bool neg9,.slice a9 n9 c9,.slice b9 m9 d9] (0,0) _ rfl (((HS9.o.set 0 _).set 1 _).set 2 _) underlying63 rfl Tryz.fracInfo) rfl ?_;have ho:=(((Only.refl (w.heap.size) w9).setCell 0 (.bool neg9)).setCell 1 (.slice a9 n9 c9)).setCell 2 (.slice b9 m9 d9);exact⟨_,HQ.o,⟨_,rfl,neg9,a9,n9,c9,b9,m9,d9,rfl,HV.o.only ho HS9.o Qbf⟩,Only.fresh HB9.o ho (by omega)⟩
  |true=>
   go_wp2_with fail;go_fit (HI2.o _);rintro e w3 ⟨⟨v2,rfl,hv2⟩,hw3⟩;subst hw3;have HV2:=Hi hv2;clear hv2;cases v2 with
   |false=>
    have HQ:O (QOf s.data.toList 0):=Hi (Qfc HTE.o (fun h=>by have:=HV2.o.2 (by rw[<-HE2.o];exact(h.2 HBR.o).1);cases this));have k0:=HS.o.cell 0;have k1:=HS.o.cell 1;have k2:=HS.o.cell 2;have f0:=HS.o.free 0;have f1:=HS.o.free 1;have f2:=HS.o.free 2;simp[zeroFrac] at k0 k1 k2;go_wp2;refine bodyPost_ret (v:=.agg #[.bool false,.slice none 0 0,.slice none 0 0]) (results_cell_row rfl _ _ (w.heap.size) 63 #[.bool false,.slice none 0 0,.slice none 0 0] (0,0) _ rfl (((HS.o.set 0 _).set 1 _).set 2 _) underlying63 rfl Tryz.fracInfo) rfl ?_;exact⟨0,HQ.o,⟨_,rfl,FracV.zero _⟩,((HBP.o.setCell lZ _).setCell lZ _).setCell lZ _⟩
   |true=>
    have HD2:O (IsDig c2.data.toList):=Hi (HV2.o.1 rfl);clear HV2;obtain⟨K0,hK0⟩:=nm 1073741824;obtain⟨K,hK⟩:=nm (4*K0);have HK1:O (decVal c1.data.toList<2 ^ K):=Hi (by rw[<-hK];exact Qdu HD1.o.2 (by rw[Qah,<-hK0];exact hs1));have HK2:O (decVal c2.data.toList<2 ^ K):=Hi (by rw[<-hK];exact Qdu HD2.o.2 (by rw[Qah,<-hK0];exact hs2));have HKK:O (K+K<137438953000):=Hi (by omega);clear hK hK0;have HQ:=Hi (Qds HTE.o HNG.o HE1.o HE2.o HBR.o HD1.o (fun _=>HD2.o));go_wp2_with fail;go_fit (HP1.o _ HD1.o.2);rintro e w3 hN;obtain⟨⟨a,n,c,rfl,hv⟩,hb⟩:=hN.numV;have HNV:=Hi hv;have HS':=Hi (HS.o.below hb HS.o.lt);have HBP':=Hi (HBP.o.trans (hb.mono HBP.o.size));clear HS HBP hv hb hN;have HS:=HS';have HBP:=HBP';clear HS' HBP';go_wp2_with fail;go_fit (HP2.o _ HD2.o.2);rintro e w4 hN;obtain⟨⟨a2,n2,cc2,rfl,hv⟩,hb⟩:=hN.numV;have HNV2:=Hi hv
    have HNV1:=Hi (HNV.o.below hb);have HS':=Hi (HS.o.below hb HS.o.lt);have HBP':=Hi (HBP.o.trans (hb.mono HBP.o.size));clear HS HBP hv hb hN HNV;have HS:=HS';have HBP:=HBP';clear HS' HBP';go_wp2_with fail;go_fit (Qnv neg a a2 n c n2 cc2 (decVal c1.data.toList) (decVal c2.data.toList) K K _ HNV1.o HNV2.o HK1.o HK2.o HKK.o);rintro e w9 ⟨⟨v9,rfl,hv⟩,hb⟩;obtain⟨neg9,a9,n9,c9,b9,m9,d9,rfl,hv⟩:=hv;have hs:=HS.o.below hb HS.o.lt;have k0:=hs.cell 0;have k1:=hs.cell 1;have k2:=hs.cell 2;have f0:=hs.free 0;have f1:=hs.free 1;have f2:=hs.free 2;simp[zeroFrac] at k0 k1 k2;obtain⟨HV,HS9,HB9⟩:=Ib hv hs (HBP.o.trans (hb.mono HBP.o.size));clear hv hs hb;go_wp2
    refine bodyPost_ret (v:=.agg #[.bool neg9,.slice a9 n9 c9,.slice b9 m9 d9]) (results_cell_row rfl _ _ (w.heap.size) 63 #[.bool neg9,.slice a9 n9 c9,.slice b9 m9 d9] (0,0) _ rfl (((HS9.o.set 0 _).set 1 _).set 2 _) underlying63 rfl Tryz.fracInfo) rfl ?_;have ho:=(((Only.refl (w.heap.size) w9).setCell 0 (.bool neg9)).setCell 1 (.slice a9 n9 c9)).setCell 2 (.slice b9 m9 d9);exact⟨_,HQ.o,⟨_,rfl,neg9,a9,n9,c9,b9,m9,d9,rfl,HV.o.only ho HS9.o Qbf⟩,Only.fresh HB9.o ho (by omega)⟩
end Go.Proofs.YtldjeecnapgakaaGreatDoor
namespace Go.Proofs
open Go.Shelf
def Tryz.lays169_ren:Go.Shelf.Ren:=⟨fun|169=>122|n=>n,fun|70=>152|9=>9|0=>0|72=>155|37=>153|127=>189|3=>3|5=>5|n=>n,fun|n=>n⟩
theorem Tryz.lays169:Go.Proofs.Lays.n169 Tryz.prog Tryz.lays169_ren:={
 mixed:=by kernel_rfl
 f169:=Tryz.func122.trans (congrArg some (by kernel_rfl))
 t0:=Tryz.underlying0
 a0:=Tryz.isAgg0
 z0:=Tryz.sizeOf0
 v0:=Tryz.zeroValue0
 t3:=Tryz.underlying3
 a3:=Tryz.isAgg3
 z3:=Tryz.sizeOf3
 v3:=Tryz.zeroValue3
 t9:=Tryz.underlying9
 a9:=Tryz.isAgg9
 z9:=Tryz.sizeOf9
 v9:=Tryz.zeroValue9
 t37:=Tryz.underlying153
 a37:=Tryz.isAgg153
 z37:=Tryz.sizeOf153
 v37:=Tryz.zeroValue153
 t70:=Tryz.underlying152
 a70:=Tryz.isAgg152
 z70:=Tryz.sizeOf152
 v70:=Tryz.zeroValue152
 t72:=Tryz.underlying155
 a72:=Tryz.isAgg155
 z72:=Tryz.sizeOf155
 v72:=Tryz.zeroValue155
 t127:=Tryz.underlying189
 a127:=Tryz.isAgg189
 z127:=Tryz.sizeOf189
 v127:=Tryz.zeroValue189 }
def Tryz.lays283_ren:Go.Shelf.Ren:=⟨fun|283=>196|n=>n,fun|3=>3|9=>9|4=>4|n=>n,fun|n=>n⟩
theorem Tryz.lays283:Go.Proofs.Lays.n283 Tryz.prog Tryz.lays283_ren:={
 mixed:=by kernel_rfl
 f283:=Tryz.func196.trans (congrArg some (by kernel_rfl))
 t3:=Tryz.underlying3
 a3:=Tryz.isAgg3
 z3:=Tryz.sizeOf3
 v3:=Tryz.zeroValue3
 t4:=Tryz.underlying4
 a4:=Tryz.isAgg4
 z4:=Tryz.sizeOf4
 v4:=Tryz.zeroValue4
 t9:=Tryz.underlying9
 a9:=Tryz.isAgg9
 z9:=Tryz.sizeOf9
 v9:=Tryz.zeroValue9 }
def Tryz.lays284_ren:Go.Shelf.Ren:=⟨fun|284=>197|129=>188|317=>201|318=>202|n=>n,fun|53=>119|3=>3|212=>228|0=>0|4=>4|46=>175|5=>5|9=>9|n=>n,fun|17=>6|n=>n⟩
theorem Tryz.lays284:Go.Proofs.LaysM.n284 Tryz.prog Tryz.lays284_ren:={
 mixed:=by kernel_rfl
 f129:=Tryz.func188.trans (congrArg some (by kernel_rfl))
 f284:=Tryz.func197.trans (congrArg some (by kernel_rfl))
 f317:=Tryz.func201.trans (congrArg some (by kernel_rfl))
 f318:=Tryz.func202.trans (congrArg some (by kernel_rfl))
 t0:=Tryz.underlying0
 a0:=Tryz.isAgg0
 z0:=Tryz.sizeOf0
 v0:=Tryz.zeroValue0
 t3:=Tryz.underlying3
 a3:=Tryz.isAgg3
 z3:=Tryz.sizeOf3
 v3:=Tryz.zeroValue3
 t4:=Tryz.underlying4
 a4:=Tryz.isAgg4
 z4:=Tryz.sizeOf4
 v4:=Tryz.zeroValue4
 t5:=Tryz.underlying5
 a5:=Tryz.isAgg5
 z5:=Tryz.sizeOf5
 v5:=Tryz.zeroValue5
 t9:=Tryz.underlying9
 a9:=Tryz.isAgg9
 z9:=Tryz.sizeOf9
 v9:=Tryz.zeroValue9
 t46:=Tryz.underlying175
 a46:=Tryz.isAgg175
 z46:=Tryz.sizeOf175
 v46:=Tryz.zeroValue175
 t53:=Tryz.underlying119
 a53:=Tryz.isAgg119
 z53:=Tryz.sizeOf119
 v53:=Tryz.zeroValue119
 t212:=Tryz.underlying228
 a212:=Tryz.isAgg228
 z212:=Tryz.sizeOf228
 v212:=Tryz.zeroValue228
 g17:=by kernel_rfl
 i0:=by kernel_rfl
 i3:=by kernel_rfl
 i4:=by kernel_rfl
 i5:=by kernel_rfl
 i9:=by kernel_rfl
 i46:=by kernel_rfl
 i53:=by kernel_rfl
 i212:=by kernel_rfl
 m17:=by kernel_rfl }
def Tryz.lays285_ren:Go.Shelf.Ren:=⟨fun|285=>198|n=>n,fun|37=>153|53=>119|3=>3|4=>4|51=>166|9=>9|5=>5|0=>0|n=>n,fun|n=>n⟩
theorem Tryz.lays285:Go.Proofs.Lays.n285 Tryz.prog Tryz.lays285_ren:={
 mixed:=by kernel_rfl
 f285:=Tryz.func198.trans (congrArg some (by kernel_rfl))
 t0:=Tryz.underlying0
 a0:=Tryz.isAgg0
 z0:=Tryz.sizeOf0
 v0:=Tryz.zeroValue0
 t3:=Tryz.underlying3
 a3:=Tryz.isAgg3
 z3:=Tryz.sizeOf3
 v3:=Tryz.zeroValue3
 t4:=Tryz.underlying4
 a4:=Tryz.isAgg4
 z4:=Tryz.sizeOf4
 v4:=Tryz.zeroValue4
 t5:=Tryz.underlying5
 a5:=Tryz.isAgg5
 z5:=Tryz.sizeOf5
 v5:=Tryz.zeroValue5
 t9:=Tryz.underlying9
 a9:=Tryz.isAgg9
 z9:=Tryz.sizeOf9
 v9:=Tryz.zeroValue9
 t37:=Tryz.underlying153
 a37:=Tryz.isAgg153
 z37:=Tryz.sizeOf153
 v37:=Tryz.zeroValue153
 t51:=Tryz.underlying166
 a51:=Tryz.isAgg166
 z51:=Tryz.sizeOf166
 v51:=Tryz.zeroValue166
 t53:=Tryz.underlying119
 a53:=Tryz.isAgg119
 z53:=Tryz.sizeOf119
 v53:=Tryz.zeroValue119 }
end Go.Proofs
namespace Go.Proofs.YtldjeecnapgakaaGreatDoor
open Go.RowKit Go.Sort Go.Lib
open Go.Proofs.Tryz
set_option linter.unusedSimpArgs false
set_option linter.unusedVariables false
set_option maxHeartbeats 8000000
set_option maxRecDepth 1000000
def Tab(w:World):Prop:=Lib.TabIs prog w "internal/strconv.uint64pow10" .u64 Lib.pow10Tab
theorem Tab.below{w w':World}(h:Tab w)(hb:Below w.heap.size w w'):Tab w':=by
 unfold Tab Lib.TabIs World.var? at*;cases hg:prog.globalNamed "internal/strconv.uint64pow10" with
 |none=>simp[hg] at h
 |some g=>
  simp only[hg,Option.bind_some] at h ⊢;have hlt:g<w.heap.size:=by
   rcases Nat.lt_or_ge g w.heap.size with h'|h'
   . exact h'
   . simp[Array.getElem?_eq_none h'] at h
  rw[hb.block g hlt];exact h
theorem Qs9(i:Nat)(h:i<100)(w:World):Calls prog 196 #[.int .i64 i] w fun e w'=>e=.returned (.string ⟨(Lib.decDigits i).toArray⟩)/\w'=w:=Any.internal_strconv_small Tryz.lays283 i h w
theorem Qta(u:Nat)(h1:1<=u)(h2:u<18446744073709551616)(w:World)(ht:Tab w):Calls prog 197 #[.int .u64 u] w fun e w'=>e=.returned (.int .i64 (Lib.nDigits u))/\w'=w:=Any.internal_strconv_numDigits Tryz.lays284 u h1 h2 w ht
theorem Qtb(blk off cap:Nat)(u:Nat)(d:Array UInt8)(w:World)(hH:Go.Sort.Holds (fun (b:UInt8)=>Value.int .u8 (b.toNat:Int)) w blk off d)(hu:u<10 ^ d.size)(hu64:u<18446744073709551616)(hsz:d.size<4611686018427387904):
 Calls prog 198 #[.slice (some ⟨blk,off,none⟩) d.size cap,.int .u64 u] w fun e w'=>
  e=.returned (.tuple #[])/\∃(n v':Nat) (dk:Array UInt8),w'=(putRow (fun (b:UInt8)=>Value.int .u8 (b.toNat:Int)) w blk off dk).drewN n/\FmtInv d.size u 0 v' dk:=Any.internal_strconv_formatBase10 Tryz.lays285 blk off cap u d w hH hu hu64 hsz
theorem Qtc(w:World)(T:TypeId)(nd:Nat)(hs:nd<=24):Go.Sort.Holds (fun (b:UInt8)=>Value.int .u8 (b.toNat:Int)) (w.alloc (.cells zeros24 T)) w.heap.size 0 (Array.replicate nd (0:UInt8)):=fun j hj=>by
 have hj':j<nd:=by simpa using hj
 refine⟨?_,World.frozen?_alloc_new _ _ _ _⟩;rw[World.cell?_alloc_new,zeros24_at _ (by omega),getElem!_pos _ j hj];simp
theorem Qtd(w:World)(o:Obj)(dk:Array UInt8)(k:Nat):Below w.heap.size w ((putRow (fun (b:UInt8)=>Value.int .u8 (b.toNat:Int)) (w.alloc o) w.heap.size 0 dk).drewN k):=by
 rw[alloc_eq_grow];obtain⟨os',_,e⟩:=putRow_grow_new (fun (b:UInt8)=>Value.int .u8 (b.toNat:Int)) w #[o] w.heap.size 0 dk lZ;rw[e];exact below_grow w.heap.size w lZ k os'
theorem Qte(u:Nat)(hu64:u<18446744073709551616)(w:World)(ht:Tab w):
 Calls prog 192 #[.int .u64 u,.int .i64 10] w fun e w'=>e=.returned (.string ⟨(Lib.decDigits u).toArray⟩)/\Below w.heap.size w w':=by
 by_cases hs:u<100
 .
  have HS:=Hi (Qs9 u hs w);clear ht;go_enter func192,ntmps192;go_wp2_with fail;go_fit HS.o;rintro e w1 ⟨rfl,hw⟩;subst hw;clear HS;go_wp2;go_ret;exact⟨rfl,Below.refl _ _⟩
 .
  have hnd20:Lib.nDigits u<=20:=by have:=Lib.numDigits_eq u (by omega) hu64;split at this<;>omega
  obtain⟨HNL,HDL,HND,HH0⟩:=Ic (Lib.lt_pow_nDigits u) (Lib.decDigits_length u) (Qta u (by omega) hu64 (w.alloc (.cells zeros24 221)) (Tab.below ht (bR.alloc lZ _))) (Qtc w 221 (Lib.nDigits u) (by omega));have HF:=Hi (Qtb w.heap.size 0 24 u (Array.replicate (Lib.nDigits u) 0) (w.alloc (.cells zeros24 221)) HH0.o (by rw[Array.size_replicate];exact HNL.o) hu64 (by rw[Array.size_replicate];omega));rw[Array.size_replicate] at HF;obtain⟨N,hN⟩:=nm (Lib.nDigits u);have hsl:∀W,(Instr.sliceAt 221 (.pointer (some ⟨w.heap.size,0,none⟩)) none (some (.int .i64 (N:Int))) none).run prog W=.ok (.slice (some ⟨w.heap.size,0,none⟩) N 24) W:=fun W=>by
   have hal:prog.arrayLen 221=24:=by simp[Program.arrayLen,underlying221]
   rw[run_sliceAt_array_h W 221 ⟨w.heap.size,0,none⟩ (by simp[Program.arrayLen,Program.elem,underlying221]) .i64 (N:Int) (by omega) (by rw[hal];omega)];go_simp
  rw[hN] at HNL HDL HND HH0 HF hnd20;have q0:¬((u:Int)<100):=by omega
  obtain⟨wA,hwA⟩:=nm (w.alloc (.cells zeros24 221));obtain⟨HWA,HPB⟩:=Ia hwA (fun dk k=>Qtd w (.cells zeros24 221) dk k);rw[hwA] at HND HH0 HF HPB;have HNE:=Hi hN;have hN24:N<=24:=by omega
  clear ht hs hwA hN;go_enter func192,ntmps192;go_wp2_with fail;have hWA:=HWA.o;unfold zeros24 at hWA;rw[hWA];clear hWA;go_fit HND.o;rintro e w1 ⟨rfl,hw⟩;subst hw;clear HND;go_wp2_with fail;go_fit HF.o;rintro e w2 ⟨rfl,k,v',dk,hw2,hF⟩;have HPB2:=Hi (HPB.o dk k);rw[<-hw2] at HPB2;have hcv:(convert 153 9 (.slice (some ⟨w.heap.size,0,none⟩) N 24)).run prog w2=.ok (.string ⟨(Lib.decDigits u).toArray⟩) w2:=by
   have h:=run_convert_bytes_back (P:=prog) w2 153 9 5 ⟨w.heap.size,0,none⟩ 24 (Lib.decDigits u) underlying153 underlying5 underlying9 (fun j hj=>by
    rw[HDL.o] at hj;rw[Lib.row_is_numeral (by rw[HNE.o];exact hF) j (by rw[HDL.o];exact hj),Lib.add_plain,hw2,World.cell?_drewN]
    exact cell?_putRow (fun (b:UInt8)=>Value.int .u8 (b.toNat:Int)) _ w.heap.size 0 _ dk HH0.o (by rw[hF.size,Array.size_replicate]) j (by rw[hF.size];exact hj))
   rw[HDL.o] at h;exact h
  clear hw2 hF HF;go_wp2;go_ret;exact⟨rfl,HPB2.o⟩
theorem Qtf(u:Nat)(hu64:u<18446744073709551616)(w:World)(ht:Tab w):
 Calls prog 179 #[.int .u64 u,.int .i64 10] w fun e w'=>e=.returned (.string ⟨(Lib.decDigits u).toArray⟩)/\Below w.heap.size w w':=by
 have HS:=Hi (Qte u hu64 w ht);clear ht;go_enter func179,ntmps179;go_wp2_with fail;go_fit HS.o;rintro e w1 ⟨rfl,hb⟩;have HB:=Hi hb;clear HS hb;go_wp2;go_ret;exact⟨rfl,HB.o⟩
end Go.Proofs.YtldjeecnapgakaaGreatDoor
namespace Go.Proofs.YtldjeecnapgakaaGreatDoor
open Go.RowKit
open Go.Proofs.Tryz
set_option linter.unusedSimpArgs false
set_option linter.unusedVariables false
set_option maxHeartbeats 8000000
set_option maxRecDepth 1000000
theorem Tryz.extra:Builder.Extra prog Tryz.lays169_ren where
 sizeBuilder:=by kernel_rfl
 liesBuilder:=by kernel_rfl
 t5:=underlying5
 a5:=Tryz.isAgg5
 z5:=Tryz.sizeOf5
 v5:=Tryz.zeroValue5
 infoByte:=by kernel_rfl
 cellsByte:=by kernel_rfl
 sizeByte:=by kernel_rfl
 neB5:=by decide
theorem Tryz.bdSize:(prog.info? 155).map (·.size)=some 2:=by kernel_rfl
theorem Tryz.bdLies:liesAt prog prog.depth 155 (2 / prog.cellsOf 155) 0 155 1=true:=by kernel_rfl
abbrev Bd(B b:Nat)(bs:List Value)(w:World):Prop:=Lib.IsBuilder 155 5 B b bs w
abbrev BdAt(B b:Nat)(bs:List Value)(w:World):Prop:=Lib.BuilderAt 155 5 B b (.pointer (some ⟨b,0,none⟩)) bs w
theorem Qsr(B b:Nat)(l:List UInt8)(w:World)(h:Bd B b (Lib.byteCells l) w)(hBw:B<=w.heap.size):
 Calls prog 122 #[.pointer (some ⟨b,0,none⟩)] w fun e w'=>e=.returned (.string ⟨l.toArray⟩)/\Below B w w':=Any.Builder_String_any Tryz.lays169 Tryz.extra B b l w h hBw
theorem Qss(b:Nat)(w:World)(h0:w.cell? ⟨b,0,none⟩=some (.pointer (some ⟨b,0,none⟩))):
 Calls prog 193 #[.pointer (some ⟨b,0,none⟩)] w fun e w'=>e=.returned (.tuple #[])/\w'=w:=by
 obtain⟨j,hj,_⟩:=Option.map_eq_some_iff.1 Tryz.bdSize;have hne:∀w,(binOp .neq 152 (.pointer (some ⟨b,0,none⟩)) (.pointer (some ⟨b,0,none⟩))).run prog w=.ok (.bool false) w:=fun w=>Lib.run_neq_ptr_same w ⟨b,0,none⟩ underlying152 hj
 go_enter func193,ntmps193;go_wp2;go_end0;exact⟨rfl,rfl⟩
theorem Qst(b:Nat)(w:World)(h0:w.cell? ⟨b,0,none⟩=some (.pointer none))(hsh:w.shape? b=some (155,2))(hfz:w.frozen? ⟨b,0,none⟩=false):
 Calls prog 193 #[.pointer (some ⟨b,0,none⟩)] w fun e w'=>e=.returned (.tuple #[])/\w'=w.setCell ⟨b,0,none⟩ (.pointer (some ⟨b,0,none⟩)):=by
 obtain⟨j,hj,hjs⟩:=Option.map_eq_some_iff.1 Tryz.bdSize;have h1:(convert 152 225 (.pointer (some ⟨b,0,none⟩))).run prog w=.ok (.pointer (some ⟨b,0,none⟩)) w:=Lib.run_to_unsafe w ⟨b,0,none⟩ underlying152 underlying225 hj (by rw[hjs];decide) hsh (Nat.zero_lt_succ 1);have h2:(callFunc 200 #[.pointer (some ⟨b,0,none⟩)]).run prog w=.ok (.value (.pointer (some ⟨b,0,none⟩))) w:=by
  rw[run_callFunc_extern func200 (by kernel_rfl) (by kernel_rfl) (by kernel_rfl) (e:=Extern.AbiNoEscape.same) (by kernel_rfl),Lib.run_noEscape];rfl
 have h3:(convert 225 152 (.pointer (some ⟨b,0,none⟩))).run prog w=.ok (.pointer (some ⟨b,0,none⟩)) w:=Lib.run_from_unsafe w ⟨b,0,none⟩ underlying225 underlying152 hj hsh Tryz.bdLies;clear hj hjs hsh;go_enter func193,ntmps193;go_wp2_with simp only[h2];go_end0;exact⟨rfl,rfl⟩
end Go.Proofs.YtldjeecnapgakaaGreatDoor
