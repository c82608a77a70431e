/- The library's Builder: WriteByte, WriteString, with what they leave alone. -/
import Derived.Test.YtjhdfkcdigmfhaaGreatDoorC14NumNat
import Derived.Shelf.Strings.Builder1
import Derived.Shelf.Strconv.Itoa1
import Derived.Shelf.Strconv.Itoa2
import Derived.Lib.ItoaMem
import Derived.Lib.AppendIntMem
import Derived.BigCall
import Derived.BigGuard
import Derived.Lib.Builder
import Derived.Lib.AppendStr
import Derived.Lib.UnsafeStr
import Derived.Laws.Externs
namespace Go.Proofs.YtjhdfkcdigmfhaaGreatDoor
open Go.RowKit
set_option linter.unusedVariables false
set_option linter.unusedSimpArgs false
theorem Qmr(s:ByteArray)(w:World):
 Calls Tryz.prog 220 #[.string s,.string ⟨#[45]⟩] w fun e w'=>e=.returned (.tuple #[.string ⟨(Lib.trimPrefix s.data.toList [45]).toArray⟩,.bool (Lib.hasPrefix s.data.toList [45])])∧w'=w:=Any.strings_CutPrefix Tryz.lays103 s ⟨#[45]⟩ w
theorem Qms(s:ByteArray)(m:Int)(w:World)(hs:s.size<4294967281)(hm:w.cell? ⟨5,0,none⟩=some (.int .i64 m)):
 Calls Tryz.prog 111 #[.string s,.string ⟨#[47]⟩] w fun e w'=>e=.returned (.tuple #[.string ⟨(Lib.cut s.data.toList [47]).1.toArray⟩,.string ⟨(Lib.cut s.data.toList [47]).2.1.toArray⟩,.bool (Lib.cut s.data.toList [47]).2.2])∧∃n,w'=w.drewN n:=Any.strings_Cut Tryz.lays145 s ⟨#[47]⟩ m w hs hm
theorem Nat64.numV{w w':World}{x:Nat}{e:Ending}(h:Nat64 w x e w'):(∃a n c,e=.returned (.slice a n c)∧NumV w' a n c x)∧Below w.heap.size w w':=by
 obtain⟨⟨a,c,l,rfl,hu⟩,hb⟩:=h
 exact⟨⟨a,l.length,c,rfl,l,rfl,hu⟩,hb⟩
theorem Qmt(neg:Bool)(t k:Nat):mkRat (sgn neg t) k=if neg=true then -(mkRat (t:Int) k) else mkRat (t:Int) k:=by
 cases neg
 · simp[sgn]
 · simp only[sgn,if_true]
   rw[Rat.neg_mkRat]
theorem Qd0{s t:List UInt8}(ht:Lib.trimPrefix s [45]=t)(h:¬QForm t):QOf s 0:=by
 refine⟨0,by rw[ht];exact .inr ⟨h,rfl⟩,?_⟩
 split<;>simp
theorem Qgv{s t c1 c2:List UInt8}{bar neg:Bool}(ht:Lib.trimPrefix s [45]=t)(hn:Lib.hasPrefix s [45]=neg)(h1:(Lib.cut t [47]).1=c1)(h2:(Lib.cut t [47]).2.1=c2)(h3:(Lib.cut t [47]).2.2=bar)(hd1:IsDig c1)(hd2:bar=true→IsDig c2):
 QOf s (mkRat (sgn neg (decVal c1)) (if bar=true then decVal c2 else 1)):=by
 by_cases h0:bar=true∧decVal c2=0
 ·
  rw[if_pos h0.1,h0.2,Rat.mkRat_zero]
  apply Qd0 ht
  intro hq
  exact(hq.2 (by rw[h3];exact h0.1)).2 (by rw[h2];exact h0.2)
 ·
  refine⟨mkRat (decVal c1:Nat) (if bar=true then decVal c2 else 1),?_,by rw[hn];exact Qmt _ _ _⟩
  rw[ht]
  refine .inl ⟨⟨by rw[h1];exact hd1,fun hb=>?_⟩,by rw[h1,h2,h3]⟩
  rw[h3] at hb
  rw[h2]
  exact⟨hd2 hb,fun hz=>h0 ⟨hb,hz⟩⟩
def OfAns(s:List UInt8)(w:World)(e:Ending)(w':World):Prop:=∃q,QOf s q∧FNew w q e w'
set_option maxRecDepth 100000 in
set_option maxHeartbeats 1000000 in
theorem Qgw(s:ByteArray)(m:Int)(w:World)(hm:w.cell? ⟨5,0,none⟩=some (.int .i64 m))(hs:s.size≤1073741824):
 Calls Tryz.prog 149 #[.string s] w (OfAns s.data.toList w):=by
 obtain⟨t,ht⟩:∃t,(⟨(Lib.trimPrefix s.data.toList [45]).toArray⟩:ByteArray)=t:=⟨_,rfl⟩
 obtain⟨neg,hneg⟩:∃neg,Lib.hasPrefix s.data.toList [45]=neg:=⟨_,rfl⟩
 have hte:Lib.trimPrefix s.data.toList [45]=t.data.toList:=by rw[←ht]
 have hts:t.size≤1073741824:=by
  have:=Qhs s.data.toList [45]
  rw[hte,Qad,Qad] at this
  omega
 obtain⟨c1,hc1⟩:∃c,(⟨(Lib.cut t.data.toList [47]).1.toArray⟩:ByteArray)=c:=⟨_,rfl⟩
 obtain⟨c2,hc2⟩:∃c,(⟨(Lib.cut t.data.toList [47]).2.1.toArray⟩:ByteArray)=c:=⟨_,rfl⟩
 obtain⟨bar,hbar⟩:∃b,(Lib.cut t.data.toList [47]).2.2=b:=⟨_,rfl⟩
 have he1:(Lib.cut t.data.toList [47]).1=c1.data.toList:=by rw[←hc1]
 have he2:(Lib.cut t.data.toList [47]).2.1=c2.data.toList:=by rw[←hc2]
 have hs1:c1.size≤1073741824:=by have:=Qhq t.data.toList;rw[he1,Qad,Qad] at this;omega
 have hs2:c2.size≤1073741824:=by have:=Qhr t.data.toList;rw[he2,Qad,Qad] at this;omega
 have HBP:=Hi ((Below.refl w.heap.size w).alloc (Nat.le_refl _) (.cells zeroFrac 128))
 have HM:=Hi ((HBP.out.cell (p:=⟨5,0,none⟩) (World.block_lt_of_cell? _ _ hm)).trans hm)
 have HS:=Hi (SB.new w 128 zeroFrac)
 obtain⟨wA,hwA⟩:∃wA,w.alloc (.cells zeroFrac 128)=wA:=⟨_,rfl⟩
 rw[hwA] at HBP HM HS
 have HCP:=Hi (Qmr s wA)
 have HCU:=Hi (Qms t m wA (by omega) HM.out)
 rw[ht,hneg] at HCP
 rw[hc1,hc2,hbar] at HCU
 have HWA:=Hi hwA
 have HTE:=Hi hte
 have HNG:=Hi hneg
 have HE1:=Hi he1
 have HE2:=Hi he2
 have HBR:=Hi hbar
 have HI1:=Hi (fun w=>Qgx c1 w hs1)
 have HI2:=Hi (fun w=>Qgx c2 w hs2)
 have HP1:=Hi (fun w h=>Qgu c1 w hs1 h)
 have HP2:=Hi (fun w h=>Qgu c2 w hs2 h)
 clear ht hneg hte hc1 hc2 hbar he1 he2 hm hwA
 go_enter Tryz.func149,Tryz.ntmps149
 go_wp2_with fail
 rw[show w.alloc (.cells #[.bool false,.slice none 0 0,.slice none 0 0] 128)=wA from HWA.out]
 go_fit HCP.out
 rintro e w1 ⟨rfl,hw⟩
 subst hw
 clear HCP
 go_wp2_with fail
 go_fit HCU.out
 rintro e w1 ⟨rfl,nD,hw⟩
 subst hw
 clear HCU
 have hbD:Below w1.heap.size w1 (w1.drewN nD):=Qdz (Below.refl _ _) nD
 obtain⟨wD,hwD⟩:∃wD,w1.drewN nD=wD:=⟨_,rfl⟩
 rw[hwD] at hbD
 have HBD:=Hi (HBP.out.trans (hbD.mono HBP.out.size))
 have HSD:=Hi (HS.out.below hbD HS.out.lt)
 have HWD:=Hi hwD
 clear hbD hwD HBP HS HM
 have HBP:=HBD
 have HS:=HSD
 clear HBD HSD
 go_wp2_with fail
 rw[HWD.out]
 go_fit (HI1.out _)
 rintro e w2 ⟨⟨v1,rfl,hv1⟩,hw2⟩
 subst hw2
 have HV1:=Hi hv1
 clear hv1
 cases v1 with
 |false=>
  have HQ:Hid (QOf s.data.toList 0):=Hi (Qd0 HTE.out (fun h=>by have:=HV1.out.2 (by rw[←HE1.out];exact h.1);cases this))
  have k0:=HS.out.cell 0
  have k1:=HS.out.cell 1
  have k2:=HS.out.cell 2
  have f0:=HS.out.free 0
  have f1:=HS.out.free 1
  have f2:=HS.out.free 2
  simp[zeroFrac] at k0 k1 k2
  go_wp2
  refine bodyPost_ret (v:=.agg #[.bool false,.slice none 0 0,.slice none 0 0]) (results_cell_row rfl _ _ (w.heap.size) 128 #[.bool false,.slice none 0 0,.slice none 0 0] (0,0) _ rfl (((HS.out.set 0 _).set 1 _).set 2 _) Tryz.underlying128 rfl Tryz.fracInfo) rfl ?_
  exact⟨0,HQ.out,⟨_,rfl,FracV.zero _⟩,((HBP.out.setCell (Nat.le_refl _) _).setCell (Nat.le_refl _) _).setCell (Nat.le_refl _) _⟩
 |true=>
  have HD1:Hid (IsDig c1.data.toList):=Hi (HV1.out.1 rfl)
  clear HV1
  cases bar with
  |false=>
   have HQ:=Hi (Qgv HTE.out HNG.out HE1.out HE2.out HBR.out HD1.out (fun h=>by cases h))
   go_wp2_with fail
   go_fit (HP1.out _ HD1.out.2)
   rintro e w3 hN
   obtain⟨⟨a,n,c,rfl,hv⟩,hb⟩:=hN.numV
   have HNV:=Hi hv
   have HS':=Hi (HS.out.below hb HS.out.lt)
   have HBP':=Hi (HBP.out.trans (hb.mono HBP.out.size))
   clear HS HBP hv hb hN
   have HS:=HS'
   have HBP:=HBP'
   clear HS' HBP'
   go_wp2_with fail
   go_fit (Qce neg a none n c 0 0 (decVal c1.data.toList) 1 _ HNV.out (.inl ⟨rfl,rfl,rfl,rfl⟩) (Nat.coprime_one_right _))
   rintro e w9 ⟨⟨v9,rfl,hv⟩,hb⟩
   obtain⟨neg9,a9,n9,c9,b9,m9,d9,rfl,hv⟩:=hv
   have hs:=HS.out.below hb HS.out.lt
   have k0:=hs.cell 0
   have k1:=hs.cell 1
   have k2:=hs.cell 2
   have f0:=hs.free 0
   have f1:=hs.free 1
   have f2:=hs.free 2
   simp[zeroFrac] at k0 k1 k2
   have HV:=Hi hv
   have HS9:=Hi hs
   have HB9:=Hi (HBP.out.trans (hb.mono HBP.out.size))
   clear hv hs hb
   go_wp2
   refine bodyPost_ret (v:=.agg #[.bool neg9,.slice a9 n9 c9,.slice b9 m9 d9]) (results_cell_row rfl _ _ (w.heap.size) 128 #[.bool neg9,.slice a9 n9 c9,.slice b9 m9 d9] (0,0) _ rfl (((HS9.out.set 0 _).set 1 _).set 2 _) Tryz.underlying128 rfl Tryz.fracInfo) rfl ?_
   have ho:=(((Only.refl (w.heap.size) w9).setCell 0 (.bool neg9)).setCell 1 (.slice a9 n9 c9)).setCell 2 (.slice b9 m9 d9)
   exact⟨_,HQ.out,⟨_,rfl,neg9,a9,n9,c9,b9,m9,d9,rfl,HV.out.only ho HS9.out Qaz⟩,Only.fresh HB9.out ho (by omega)⟩
  |true=>
   go_wp2_with fail
   go_fit (HI2.out _)
   rintro e w3 ⟨⟨v2,rfl,hv2⟩,hw3⟩
   subst hw3
   have HV2:=Hi hv2
   clear hv2
   cases v2 with
   |false=>
    have HQ:Hid (QOf s.data.toList 0):=Hi (Qd0 HTE.out (fun h=>by have:=HV2.out.2 (by rw[←HE2.out];exact(h.2 HBR.out).1);cases this))
    have k0:=HS.out.cell 0
    have k1:=HS.out.cell 1
    have k2:=HS.out.cell 2
    have f0:=HS.out.free 0
    have f1:=HS.out.free 1
    have f2:=HS.out.free 2
    simp[zeroFrac] at k0 k1 k2
    go_wp2
    refine bodyPost_ret (v:=.agg #[.bool false,.slice none 0 0,.slice none 0 0]) (results_cell_row rfl _ _ (w.heap.size) 128 #[.bool false,.slice none 0 0,.slice none 0 0] (0,0) _ rfl (((HS.out.set 0 _).set 1 _).set 2 _) Tryz.underlying128 rfl Tryz.fracInfo) rfl ?_
    exact⟨0,HQ.out,⟨_,rfl,FracV.zero _⟩,((HBP.out.setCell (Nat.le_refl _) _).setCell (Nat.le_refl _) _).setCell (Nat.le_refl _) _⟩
   |true=>
    have HD2:Hid (IsDig c2.data.toList):=Hi (HV2.out.1 rfl)
    clear HV2
    obtain⟨K0,hK0⟩:∃K0,1073741824=K0:=⟨_,rfl⟩
    obtain⟨K,hK⟩:∃K,4*K0=K:=⟨_,rfl⟩
    have HK1:Hid (decVal c1.data.toList<2 ^ K):=Hi (by rw[←hK];exact Qct HD1.out.2 (by rw[Qad,←hK0];exact hs1))
    have HK2:Hid (decVal c2.data.toList<2 ^ K):=Hi (by rw[←hK];exact Qct HD2.out.2 (by rw[Qad,←hK0];exact hs2))
    have HKK:Hid (K+K<137438953000):=Hi (by omega)
    clear hK hK0
    have HQ:=Hi (Qgv HTE.out HNG.out HE1.out HE2.out HBR.out HD1.out (fun _=>HD2.out))
    go_wp2_with fail
    go_fit (HP1.out _ HD1.out.2)
    rintro e w3 hN
    obtain⟨⟨a,n,c,rfl,hv⟩,hb⟩:=hN.numV
    have HNV:=Hi hv
    have HS':=Hi (HS.out.below hb HS.out.lt)
    have HBP':=Hi (HBP.out.trans (hb.mono HBP.out.size))
    clear HS HBP hv hb hN
    have HS:=HS'
    have HBP:=HBP'
    clear HS' HBP'
    go_wp2_with fail
    go_fit (HP2.out _ HD2.out.2)
    rintro e w4 hN
    obtain⟨⟨a2,n2,cc2,rfl,hv⟩,hb⟩:=hN.numV
    have HNV2:=Hi hv
    have HNV1:=Hi (HNV.out.below hb)
    have HS':=Hi (HS.out.below hb HS.out.lt)
    have HBP':=Hi (HBP.out.trans (hb.mono HBP.out.size))
    clear HS HBP hv hb hN HNV
    have HS:=HS'
    have HBP:=HBP'
    clear HS' HBP'
    go_wp2_with fail
    go_fit (Qkb neg a a2 n c n2 cc2 (decVal c1.data.toList) (decVal c2.data.toList) K K _ HNV1.out HNV2.out HK1.out HK2.out HKK.out)
    rintro e w9 ⟨⟨v9,rfl,hv⟩,hb⟩
    obtain⟨neg9,a9,n9,c9,b9,m9,d9,rfl,hv⟩:=hv
    have hs:=HS.out.below hb HS.out.lt
    have k0:=hs.cell 0
    have k1:=hs.cell 1
    have k2:=hs.cell 2
    have f0:=hs.free 0
    have f1:=hs.free 1
    have f2:=hs.free 2
    simp[zeroFrac] at k0 k1 k2
    have HV:=Hi hv
    have HS9:=Hi hs
    have HB9:=Hi (HBP.out.trans (hb.mono HBP.out.size))
    clear hv hs hb
    go_wp2
    refine bodyPost_ret (v:=.agg #[.bool neg9,.slice a9 n9 c9,.slice b9 m9 d9]) (results_cell_row rfl _ _ (w.heap.size) 128 #[.bool neg9,.slice a9 n9 c9,.slice b9 m9 d9] (0,0) _ rfl (((HS9.out.set 0 _).set 1 _).set 2 _) Tryz.underlying128 rfl Tryz.fracInfo) rfl ?_
    have ho:=(((Only.refl (w.heap.size) w9).setCell 0 (.bool neg9)).setCell 1 (.slice a9 n9 c9)).setCell 2 (.slice b9 m9 d9)
    exact⟨_,HQ.out,⟨_,rfl,neg9,a9,n9,c9,b9,m9,d9,rfl,HV.out.only ho HS9.out Qaz⟩,Only.fresh HB9.out ho (by omega)⟩
end Go.Proofs.YtjhdfkcdigmfhaaGreatDoor
namespace Go.Proofs
open Go.Shelf
def Tryz.lays169_ren:Go.Shelf.Ren:=⟨fun|169=>105|n=>n,fun|70=>162|9=>9|0=>0|72=>165|37=>163|127=>245|3=>3|5=>5|n=>n,fun|n=>n⟩
theorem Tryz.lays169:Go.Proofs.Lays.n169 Tryz.prog Tryz.lays169_ren:={
 mixed:=by kernel_rfl
 f169:=Tryz.func105.trans (congrArg some (by kernel_rfl))
 t0:=Tryz.underlying0
 a0:=Tryz.isAgg0
 z0:=Tryz.sizeOf0
 v0:=Tryz.zeroValue0
 t3:=Tryz.underlying3
 a3:=Tryz.isAgg3
 z3:=Tryz.sizeOf3
 v3:=Tryz.zeroValue3
 t9:=Tryz.underlying9
 a9:=Tryz.isAgg9
 z9:=Tryz.sizeOf9
 v9:=Tryz.zeroValue9
 t37:=Tryz.underlying163
 a37:=Tryz.isAgg163
 z37:=Tryz.sizeOf163
 v37:=Tryz.zeroValue163
 t70:=Tryz.underlying162
 a70:=Tryz.isAgg162
 z70:=Tryz.sizeOf162
 v70:=Tryz.zeroValue162
 t72:=Tryz.underlying165
 a72:=Tryz.isAgg165
 z72:=Tryz.sizeOf165
 v72:=Tryz.zeroValue165
 t127:=Tryz.underlying245
 a127:=Tryz.isAgg245
 z127:=Tryz.sizeOf245
 v127:=Tryz.zeroValue245 }
def Tryz.lays283_ren:Go.Shelf.Ren:=⟨fun|283=>288|n=>n,fun|3=>3|9=>9|4=>4|n=>n,fun|n=>n⟩
theorem Tryz.lays283:Go.Proofs.Lays.n283 Tryz.prog Tryz.lays283_ren:={
 mixed:=by kernel_rfl
 f283:=Tryz.func288.trans (congrArg some (by kernel_rfl))
 t3:=Tryz.underlying3
 a3:=Tryz.isAgg3
 z3:=Tryz.sizeOf3
 v3:=Tryz.zeroValue3
 t4:=Tryz.underlying4
 a4:=Tryz.isAgg4
 z4:=Tryz.sizeOf4
 v4:=Tryz.zeroValue4
 t9:=Tryz.underlying9
 a9:=Tryz.isAgg9
 z9:=Tryz.sizeOf9
 v9:=Tryz.zeroValue9 }
def Tryz.lays284_ren:Go.Shelf.Ren:=⟨fun|284=>289|129=>318|317=>317|318=>319|n=>n,fun|53=>222|3=>3|212=>361|0=>0|4=>4|46=>294|5=>5|9=>9|n=>n,fun|17=>8|n=>n⟩
theorem Tryz.lays284:Go.Proofs.LaysM.n284 Tryz.prog Tryz.lays284_ren:={
 mixed:=by kernel_rfl
 f129:=Tryz.func318.trans (congrArg some (by kernel_rfl))
 f284:=Tryz.func289.trans (congrArg some (by kernel_rfl))
 f317:=Tryz.func317.trans (congrArg some (by kernel_rfl))
 f318:=Tryz.func319.trans (congrArg some (by kernel_rfl))
 t0:=Tryz.underlying0
 a0:=Tryz.isAgg0
 z0:=Tryz.sizeOf0
 v0:=Tryz.zeroValue0
 t3:=Tryz.underlying3
 a3:=Tryz.isAgg3
 z3:=Tryz.sizeOf3
 v3:=Tryz.zeroValue3
 t4:=Tryz.underlying4
 a4:=Tryz.isAgg4
 z4:=Tryz.sizeOf4
 v4:=Tryz.zeroValue4
 t5:=Tryz.underlying5
 a5:=Tryz.isAgg5
 z5:=Tryz.sizeOf5
 v5:=Tryz.zeroValue5
 t9:=Tryz.underlying9
 a9:=Tryz.isAgg9
 z9:=Tryz.sizeOf9
 v9:=Tryz.zeroValue9
 t46:=Tryz.underlying294
 a46:=Tryz.isAgg294
 z46:=Tryz.sizeOf294
 v46:=Tryz.zeroValue294
 t53:=Tryz.underlying222
 a53:=Tryz.isAgg222
 z53:=Tryz.sizeOf222
 v53:=Tryz.zeroValue222
 t212:=Tryz.underlying361
 a212:=Tryz.isAgg361
 z212:=Tryz.sizeOf361
 v212:=Tryz.zeroValue361
 g17:=by kernel_rfl
 i0:=by kernel_rfl
 i3:=by kernel_rfl
 i4:=by kernel_rfl
 i5:=by kernel_rfl
 i9:=by kernel_rfl
 i46:=by kernel_rfl
 i53:=by kernel_rfl
 i212:=by kernel_rfl
 m17:=by kernel_rfl }
def Tryz.lays285_ren:Go.Shelf.Ren:=⟨fun|285=>290|n=>n,fun|37=>163|53=>222|3=>3|4=>4|51=>286|9=>9|5=>5|0=>0|n=>n,fun|n=>n⟩
theorem Tryz.lays285:Go.Proofs.Lays.n285 Tryz.prog Tryz.lays285_ren:={
 mixed:=by kernel_rfl
 f285:=Tryz.func290.trans (congrArg some (by kernel_rfl))
 t0:=Tryz.underlying0
 a0:=Tryz.isAgg0
 z0:=Tryz.sizeOf0
 v0:=Tryz.zeroValue0
 t3:=Tryz.underlying3
 a3:=Tryz.isAgg3
 z3:=Tryz.sizeOf3
 v3:=Tryz.zeroValue3
 t4:=Tryz.underlying4
 a4:=Tryz.isAgg4
 z4:=Tryz.sizeOf4
 v4:=Tryz.zeroValue4
 t5:=Tryz.underlying5
 a5:=Tryz.isAgg5
 z5:=Tryz.sizeOf5
 v5:=Tryz.zeroValue5
 t9:=Tryz.underlying9
 a9:=Tryz.isAgg9
 z9:=Tryz.sizeOf9
 v9:=Tryz.zeroValue9
 t37:=Tryz.underlying163
 a37:=Tryz.isAgg163
 z37:=Tryz.sizeOf163
 v37:=Tryz.zeroValue163
 t51:=Tryz.underlying286
 a51:=Tryz.isAgg286
 z51:=Tryz.sizeOf286
 v51:=Tryz.zeroValue286
 t53:=Tryz.underlying222
 a53:=Tryz.isAgg222
 z53:=Tryz.sizeOf222
 v53:=Tryz.zeroValue222 }
end Go.Proofs
namespace Go.Proofs.YtjhdfkcdigmfhaaGreatDoor
open Go.RowKit Go.Sort Go.Lib
set_option linter.unusedVariables false
set_option linter.unusedSimpArgs false
def Tab(w:World):Prop:=Lib.TabIs Tryz.prog w "internal/strconv.uint64pow10" .u64 Lib.pow10Tab
theorem Tab.below{w w':World}(h:Tab w)(hb:Below w.heap.size w w'):Tab w':=by
 unfold Tab Lib.TabIs World.var? at*
 cases hg:Tryz.prog.globalNamed "internal/strconv.uint64pow10" with
 |none=>simp[hg] at h
 |some g=>
  simp only[hg,Option.bind_some] at h ⊢
  have hlt:g<w.heap.size:=by
   rcases Nat.lt_or_ge g w.heap.size with h'|h'
   · exact h'
   · simp[Array.getElem?_eq_none h'] at h
  rw[hb.block g hlt]
  exact h
theorem Qqp(i:Nat)(h:i<100)(w:World):Calls Tryz.prog 288 #[.int .i64 i] w fun e w'=>e=.returned (.string ⟨(Lib.decDigits i).toArray⟩)∧w'=w:=Any.internal_strconv_small Tryz.lays283 i h w
theorem Qqq(u:Nat)(h1:1≤u)(h2:u<18446744073709551616)(w:World)(ht:Tab w):Calls Tryz.prog 289 #[.int .u64 u] w fun e w'=>e=.returned (.int .i64 (Lib.nDigits u))∧w'=w:=Any.internal_strconv_numDigits Tryz.lays284 u h1 h2 w ht
theorem Qqr(blk off cap:Nat)(u:Nat)(d:Array UInt8)(w:World)(hH:Go.Sort.Holds (fun (b:UInt8)=>Value.int .u8 (b.toNat:Int)) w blk off d)(hu:u<10 ^ d.size)(hu64:u<18446744073709551616)(hsz:d.size<4611686018427387904):
 Calls Tryz.prog 290 #[.slice (some ⟨blk,off,none⟩) d.size cap,.int .u64 u] w fun e w'=>
  e=.returned (.tuple #[])∧∃(n v':Nat) (dk:Array UInt8),w'=(putRow (fun (b:UInt8)=>Value.int .u8 (b.toNat:Int)) w blk off dk).drewN n∧FmtInv d.size u 0 v' dk:=Any.internal_strconv_formatBase10 Tryz.lays285 blk off cap u d w hH hu hu64 hsz
theorem Qqs(w:World)(T:TypeId)(nd:Nat)(hs:nd≤24):Go.Sort.Holds (fun (b:UInt8)=>Value.int .u8 (b.toNat:Int)) (w.alloc (.cells zeros24 T)) w.heap.size 0 (Array.replicate nd (0:UInt8)):=fun j hj=>by
 have hj':j<nd:=by simpa using hj
 refine⟨?_,World.frozen?_alloc_new _ _ _ _⟩
 rw[World.cell?_alloc_new,zeros24_at _ (by omega),getElem!_pos _ j hj]
 simp
theorem Qqt(w:World)(o:Obj)(dk:Array UInt8)(k:Nat):Below w.heap.size w ((putRow (fun (b:UInt8)=>Value.int .u8 (b.toNat:Int)) (w.alloc o) w.heap.size 0 dk).drewN k):=by
 rw[alloc_eq_grow]
 obtain⟨os',_,e⟩:=putRow_grow_new (fun (b:UInt8)=>Value.int .u8 (b.toNat:Int)) w #[o] w.heap.size 0 dk (Nat.le_refl _)
 rw[e]
 exact below_grow w.heap.size w (Nat.le_refl _) k os'
set_option maxHeartbeats 6400000 in
set_option maxRecDepth 100000 in
theorem Qqu(u:Nat)(hu64:u<18446744073709551616)(w:World)(ht:Tab w):
 Calls Tryz.prog 326 #[.int .u64 u,.int .i64 10] w fun e w'=>e=.returned (.string ⟨(Lib.decDigits u).toArray⟩)∧Below w.heap.size w w':=by
 by_cases hs:u<100
 ·
  have HS:=Hi (Qqp u hs w)
  clear ht
  go_enter Tryz.func326,Tryz.ntmps326
  go_wp2_with fail
  go_fit HS.out
  rintro e w1 ⟨rfl,hw⟩
  subst hw
  clear HS
  go_wp2
  go_ret
  exact⟨rfl,Below.refl _ _⟩
 ·
  have hnd20:Lib.nDigits u≤20:=by have:=Lib.numDigits_eq u (by omega) hu64;split at this<;>omega
  have HNL:=Hi (Lib.lt_pow_nDigits u)
  have HDL:=Hi (Lib.decDigits_length u)
  have HND:=Hi (Qqq u (by omega) hu64 (w.alloc (.cells zeros24 335)) (Tab.below ht ((Below.refl _ _).alloc (Nat.le_refl _) _)))
  have HH0:=Hi (Qqs w 335 (Lib.nDigits u) (by omega))
  have HF:=Hi (Qqr w.heap.size 0 24 u (Array.replicate (Lib.nDigits u) 0) (w.alloc (.cells zeros24 335)) HH0.out (by rw[Array.size_replicate];exact HNL.out) hu64 (by rw[Array.size_replicate];omega))
  rw[Array.size_replicate] at HF
  obtain⟨N,hN⟩:∃N,Lib.nDigits u=N:=⟨_,rfl⟩
  have hsl:∀W,(Instr.sliceAt 335 (.pointer (some ⟨w.heap.size,0,none⟩)) none (some (.int .i64 (N:Int))) none).run Tryz.prog W=.ok (.slice (some ⟨w.heap.size,0,none⟩) N 24) W:=fun W=>by
   have hal:Tryz.prog.arrayLen 335=24:=by simp[Program.arrayLen,Tryz.underlying335]
   rw[run_sliceAt_array_h W 335 ⟨w.heap.size,0,none⟩ (by simp[Program.arrayLen,Program.elem,Tryz.underlying335]) .i64 (N:Int) (by omega) (by rw[hal];omega)]
   go_simp
  rw[hN] at HNL HDL HND HH0 HF hnd20
  have q0:¬((u:Int)<100):=by omega
  obtain⟨wA,hwA⟩:∃wA,w.alloc (.cells zeros24 335)=wA:=⟨_,rfl⟩
  have HWA:=Hi hwA
  have HPB:=Hi (fun dk k=>Qqt w (.cells zeros24 335) dk k)
  rw[hwA] at HND HH0 HF HPB
  have HNE:=Hi hN
  have hN24:N≤24:=by omega
  clear ht hs hwA hN
  go_enter Tryz.func326,Tryz.ntmps326
  go_wp2_with fail
  have hWA:=HWA.out
  unfold zeros24 at hWA
  rw[hWA]
  clear hWA
  go_fit HND.out
  rintro e w1 ⟨rfl,hw⟩
  subst hw
  clear HND
  go_wp2_with fail
  go_fit HF.out
  rintro e w2 ⟨rfl,k,v',dk,hw2,hF⟩
  have HPB2:=Hi (HPB.out dk k)
  rw[←hw2] at HPB2
  have hcv:(convert 163 9 (.slice (some ⟨w.heap.size,0,none⟩) N 24)).run Tryz.prog w2=.ok (.string ⟨(Lib.decDigits u).toArray⟩) w2:=by
   have h:=run_convert_bytes_back (P:=Tryz.prog) w2 163 9 5 ⟨w.heap.size,0,none⟩ 24 (Lib.decDigits u) Tryz.underlying163 Tryz.underlying5 Tryz.underlying9 (fun j hj=>by
    rw[HDL.out] at hj
    rw[Lib.row_is_numeral (by rw[HNE.out];exact hF) j (by rw[HDL.out];exact hj),Lib.add_plain,hw2,World.cell?_drewN]
    exact cell?_putRow (fun (b:UInt8)=>Value.int .u8 (b.toNat:Int)) _ w.heap.size 0 _ dk HH0.out (by rw[hF.size,Array.size_replicate]) j (by rw[hF.size];exact hj))
   rw[HDL.out] at h
   exact h
  clear hw2 hF HF
  go_wp2
  go_ret
  exact⟨rfl,HPB2.out⟩
set_option maxRecDepth 100000 in
theorem Qqv(u:Nat)(hu64:u<18446744073709551616)(w:World)(ht:Tab w):
 Calls Tryz.prog 313 #[.int .u64 u,.int .i64 10] w fun e w'=>e=.returned (.string ⟨(Lib.decDigits u).toArray⟩)∧Below w.heap.size w w':=by
 have HS:=Hi (Qqu u hu64 w ht)
 clear ht
 go_enter Tryz.func313,Tryz.ntmps313
 go_wp2_with fail
 go_fit HS.out
 rintro e w1 ⟨rfl,hb⟩
 have HB:=Hi hb
 clear HS hb
 go_wp2
 go_ret
 exact⟨rfl,HB.out⟩
end Go.Proofs.YtjhdfkcdigmfhaaGreatDoor
namespace Go.Proofs.YtjhdfkcdigmfhaaGreatDoor
open Go.RowKit
set_option linter.unusedVariables false
set_option linter.unusedSimpArgs false
theorem Tryz.extra:Builder.Extra Tryz.prog Tryz.lays169_ren where
 sizeBuilder:=by kernel_rfl
 liesBuilder:=by kernel_rfl
 t5:=Tryz.underlying5
 a5:=Tryz.isAgg5
 z5:=Tryz.sizeOf5
 v5:=Tryz.zeroValue5
 infoByte:=by kernel_rfl
 cellsByte:=by kernel_rfl
 sizeByte:=by kernel_rfl
 neB5:=by decide
theorem Tryz.bdSize:(Tryz.prog.info? 165).map (·.size)=some 2:=by kernel_rfl
theorem Tryz.bdLies:liesAt Tryz.prog Tryz.prog.depth 165 (2 / Tryz.prog.cellsOf 165) 0 165 1=true:=by kernel_rfl
abbrev Bd(B b:Nat)(bs:List Value)(w:World):Prop:=Lib.IsBuilder 165 5 B b bs w
abbrev BdAt(B b:Nat)(bs:List Value)(w:World):Prop:=Lib.BuilderAt 165 5 B b (.pointer (some ⟨b,0,none⟩)) bs w
theorem Qp7(B b:Nat)(l:List UInt8)(w:World)(h:Bd B b (Lib.byteCells l) w)(hBw:B≤w.heap.size):
 Calls Tryz.prog 105 #[.pointer (some ⟨b,0,none⟩)] w fun e w'=>e=.returned (.string ⟨l.toArray⟩)∧Below B w w':=Any.Builder_String_any Tryz.lays169 Tryz.extra B b l w h hBw
set_option maxHeartbeats 1000000 in
set_option maxRecDepth 100000 in
theorem Qp8(b:Nat)(w:World)(h0:w.cell? ⟨b,0,none⟩=some (.pointer (some ⟨b,0,none⟩))):
 Calls Tryz.prog 184 #[.pointer (some ⟨b,0,none⟩)] w fun e w'=>e=.returned (.tuple #[])∧w'=w:=by
 obtain⟨j,hj,_⟩:=Option.map_eq_some_iff.1 Tryz.bdSize
 have hne:∀w,(binOp .neq 162 (.pointer (some ⟨b,0,none⟩)) (.pointer (some ⟨b,0,none⟩))).run Tryz.prog w=.ok (.bool false) w:=fun w=>Lib.run_neq_ptr_same w ⟨b,0,none⟩ Tryz.underlying162 hj
 go_enter Tryz.func184,Tryz.ntmps184
 go_wp2
 go_end0
 exact⟨rfl,rfl⟩
set_option maxHeartbeats 1000000 in
set_option maxRecDepth 100000 in
theorem Qp9(b:Nat)(w:World)(h0:w.cell? ⟨b,0,none⟩=some (.pointer none))(hsh:w.shape? b=some (165,2))(hfz:w.frozen? ⟨b,0,none⟩=false):
 Calls Tryz.prog 184 #[.pointer (some ⟨b,0,none⟩)] w fun e w'=>e=.returned (.tuple #[])∧w'=w.setCell ⟨b,0,none⟩ (.pointer (some ⟨b,0,none⟩)):=by
 obtain⟨j,hj,hjs⟩:=Option.map_eq_some_iff.1 Tryz.bdSize
 have h1:(convert 162 297 (.pointer (some ⟨b,0,none⟩))).run Tryz.prog w=.ok (.pointer (some ⟨b,0,none⟩)) w:=Lib.run_to_unsafe w ⟨b,0,none⟩ Tryz.underlying162 Tryz.underlying297 hj (by rw[hjs];decide) hsh (Nat.zero_lt_succ 1)
 have h2:(callFunc 237 #[.pointer (some ⟨b,0,none⟩)]).run Tryz.prog w=.ok (.value (.pointer (some ⟨b,0,none⟩))) w:=by
  rw[run_callFunc_extern Tryz.func237 (by kernel_rfl) (by kernel_rfl) (by kernel_rfl) (e:=Extern.AbiNoEscape.same) (by kernel_rfl),Lib.run_noEscape]
  rfl
 have h3:(convert 297 162 (.pointer (some ⟨b,0,none⟩))).run Tryz.prog w=.ok (.pointer (some ⟨b,0,none⟩)) w:=Lib.run_from_unsafe w ⟨b,0,none⟩ Tryz.underlying297 Tryz.underlying162 hj hsh Tryz.bdLies
 clear hj hjs hsh
 go_enter Tryz.func184,Tryz.ntmps184
 go_wp2_with simp only[h2]
 go_end0
 exact⟨rfl,rfl⟩
def bufOf(w:World)(b:Nat):Option Nat:=(w.cell? ⟨b,1,none⟩).bind Value.ownBlock
structure Wr (b:Nat) (w w':World):Prop where
 size:w.heap.size≤w'.heap.size
 block:∀k,k<w.heap.size→k≠b→bufOf w b≠some k→w'.heap[k]?=w.heap[k]?
 buf:bufOf w' b=bufOf w b∨∃g,w.heap.size≤g∧bufOf w' b=some g
theorem Wr.refl(b:Nat)(w:World):Wr b w w:=⟨Nat.le_refl _,fun _ _ _ _=>rfl,.inl rfl⟩
theorem Wr.keep{b:Nat}{w w':World}(h:Wr b w w'){k:Nat}(hk:k<w.heap.size)(hn:bufOf w b≠some k):bufOf w' b≠some k:=by
 rcases h.buf with h1|⟨g,hg,h1⟩
 · rw[h1];exact hn
 · rw[h1];intro hc;injection hc with hc;omega
theorem Wr.trans{b:Nat}{u v w:World}(h:Wr b u v)(k:Wr b v w):Wr b u w:=by
 refine⟨Nat.le_trans h.size k.size,fun i hi hb hn=>?_,?_⟩
 · rw[k.block i (by have:=h.size;omega) hb (h.keep hi hn)]
   exact h.block i hi hb hn
 ·
  rcases k.buf with h1|⟨g,hg,h1⟩
  · rw[h1];exact h.buf
  · exact .inr ⟨g,by have:=h.size;omega,h1⟩
theorem Wr.below{b:Nat}{w w':World}(hb:b<w.heap.size)(h:Below w.heap.size w w'):Wr b w w':=
 ⟨h.size,fun k hk _ _=>h.block k hk,.inl (by unfold bufOf;rw[h.cell (p:=⟨b,1,none⟩) hb])⟩
theorem BdAt.lt'{B b:Nat}{bs:List Value}{w:World}(h:Bd B b bs w):b<w.heap.size:=by rcases h with h|h<;>exact h.lt
theorem Qio{b:Nat}{w w1 w2:World}{p v v':Value}(hv:w.heap[b]?=some (.cells #[p,v] 165 (0,0)))(h01:Below w.heap.size w w1)(hg:w1.grownBy w2 v.ownBlock)(hat:v'.ownBlock=v.ownBlock∨v'.ownBlock=some w1.heap.size)(hne:v.ownBlock≠some b):Wr b w (w2.setCell ⟨b,1,none⟩ v'):=by
 have hb:b<w.heap.size:=by
  rcases Nat.lt_or_ge b w.heap.size with h'|h'
  · exact h'
  · simp[Array.getElem?_eq_none h'] at hv
 have e0:bufOf w b=v.ownBlock:=by unfold bufOf;rw[Lib.cell_of_heap hv];rfl
 have h1:w1.heap[b]?=some (.cells #[p,v] 165 (0,0)):=by rw[h01.block b hb];exact hv
 have h2:w2.heap[b]?=some (.cells #[p,v] 165 (0,0)):=by rw[hg.block b (by have:=h01.size;omega) (fun e=>hne e.symm)];exact h1
 have e2:bufOf (w2.setCell ⟨b,1,none⟩ v') b=v'.ownBlock:=by
  unfold bufOf
  rw[World.cell?_setCell_same _ _ _ (show w2.cell? ⟨b,1,none⟩=some v by rw[Lib.cell_of_heap h2];rfl)]
  rfl
 refine⟨?_,fun k hk hkb hn=>?_,?_⟩
 ·
  have a1:=h01.size
  have a2:=hg.size
  simp[World.setCell];omega
 · rw[Below.heap_setCell _ _ _ _ hkb,hg.block k (by have:=h01.size;omega) (fun e=>hn (by rw[e0];exact e.symm)),h01.block k hk]
 ·
  rw[e2,e0]
  rcases hat with h|h
  · exact .inl h
  · exact .inr ⟨_,h01.size,h⟩
def U8In(C:Array Value):Prop:=∀(i:Nat) u,C[i]?=some u→∃n,u=Value.int .u8 n
def U8Blk(w:World)(v:Value):Prop:=∀g,v.ownBlock=some g→∃C t f,w.heap[g]?=some (.cells C t f)∧U8In C
theorem U8In.append{C D:Array Value}(h:U8In C)(k:U8In D):U8In (C++D):=fun i u hu=>by
 rw[Array.getElem?_append] at hu
 split at hu
 · exact h _ _ hu
 · exact k _ _ hu
theorem U8In.zeros(n:Nat):U8In (Builtin.zeroCells (Value.int .u8 0).cells n):=fun i u hu=>by
 have hm:=Array.mem_of_getElem? hu
 simp[Builtin.zeroCells,Value.cells] at hm
 obtain⟨j,hj,e⟩:=hm
 rw[Nat.mod_one] at e
 exact⟨0,e.symm⟩
theorem U8In.list{l:List Value}(h:∀u,u∈ l→∃n,u=Value.int .u8 n):U8In l.toArray:=fun i u hu=>h u (by rw[List.getElem?_toArray] at hu;exact List.mem_of_getElem? hu)
theorem U8In.mem{C:Array Value}(h:U8In C){u:Value}(hu:u∈ C.toList):∃n,u=Value.int .u8 n:=by
 obtain⟨i,hi⟩:=List.mem_iff_getElem?.1 hu
 exact h i u (by rw[Array.getElem?_toList] at hi;exact hi)
theorem Qip(s:ByteArray):∀u,u∈ Lib.strCells s→∃n,u=Value.int .u8 n:=fun u hu=>by
 unfold Lib.strCells at hu
 obtain⟨c,_,rfl⟩:=List.mem_map.1 hu
 exact⟨_,rfl⟩
theorem U8Blk.new(w:World)(C:Array Value)(t:TypeId)(n cap:Nat)(h:U8In C):U8Blk (w.drew.alloc (.cells C t)) (.slice (some ⟨w.heap.size,0,none⟩) n cap):=fun g hg=>by
 have e:w.heap.size=g:=by simpa [Value.ownBlock] using hg
 subst e
 exact⟨C,t,_,heap_alloc_new w.drew _,h⟩
theorem U8Blk.row{w:World}{g n cap n' cap':Nat}{cur news:Array Value}{t:TypeId}{f:Nat × Nat}(hg:w.heap[g]?=some (.cells cur t f))(h:U8In news):U8Blk (w.setRow g news) (.slice (some ⟨g,0,none⟩) n cap):=fun g' hg'=>by
 have e:g=g':=by simpa [Value.ownBlock] using hg'
 subst e
 exact⟨news,t,f,setRow_heap w g cur _ t _ hg,h⟩
theorem Qqw{w:World}{base:Nat}{v v':Value}{n m cc:Nat}{xs news:List Value}{a:Addr}{w':World}{ty:TypeId}{i:TypeInfo}(hi:Tryz.prog.info? 5=some i)(hz:i.zero=some (.int .u8 0))(hs1:i.size=1)(hby:i.bytes=1)(hown:w.ownsRow base 5 1 v n xs)(hu:U8Blk w v)
 (hl:news.length=m) (hnews:∀j u,news[j]?=some u→w.cell? (a.add j)=some u) (h1:∀u∈ news,u.oneCell'=true) (h8:∀u,u∈ news→∃n,u=Value.int .u8 n) (h0:0<m) (h63:n+m≤140737488355328)
 (hr:(Builtin.append_ #[163,163] ty #[v,.slice (some a) m cc]).run Tryz.prog w=.ok v' w'):U8Blk w' v':=by
 have hxl:xs.length=n:=by simpa using hown.1
 have hown0:=hown
 have hl':news.length=m*i.size:=by rw[hs1,Nat.mul_one];exact hl
 rcases hown.2 with ⟨rfl,rfl⟩|⟨g,cap,cur,rfl,hbg,hg,hnc,hcm,hcs,htake⟩
 ·
  rw[run_append_nil (P:=Tryz.prog) w 163 ty 5 i (.int .u8 0) Tryz.underlying163 hi hz a m cc news hl' hnews h0 (by omega) (by rw[hby];omega)] at hr
  injection hr with e1 e2
  rw[←e1,←e2]
  exact U8Blk.new _ _ _ _ _ ((U8In.list h8).append (U8In.zeros _))
 ·
  obtain⟨C,tt,ff,hC,hC8⟩:=hu g rfl
  rw[hg] at hC
  injection hC with hC
  injection hC with hC _ _
  subst hC
  by_cases hroom:n+m≤cap
  ·
   rw[run_append_room (P:=Tryz.prog) w 163 ty 5 i Tryz.underlying163 hi g n cap cur hg a m cc news hl' hnews h1 hroom (by rw[hs1];omega)] at hr
   injection hr with e1 e2
   rw[←e1,←e2]
   refine U8Blk.row (n':=0) (cap':=0) hg (U8In.list fun u hu=>?_)
   simp only[List.mem_append] at hu
   rcases hu with (hu|hu)|hu
   · exact hC8.mem (List.mem_of_mem_take hu)
   · exact h8 u hu
   · exact hC8.mem (List.mem_of_mem_drop hu)
  ·
   have holds:∀j u,xs[j]?=some u→w.cell? ((⟨g,0,none⟩:Addr).add j)=some u:=hown0.cells (g:=g) rfl
   rw[run_append_grow (P:=Tryz.prog) w 163 ty 5 i (.int .u8 0) Tryz.underlying163 hi hz ⟨g,0,none⟩ n cap xs (by rw[hs1];simpa using hxl) holds a m cc news hl' hnews (by omega) (by omega) (by rw[hby];exact growslice_fits (by omega) (by omega))] at hr
   injection hr with e1 e2
   rw[←e1,←e2]
   refine U8Blk.new _ _ _ _ _ (((U8In.list fun u hu=>?_).append (U8In.list h8)).append (U8In.zeros _))
   rw[←htake] at hu
   exact hC8.mem (List.mem_of_mem_take hu)
structure Bd8 (B b:Nat) (l:List UInt8) (w:World):Prop where
 bd:Bd B b (Lib.byteCells l) w
 u8:∀v,w.cell? ⟨b,1,none⟩=some v→U8Blk w v
theorem U8Blk.below{w w':World}{v:Value}(h:U8Blk w v)(hb:∀g,v.ownBlock=some g→w'.heap[g]?=w.heap[g]?):U8Blk w' v:=fun g hg=>by
 obtain⟨C,t,f,h1,h2⟩:=h g hg
 exact⟨C,t,f,by rw[hb g hg];exact h1,h2⟩
theorem Qiq(B b:Nat)(bs:List Value)(w:World)(h:Bd B b bs w)(h8:∀v,w.cell? ⟨b,1,none⟩=some v→U8Blk w v):
 Calls Tryz.prog 184 #[.pointer (some ⟨b,0,none⟩)] w fun e w'=>e=.returned (.tuple #[])∧BdAt B b bs w'∧Below B w w'∧Wr b w w'∧(∀v,w'.cell? ⟨b,1,none⟩=some v→U8Blk w' v):=by
 rcases h with h|h
 ·
  refine(Qp9 b w h.cell0 h.shape h.frozen0).mono ?_
  rintro e w' ⟨rfl,rfl⟩
  have e1:(w.setCell ⟨b,0,none⟩ (.pointer (some ⟨b,0,none⟩))).cell? ⟨b,1,none⟩=w.cell? ⟨b,1,none⟩:=World.cell?_setCell_other _ _ _ _ (by simp)
  refine⟨rfl,h.used _,(Below.refl B w).setCell (p:=⟨b,0,none⟩) h.1 _,⟨by simp[World.setCell],fun k hk hb _=>Below.heap_setCell _ _ _ _ hb,.inl ?_⟩,fun v hv=>?_⟩
  · unfold bufOf
    rw[e1]
  ·
   rw[e1] at hv
   obtain⟨_,u,hu,_,hne⟩:=h
   have:v=u:=by rw[Lib.cell_of_heap hu] at hv;simpa using hv.symm
   subst this
   exact(h8 v hv).below fun g hg=>Below.heap_setCell _ _ _ _ (fun e=>hne (by rw[hg,e]))
 ·
  refine(Qp8 b w h.cell0).mono ?_
  rintro e w' ⟨rfl,rfl⟩
  exact⟨rfl,h,Below.refl B _,Wr.refl _ _,h8⟩
theorem Qb6{P:Program}(w:World){ops:Array Oper}{rest:List Oper}{o:Oper}{a:Act}{Q:Exit→Act→World→Prop}(hgd:o.guard=none)(sl x:Operand)(t u:TypeId)
 (ho:o.op=.call { callee:=.builtin .append,args:=#[sl,x],argTypes:=#[t,u] }) (v y v':Value) (w':World) (hs:a.eval sl=v) (hx:a.eval x=y)
 (hr:(Builtin.append_ #[t,u] o.type #[v,y]).run P w=.ok v' w') (h:wpList P ops Q rest (a.put o.dst v') w'):wpList P ops Q (o :: rest) a w:=by
 refine wpList_plain hgd fun K hK=>?_
 unfold Oper.wp execOp
 simp only[ho,resolve,invoke,builtin,Sem.run_bind,Sem.run_pure,Result.andThen_ok,List.map_toArray,List.map_cons,List.map_nil,hs,hx,hr]
 exact hK _ _ h
def Wrote(B b:Nat)(l:List UInt8)(r:Value)(w:World)(e:Ending)(w':World):Prop:=e=.returned r∧Bd8 B b l w'∧Below B w w'∧Wr b w w'
theorem Qir{w2:World}{b:Nat}{p v v':Value}(hb2:w2.heap[b]?=some (.cells #[p,v] 165 (0,0)))(h:U8Blk w2 v')(hne:v'.ownBlock≠some b):∀u,(w2.setCell ⟨b,1,none⟩ v').cell? ⟨b,1,none⟩=some u→U8Blk (w2.setCell ⟨b,1,none⟩ v') u:=fun u hu=>by
 rw[World.cell?_setCell_same _ _ _ (show w2.cell? ⟨b,1,none⟩=some v by rw[Lib.cell_of_heap hb2];rfl)] at hu
 injection hu with hu
 subst hu
 exact h.below fun g hg=>Below.heap_setCell _ _ _ _ (fun e=>hne (by rw[hg,e]))
set_option maxHeartbeats 2000000 in
set_option maxRecDepth 100000 in
theorem Qqx(B b:Nat)(l:List UInt8)(c:UInt8)(w:World)(h:Bd8 B b l w)(hlen:l.length+1≤140737488355328)(hBw:B≤w.heap.size):
 Calls Tryz.prog 314 #[.pointer (some ⟨b,0,none⟩),.int .u8 (c.toNat:Int)] w (Wrote B b (l++ [c]) .nilIface w):=by
 obtain⟨i0,hi,hz0,hz1,hz2⟩:=info_parts Tryz.info8
 have HC:=Hi (Qiq B b (Lib.byteCells l) w h.bd h.u8)
 have hbl:(Lib.byteCells l).length=l.length:=Lib.byteCells_length l
 clear h
 go_enter Tryz.func314,Tryz.ntmps314
 go_wp2_with fail
 go_fit HC.out
 rintro e w1 ⟨rfl,⟨hB,v,hbk,hown,hne⟩,hb1,hw1,h8⟩
 clear HC
 have c1:w1.cell? ⟨b,1,none⟩=some v:=by rw[Lib.cell_of_heap hbk];rfl
 have hv8:=h8 v c1
 have hlt:b<w1.heap.size:=by
  rcases Nat.lt_or_ge b w1.heap.size with h'|h'
  · exact h'
  · simp[Array.getElem?_eq_none h'] at hbk
 have hsz:=hb1.size
 have hbA:Below w1.heap.size w1 (w1.alloc (.cells #[.int .u8 (c.toNat:Int)] 5)):=(Below.refl _ _).alloc (Nat.le_refl _) _
 have hownA:=Qbr hown hbA
 have hn1:∀j u,[Value.int .u8 (c.toNat:Int)][j]?=some u→(w1.alloc (.cells #[.int .u8 (c.toNat:Int)] 5)).cell? ((⟨w1.heap.size,0,none⟩:Addr).add j)=some u:=World.news_of_block (heap_alloc_new w1 _)
 have hone:∀u∈ [Value.int .u8 (c.toNat:Int)],u.oneCell'=true:=fun u hu=>by rw[List.mem_singleton.1 hu];rfl
 obtain⟨v',w2,hr,hown',hgrow,_,hat⟩:=run_append_own_at (P:=Tryz.prog) (w1.alloc (.cells #[.int .u8 (c.toNat:Int)] 5)) B 163 163 5 i0 (.int .u8 0) 1 1 Tryz.underlying163 hi hz0 hz1 hz2 rfl (by decide) v _ _ hownA ⟨w1.heap.size,0,none⟩ 1 1 [.int .u8 (c.toNat:Int)] rfl hn1 hone (by unfold maxLen;omega) (by omega) (by rw[World.size_alloc];omega)
 have hv8A:U8Blk (w1.alloc (.cells #[.int .u8 (c.toNat:Int)] 5)) v:=hv8.below fun g hg=>hbA.block g ((hown.lt g hg).2)
 have h82:U8Blk w2 v':=Qqw (m:=1) hi hz0 hz1 hz2 hownA hv8A rfl hn1 hone (fun u hu=>⟨_,List.mem_singleton.1 hu⟩) (by decide) (by omega) hr
 have hb2:w2.heap[b]?=some (.cells #[.pointer (some ⟨b,0,none⟩),v] 165 (0,0)):=by
  rw[hgrow.block b (by simp;omega) (fun e=>hne e.symm),Lib.alloc_old w1 _ b hlt]
  exact hbk
 obtain⟨ao,n',cap,rfl⟩:∃ao n' cap,v'=.slice ao n' cap:=by
  rcases hown'.2 with ⟨hv,_⟩|⟨g,cap,cur,hv,_⟩
  · exact⟨_,_,_,hv⟩
  · exact⟨_,_,_,hv⟩
 have d1:w2.cell? ⟨b,1,none⟩=some v:=by rw[Lib.cell_of_heap hb2];rfl
 have f1:w2.frozen? ⟨b,1,none⟩=false:=Lib.frozen_of_heap hb2 1
 have HPUT:=Hi (Lib.BuilderAt.put (T:=165) (e:=5) hB hb2 (bs':=Lib.byteCells (l++ [c])) (by simpa [Lib.byteCells] using hown') (by decide))
 have HU8:=Hi (Qir hb2 h82 (Lib.ownBlock_ne hown' hb2 (by decide)))
 have HBEL:=Hi (((hb1.alloc (by omega) (.cells #[.int .u8 (c.toNat:Int)] 5)).grown hgrow (by simp;omega) (fun k hk=>(hown.lt k hk).1)).setCell (p:=⟨b,1,none⟩) hB (.slice ao n' cap))
 have HWR:=Hi (hw1.trans (Qio hbk hbA hgrow hat hne))
 have HR:=Hi hr
 clear hbk hown hne hb1 hw1 hb2 hown' hgrow hat hi hz0 hz1 hz2 hr h82 hv8A hone hn1 hownA hbA hv8 h8
 go_wp2_with (at_builtin;refine Qb6 _ rfl _ _ 163 163 rfl v (.slice (some ⟨w1.heap.size,0,none⟩) 1 1) _ _ rfl rfl HR.out ?_)
 clear HR
 go_wp2
 go_ret
 exact⟨rfl,⟨.inr HPUT.out,HU8.out⟩,HBEL.out,HWR.out⟩
theorem Qqy{w:World}{base:Nat}{v v':Value}{n:Nat}{xs:List Value}{s:ByteArray}{w':World}{ty:TypeId}{i:TypeInfo}(hi:Tryz.prog.info? 5=some i)(hz:i.zero=some (.int .u8 0))(hs1:i.size=1)(hby:i.bytes=1)(hown:w.ownsRow base 5 1 v n xs)(hu:U8Blk w v)(h0:0<s.size)(h63:n+s.size≤140737488355328)
 (hr:(Builtin.append_ #[163,9] ty #[v,.string s]).run Tryz.prog w=.ok v' w'):(v'.ownBlock=v.ownBlock∨v'.ownBlock=some w.heap.size)∧U8Blk w' v':=by
 have hxl:xs.length=n:=by simpa using hown.1
 have hown0:=hown
 rcases hown.2 with ⟨rfl,rfl⟩|⟨g,cap,cur,rfl,hbg,hg,hnc,hcm,hcs,htake⟩
 ·
  rw[run_append_nil_string (P:=Tryz.prog) w 163 9 ty 5 i (.int .u8 0) Tryz.underlying163 Tryz.underlying9 hi hz s h0 (by omega) (by rw[hby];omega)] at hr
  injection hr with h1 h2
  rw[←h1,←h2]
  refine⟨.inr rfl,U8Blk.new _ _ _ _ _ (U8In.append ?_ (U8In.zeros _))⟩
  intro j u hu
  rw[Array.getElem?_map] at hu
  obtain⟨x,_,rfl⟩:=Option.map_eq_some_iff.1 hu
  exact⟨_,rfl⟩
 ·
  obtain⟨C,tt,ff,hC,hC8⟩:=hu g rfl
  rw[hg] at hC
  injection hC with hC
  injection hC with hC _ _
  subst hC
  by_cases hroom:n+s.size≤cap
  ·
   rw[Lib.run_append_room_string (P:=Tryz.prog) w 163 9 ty 5 i Tryz.underlying163 Tryz.underlying9 hi hs1 g n cap cur hg s hroom (by omega)] at hr
   injection hr with h1 h2
   rw[←h1,←h2]
   refine⟨.inl rfl,U8Blk.row (n':=0) (cap':=0) hg (U8In.list fun u hu=>?_)⟩
   simp only[List.mem_append] at hu
   rcases hu with (hu|hu)|hu
   · exact hC8.mem (List.mem_of_mem_take hu)
   · exact Qip s u hu
   · exact hC8.mem (List.mem_of_mem_drop hu)
  ·
   have holds:∀j u,xs[j]?=some u→w.cell? ((⟨g,0,none⟩:Addr).add j)=some u:=hown0.cells (g:=g) rfl
   rw[Lib.run_append_grow_string (P:=Tryz.prog) w 163 9 ty 5 i (.int .u8 0) Tryz.underlying163 Tryz.underlying9 hi hz ⟨g,0,none⟩ n cap xs (by rw[hs1];simpa using hxl) holds s (by omega) (by omega) (by rw[hby];exact growslice_fits (by omega) (by omega))] at hr
   injection hr with h1 h2
   rw[←h1,←h2]
   refine⟨.inr rfl,U8Blk.new _ _ _ _ _ (((U8In.list fun u hu=>?_).append (U8In.list (Qip s))).append (U8In.zeros _))⟩
   rw[←htake] at hu
   exact hC8.mem (List.mem_of_mem_take hu)
set_option maxHeartbeats 2000000 in
set_option maxRecDepth 100000 in
theorem Qis(B b:Nat)(l:List UInt8)(s:ByteArray)(w:World)(h:Bd8 B b l w)(h0:0<s.size)(hlen:l.length+s.size≤140737488355328)(hBw:B≤w.heap.size):
 Calls Tryz.prog 100 #[.pointer (some ⟨b,0,none⟩),.string s] w (Wrote B b (l++s.data.toList) (.tuple #[.int .i64 s.size,.nilIface]) w):=by
 obtain⟨i0,hi,hz0,hz1,hz2⟩:=info_parts Tryz.info8
 have HC:=Hi (Qiq B b (Lib.byteCells l) w h.bd h.u8)
 have hbl:(Lib.byteCells l).length=l.length:=Lib.byteCells_length l
 clear h
 go_enter Tryz.func100,Tryz.ntmps100
 go_wp2_with fail
 go_fit HC.out
 rintro e w1 ⟨rfl,⟨hB,v,hbk,hown,hne⟩,hb1,hw1,h8⟩
 clear HC
 have c1:w1.cell? ⟨b,1,none⟩=some v:=by rw[Lib.cell_of_heap hbk];rfl
 have hsz:=hb1.size
 obtain⟨v',w2,hr,hown',hgrow,_⟩:=Lib.run_append_own_string (P:=Tryz.prog) w1 B 163 9 163 5 i0 Tryz.underlying163 Tryz.underlying9 hi hz0 hz1 hz2 v _ _ hown s (by unfold maxLen;omega) (by omega) (by omega)
 obtain⟨hat,h82⟩:=Qqy hi hz0 hz1 hz2 hown (h8 v c1) h0 (by omega) hr
 have hlt:b<w1.heap.size:=by
  rcases Nat.lt_or_ge b w1.heap.size with h'|h'
  · exact h'
  · simp[Array.getElem?_eq_none h'] at hbk
 have hb2:w2.heap[b]?=some (.cells #[.pointer (some ⟨b,0,none⟩),v] 165 (0,0)):=by
  rw[hgrow.block b hlt (fun e=>hne e.symm)]
  exact hbk
 obtain⟨ao,n',cap,rfl⟩:∃ao n' cap,v'=.slice ao n' cap:=by
  rcases hown'.2 with ⟨hv,_⟩|⟨g,cap,cur,hv,_⟩
  · exact⟨_,_,_,hv⟩
  · exact⟨_,_,_,hv⟩
 have d1:w2.cell? ⟨b,1,none⟩=some v:=by rw[Lib.cell_of_heap hb2];rfl
 have f1:w2.frozen? ⟨b,1,none⟩=false:=Lib.frozen_of_heap hb2 1
 have hbe:Lib.byteCells (l++s.data.toList)=Lib.byteCells l++Lib.strCells s:=by rw[Lib.strCells_eq];simp[Lib.byteCells]
 have HPUT:=Hi (Lib.BuilderAt.put (T:=165) (e:=5) hB hb2 (bs':=Lib.byteCells (l++s.data.toList)) (by rw[hbe,List.length_append,Lib.strCells_length];exact hown') (by decide))
 have HU8:=Hi (Qir hb2 h82 (Lib.ownBlock_ne hown' hb2 (by decide)))
 have HBEL:=Hi ((hb1.grown hgrow (by omega) (fun k hk=>(hown.lt k hk).1)).setCell (p:=⟨b,1,none⟩) hB (.slice ao n' cap))
 have HWR:=Hi (hw1.trans (Qio hbk (Below.refl _ _) hgrow hat hne))
 have HR:=Hi hr
 clear hbk hown hne hb1 hw1 hb2 hown' hgrow hat hi hz0 hz1 hz2 hr h82 h8 hbe
 go_wp2_with (at_builtin;refine Qb6 _ rfl _ _ 163 9 rfl v (.string s) _ _ rfl rfl HR.out ?_)
 clear HR
 go_wp2
 go_ret2
 exact⟨rfl,⟨.inr HPUT.out,HU8.out⟩,HBEL.out,HWR.out⟩
theorem Bd8.parts{B b:Nat}{l:List UInt8}{w:World}(h:Bd8 B b l w):∃q a n c,w.heap[b]?=some (.cells #[.pointer q,.slice a n c] 165 (0,0)):=by
 have:∃q,Lib.BuilderAt 165 5 B b (.pointer q) (Lib.byteCells l) w:=by
  rcases h.bd with h|h
  · exact⟨_,h⟩
  · exact⟨_,h⟩
 obtain⟨q,hB,v,hbk,hown,hne⟩:=this
 rcases hown.2 with ⟨hv,_⟩|⟨g,cap,cur,hv,_⟩
 · exact⟨q,none,0,0,by rw[←hv];exact hbk⟩
 · exact⟨q,some ⟨g,0,none⟩,_,cap,by rw[←hv];exact hbk⟩
theorem Bd8.lt{B b:Nat}{l:List UInt8}{w:World}(h:Bd8 B b l w):b<w.heap.size:=BdAt.lt' h.bd
theorem Bd8.not_buf{B b:Nat}{l:List UInt8}{w:World}(h:Bd8 B b l w){k o:Nat}{u:Value}(hc:w.cell? ⟨k,o,none⟩=some u)(h1:∀n,u≠.int .u8 n):bufOf w b≠some k:=by
 intro hb
 unfold bufOf at hb
 obtain⟨v,hv,hk⟩:=Option.bind_eq_some_iff.1 hb
 obtain⟨C,t,f,hC,h8⟩:=h.u8 v hv k hk
 rw[Lib.cell_of_heap hC] at hc
 obtain⟨n,hn⟩:=h8 o u hc
 exact h1 n hn
theorem Bd8.word_apart{B b:Nat}{l:List UInt8}{w:World}(h:Bd8 B b l w){k o:Nat}{n:Int}(hc:w.cell? ⟨k,o,none⟩=some (.int .u64 n)):k≠b∧bufOf w b≠some k:=by
 refine⟨?_,h.not_buf hc (fun n hn=>by cases hn)⟩
 rintro rfl
 obtain⟨q,a,m,c,hb⟩:=h.parts
 rw[Lib.cell_of_heap hb] at hc
 match o with
 |0=>simp at hc
 |1=>simp at hc
 |o+2=>simp at hc
theorem Bd8.slice_apart{B b:Nat}{l:List UInt8}{w:World}(h:Bd8 B b l w){k:Nat}{a:Option Addr}{n c:Nat}(hc:w.cell? ⟨k,0,none⟩=some (.slice a n c)):k≠b∧bufOf w b≠some k:=by
 refine⟨?_,h.not_buf hc (fun n hn=>by cases hn)⟩
 rintro rfl
 obtain⟨q,a,m,c,hb⟩:=h.parts
 rw[Lib.cell_of_heap hb] at hc
 simp at hc
theorem Bd8.below{B b:Nat}{l:List UInt8}{w w':World}(h:Bd8 B b l w)(hb:Below w.heap.size w w'):Bd8 B b l w':=by
 have hlt:=h.lt
 have hat:∀p,Lib.BuilderAt 165 5 B b p (Lib.byteCells l) w→Lib.BuilderAt 165 5 B b p (Lib.byteCells l) w':=fun p ⟨hB,v,hbk,hown,hne⟩=>
  ⟨hB,v,by rw[hb.block b hlt];exact hbk,Qbr hown hb,hne⟩
 refine⟨?_,fun v hv=>?_⟩
 ·
  rcases h.bd with h|h
  · exact .inl (hat _ h)
  · exact .inr (hat _ h)
 ·
  rw[hb.cell (p:=⟨b,1,none⟩) hlt] at hv
  refine(h.u8 v hv).below fun g hg=>hb.block g ?_
  obtain⟨C,t,f,hC,_⟩:=h.u8 v hv g hg
  exact(Array.getElem?_eq_some_iff.1 hC).1
theorem U64.wrote{B b:Nat}{l:List UInt8}{w w':World}{a:Option Addr}{cap n:Nat}{ws:List Nat}(h:U64 w a cap ws n)(hd:Bd8 B b l w)(k:Wr b w w'):U64 w' a cap ws n:=by
 refine⟨⟨h.row.fit,?_,fun i hi=>?_⟩,h.num,h.short⟩
 ·
  rcases h.row.shape with h1|⟨b',off,h1,h2⟩
  · exact .inl h1
  · exact .inr ⟨b',off,h1,by have:=k.size;omega⟩
 ·
  obtain⟨b',off,h1,h2,h3⟩:=h.row.cell i hi
  obtain⟨g1,g2⟩:=hd.word_apart h3
  exact⟨b',off,h1,by have:=k.size;omega,(World.cell?_of_block (w:=w) (k.block b' h2 g1 g2)).trans h3⟩
end Go.Proofs.YtjhdfkcdigmfhaaGreatDoor
