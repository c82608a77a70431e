/- The library's Builder: copyCheck, WriteByte, WriteString, String. -/
import Derived.Test.YtfpcipgoedifaaaGreatDoorK18NumNat
import Derived.Shelf.Strings.Builder1
import Derived.Shelf.Strconv.Itoa1
import Derived.Shelf.Strconv.Itoa2
import Derived.Lib.ItoaMem
import Derived.Lib.AppendIntMem
import Derived.BigCall
import Derived.BigGuard
import Derived.Lib.Builder
import Derived.Lib.AppendStr
import Derived.Lib.UnsafeStr
import Derived.Laws.Externs
namespace Go.Proofs.YtfpcipgoedifaaaGreatDoor
open Go.RowKit
set_option linter.unusedVariables false
set_option linter.unusedSimpArgs false
theorem Qrf(s:ByteArray)(w:World):
 Calls Tryz.prog 91 #[.string s,.string ⟨#[45]⟩] w fun e w'=>e=.returned (.tuple #[.string ⟨(Lib.trimPrefix s.data.toList [45]).toArray⟩,.bool (Lib.hasPrefix s.data.toList [45])])/\w'=w:=Any.strings_CutPrefix Tryz.lays103 s ⟨#[45]⟩ w
theorem Qrg(s:ByteArray)(m:Int)(w:World)(hs:s.size<4294967281)(hm:w.cell? ⟨0,0,none⟩=some (.int .i64 m)):
 Calls Tryz.prog 92 #[.string s,.string ⟨#[47]⟩] w fun e w'=>e=.returned (.tuple #[.string ⟨(Lib.cut s.data.toList [47]).1.toArray⟩,.string ⟨(Lib.cut s.data.toList [47]).2.1.toArray⟩,.bool (Lib.cut s.data.toList [47]).2.2])/\∃n,w'=w.drewN n:=Any.strings_Cut Tryz.lays145 s ⟨#[47]⟩ m w hs hm
theorem Nat64.numV{w w':World}{x:Nat}{e:Ending}(h:Nat64 w x e w'):(∃a n c,e=.returned (.slice a n c)/\NumV w' a n c x)/\Below w.heap.size w w':=by
 obtain⟨⟨a,c,l,rfl,hu⟩,hb⟩:=h;exact⟨⟨a,l.length,c,rfl,l,rfl,hu⟩,hb⟩
theorem Qrh(neg:Bool)(t k:Nat):mkRat (sgn neg t) k=if neg=true then -(mkRat (t:Int) k) else mkRat (t:Int) k:=by
 cases neg
 · simp[sgn]
 · simp only[sgn,if_true]
   rw[Rat.neg_mkRat]
theorem Qfs{s t:List UInt8}(ht:Lib.trimPrefix s [45]=t)(h:¬QForm t):QOf s 0:=by
 refine⟨0,by rw[ht];exact .inr ⟨h,rfl⟩,?_⟩
 split<;>simp
theorem Qd0{s t c1 c2:List UInt8}{bar neg:Bool}(ht:Lib.trimPrefix s [45]=t)(hn:Lib.hasPrefix s [45]=neg)(h1:(Lib.cut t [47]).1=c1)(h2:(Lib.cut t [47]).2.1=c2)(h3:(Lib.cut t [47]).2.2=bar)(hd1:IsDig c1)(hd2:bar=true->IsDig c2):
 QOf s (mkRat (sgn neg (decVal c1)) (if bar=true then decVal c2 else 1)):=by
 by_cases h0:bar=true/\decVal c2=0
 ·
  rw[if_pos h0.1,h0.2,Rat.mkRat_zero];apply Qfs ht;intro hq;exact(hq.2 (by rw[h3];exact h0.1)).2 (by rw[h2];exact h0.2)
 ·
  refine⟨mkRat (decVal c1:Nat) (if bar=true then decVal c2 else 1),?_,by rw[hn];exact Qrh _ _ _⟩;rw[ht];refine .inl ⟨⟨by rw[h1];exact hd1,fun hb=>?_⟩,by rw[h1,h2,h3]⟩;rw[h3] at hb;rw[h2];exact⟨hd2 hb,fun hz=>h0 ⟨hb,hz⟩⟩
def OfAns(s:List UInt8)(w:World)(e:Ending)(w':World):Prop:=∃q,QOf s q/\FNew w q e w'
set_option maxRecDepth 100000 in
set_option maxHeartbeats 1000000 in
theorem Qri(s:ByteArray)(m:Int)(w:World)(hm:w.cell? ⟨0,0,none⟩=some (.int .i64 m))(hs:s.size<=1073741824):
 Calls Tryz.prog 51 #[.string s] w (OfAns s.data.toList w):=by
 obtain⟨t,ht⟩:=nm ((⟨(Lib.trimPrefix s.data.toList [45]).toArray⟩:ByteArray));obtain⟨neg,hneg⟩:=nm (Lib.hasPrefix s.data.toList [45]);have hte:Lib.trimPrefix s.data.toList [45]=t.data.toList:=by rw[<-ht]
 have hts:t.size<=1073741824:=by
  have:=Qd4 s.data.toList [45];rw[hte,Qah,Qah] at this;omega
 obtain⟨c1,hc1⟩:∃c,(⟨(Lib.cut t.data.toList [47]).1.toArray⟩:ByteArray)=c:=⟨_,rfl⟩;obtain⟨c2,hc2⟩:∃c,(⟨(Lib.cut t.data.toList [47]).2.1.toArray⟩:ByteArray)=c:=⟨_,rfl⟩;obtain⟨bar,hbar⟩:∃b,(Lib.cut t.data.toList [47]).2.2=b:=⟨_,rfl⟩;have he1:(Lib.cut t.data.toList [47]).1=c1.data.toList:=by rw[<-hc1]
 have he2:(Lib.cut t.data.toList [47]).2.1=c2.data.toList:=by rw[<-hc2]
 have hs1:c1.size<=1073741824:=by have:=Qjt t.data.toList;rw[he1,Qah,Qah] at this;omega
 have hs2:c2.size<=1073741824:=by have:=Qju t.data.toList;rw[he2,Qah,Qah] at this;omega
 have HBP:=Hi ((Below.refl w.heap.size w).alloc lZ (.cells zeroFrac 103));have HM:=Hi (ce HBP.out (World.block_lt_of_cell? _ _ hm) hm);have HS:=Hi (SB.new w 103 zeroFrac);obtain⟨wA,hwA⟩:=nm (w.alloc (.cells zeroFrac 103));rw[hwA] at HBP HM HS;have HCP:=Hi (Qrf s wA);have HCU:=Hi (Qrg t m wA (by omega) HM.out);rw[ht,hneg] at HCP;rw[hc1,hc2,hbar] at HCU;have HWA:=Hi hwA;have HTE:=Hi hte;have HNG:=Hi hneg;have HE1:=Hi he1;have HE2:=Hi he2;have HBR:=Hi hbar;have HI1:=Hi (fun w=>Qjn c1 w hs1);have HI2:=Hi (fun w=>Qjn c2 w hs2);have HP1:=Hi (fun w h=>Qjm c1 w hs1 h);have HP2:=Hi (fun w h=>Qjm c2 w hs2 h);clear ht hneg hte hc1 hc2 hbar he1 he2 hm hwA;go_enter Tryz.func51,Tryz.ntmps51;go_wp2_with fail;rw[show w.alloc (.cells #[.bool false,.slice none 0 0,.slice none 0 0] 103)=wA from HWA.out];go_fit HCP.out;rintro e w1 ⟨rfl,hw⟩;subst hw;clear HCP
 go_wp2_with fail;go_fit HCU.out;rintro e w1 ⟨rfl,nD,hw⟩;subst hw;clear HCU;have hbD:Below w1.heap.size w1 (w1.drewN nD):=Qdz bR nD;obtain⟨wD,hwD⟩:=nm (w1.drewN nD);rw[hwD] at hbD;have HBD:=Hi (HBP.out.trans (hbD.mono HBP.out.size));have HSD:=Hi (HS.out.below hbD HS.out.lt);have HWD:=Hi hwD;clear hbD hwD HBP HS HM;have HBP:=HBD;have HS:=HSD;clear HBD HSD;go_wp2_with fail;rw[HWD.out];go_fit (HI1.out _);rintro e w2 ⟨⟨v1,rfl,hv1⟩,hw2⟩;subst hw2;have HV1:=Hi hv1;clear hv1;cases v1 with
 |false=>
  have HQ:Hid (QOf s.data.toList 0):=Hi (Qfs HTE.out (fun h=>by have:=HV1.out.2 (by rw[<-HE1.out];exact h.1);cases this));have k0:=HS.out.cell 0;have k1:=HS.out.cell 1;have k2:=HS.out.cell 2;have f0:=HS.out.free 0;have f1:=HS.out.free 1;have f2:=HS.out.free 2;simp[zeroFrac] at k0 k1 k2;go_wp2;refine bodyPost_ret (v:=.agg #[.bool false,.slice none 0 0,.slice none 0 0]) (results_cell_row rfl _ _ (w.heap.size) 103 #[.bool false,.slice none 0 0,.slice none 0 0] (0,0) _ rfl (((HS.out.set 0 _).set 1 _).set 2 _) Tryz.underlying103 rfl Tryz.fracInfo) rfl ?_;exact⟨0,HQ.out,⟨_,rfl,FracV.zero _⟩,((HBP.out.setCell lZ _).setCell lZ _).setCell lZ _⟩
 |true=>
  have HD1:Hid (IsDig c1.data.toList):=Hi (HV1.out.1 rfl);clear HV1;cases bar with
  |false=>
   have HQ:=Hi (Qd0 HTE.out HNG.out HE1.out HE2.out HBR.out HD1.out (fun h=>by cases h));go_wp2_with fail;go_fit (HP1.out _ HD1.out.2);rintro e w3 hN;obtain⟨⟨a,n,c,rfl,hv⟩,hb⟩:=hN.numV;have HNV:=Hi hv;have HS':=Hi (HS.out.below hb HS.out.lt);have HBP':=Hi (HBP.out.trans (hb.mono HBP.out.size));clear HS HBP hv hb hN;have HS:=HS';have HBP:=HBP';clear HS' HBP';go_wp2_with fail;go_fit (Qdk neg a none n c 0 0 (decVal c1.data.toList) 1 _ HNV.out (.inl ⟨rfl,rfl,rfl,rfl⟩) (Nat.coprime_one_right _));rintro e w9 ⟨⟨v9,rfl,hv⟩,hb⟩;obtain⟨neg9,a9,n9,c9,b9,m9,d9,rfl,hv⟩:=hv;have hs:=HS.out.below hb HS.out.lt;have k0:=hs.cell 0;have k1:=hs.cell 1;have k2:=hs.cell 2;have f0:=hs.free 0;have f1:=hs.free 1;have f2:=hs.free 2;simp[zeroFrac] at k0 k1 k2;have HV:=Hi hv;have HS9:=Hi hs;have HB9:=Hi (HBP.out.trans (hb.mono HBP.out.size));clear hv hs hb;go_wp2
   refine bodyPost_ret (v:=.agg #[.bool neg9,.slice a9 n9 c9,.slice b9 m9 d9]) (results_cell_row rfl _ _ (w.heap.size) 103 #[.bool neg9,.slice a9 n9 c9,.slice b9 m9 d9] (0,0) _ rfl (((HS9.out.set 0 _).set 1 _).set 2 _) Tryz.underlying103 rfl Tryz.fracInfo) rfl ?_;have ho:=(((Only.refl (w.heap.size) w9).setCell 0 (.bool neg9)).setCell 1 (.slice a9 n9 c9)).setCell 2 (.slice b9 m9 d9);exact⟨_,HQ.out,⟨_,rfl,neg9,a9,n9,c9,b9,m9,d9,rfl,HV.out.only ho HS9.out Qbg⟩,Only.fresh HB9.out ho (by omega)⟩
  |true=>
   go_wp2_with fail;go_fit (HI2.out _);rintro e w3 ⟨⟨v2,rfl,hv2⟩,hw3⟩;subst hw3;have HV2:=Hi hv2;clear hv2;cases v2 with
   |false=>
    have HQ:Hid (QOf s.data.toList 0):=Hi (Qfs HTE.out (fun h=>by have:=HV2.out.2 (by rw[<-HE2.out];exact(h.2 HBR.out).1);cases this));have k0:=HS.out.cell 0;have k1:=HS.out.cell 1;have k2:=HS.out.cell 2;have f0:=HS.out.free 0;have f1:=HS.out.free 1;have f2:=HS.out.free 2;simp[zeroFrac] at k0 k1 k2;go_wp2;refine bodyPost_ret (v:=.agg #[.bool false,.slice none 0 0,.slice none 0 0]) (results_cell_row rfl _ _ (w.heap.size) 103 #[.bool false,.slice none 0 0,.slice none 0 0] (0,0) _ rfl (((HS.out.set 0 _).set 1 _).set 2 _) Tryz.underlying103 rfl Tryz.fracInfo) rfl ?_;exact⟨0,HQ.out,⟨_,rfl,FracV.zero _⟩,((HBP.out.setCell lZ _).setCell lZ _).setCell lZ _⟩
   |true=>
    have HD2:Hid (IsDig c2.data.toList):=Hi (HV2.out.1 rfl);clear HV2;obtain⟨K0,hK0⟩:=nm 1073741824;obtain⟨K,hK⟩:=nm (4*K0);have HK1:Hid (decVal c1.data.toList<2 ^ K):=Hi (by rw[<-hK];exact Qd3 HD1.out.2 (by rw[Qah,<-hK0];exact hs1));have HK2:Hid (decVal c2.data.toList<2 ^ K):=Hi (by rw[<-hK];exact Qd3 HD2.out.2 (by rw[Qah,<-hK0];exact hs2));have HKK:Hid (K+K<137438953000):=Hi (by omega);clear hK hK0;have HQ:=Hi (Qd0 HTE.out HNG.out HE1.out HE2.out HBR.out HD1.out (fun _=>HD2.out));go_wp2_with fail;go_fit (HP1.out _ HD1.out.2);rintro e w3 hN;obtain⟨⟨a,n,c,rfl,hv⟩,hb⟩:=hN.numV;have HNV:=Hi hv;have HS':=Hi (HS.out.below hb HS.out.lt);have HBP':=Hi (HBP.out.trans (hb.mono HBP.out.size));clear HS HBP hv hb hN;have HS:=HS';have HBP:=HBP';clear HS' HBP';go_wp2_with fail;go_fit (HP2.out _ HD2.out.2);rintro e w4 hN;obtain⟨⟨a2,n2,cc2,rfl,hv⟩,hb⟩:=hN.numV;have HNV2:=Hi hv
    have HNV1:=Hi (HNV.out.below hb);have HS':=Hi (HS.out.below hb HS.out.lt);have HBP':=Hi (HBP.out.trans (hb.mono HBP.out.size));clear HS HBP hv hb hN HNV;have HS:=HS';have HBP:=HBP';clear HS' HBP';go_wp2_with fail;go_fit (Qoo neg a a2 n c n2 cc2 (decVal c1.data.toList) (decVal c2.data.toList) K K _ HNV1.out HNV2.out HK1.out HK2.out HKK.out);rintro e w9 ⟨⟨v9,rfl,hv⟩,hb⟩;obtain⟨neg9,a9,n9,c9,b9,m9,d9,rfl,hv⟩:=hv;have hs:=HS.out.below hb HS.out.lt;have k0:=hs.cell 0;have k1:=hs.cell 1;have k2:=hs.cell 2;have f0:=hs.free 0;have f1:=hs.free 1;have f2:=hs.free 2;simp[zeroFrac] at k0 k1 k2;have HV:=Hi hv;have HS9:=Hi hs;have HB9:=Hi (HBP.out.trans (hb.mono HBP.out.size));clear hv hs hb;go_wp2
    refine bodyPost_ret (v:=.agg #[.bool neg9,.slice a9 n9 c9,.slice b9 m9 d9]) (results_cell_row rfl _ _ (w.heap.size) 103 #[.bool neg9,.slice a9 n9 c9,.slice b9 m9 d9] (0,0) _ rfl (((HS9.out.set 0 _).set 1 _).set 2 _) Tryz.underlying103 rfl Tryz.fracInfo) rfl ?_;have ho:=(((Only.refl (w.heap.size) w9).setCell 0 (.bool neg9)).setCell 1 (.slice a9 n9 c9)).setCell 2 (.slice b9 m9 d9);exact⟨_,HQ.out,⟨_,rfl,neg9,a9,n9,c9,b9,m9,d9,rfl,HV.out.only ho HS9.out Qbg⟩,Only.fresh HB9.out ho (by omega)⟩
end Go.Proofs.YtfpcipgoedifaaaGreatDoor
namespace Go.Proofs
open Go.Shelf
def Tryz.lays169_ren:Go.Shelf.Ren:=⟨fun|169=>172|n=>n,fun|70=>206|9=>9|0=>0|72=>209|37=>207|127=>224|3=>3|5=>5|n=>n,fun|n=>n⟩
theorem Tryz.lays169:Go.Proofs.Lays.n169 Tryz.prog Tryz.lays169_ren:={
 mixed:=by kernel_rfl
 f169:=Tryz.func172.trans (congrArg some (by kernel_rfl))
 t0:=Tryz.underlying0
 a0:=Tryz.isAgg0
 z0:=Tryz.sizeOf0
 v0:=Tryz.zeroValue0
 t3:=Tryz.underlying3
 a3:=Tryz.isAgg3
 z3:=Tryz.sizeOf3
 v3:=Tryz.zeroValue3
 t9:=Tryz.underlying9
 a9:=Tryz.isAgg9
 z9:=Tryz.sizeOf9
 v9:=Tryz.zeroValue9
 t37:=Tryz.underlying207
 a37:=Tryz.isAgg207
 z37:=Tryz.sizeOf207
 v37:=Tryz.zeroValue207
 t70:=Tryz.underlying206
 a70:=Tryz.isAgg206
 z70:=Tryz.sizeOf206
 v70:=Tryz.zeroValue206
 t72:=Tryz.underlying209
 a72:=Tryz.isAgg209
 z72:=Tryz.sizeOf209
 v72:=Tryz.zeroValue209
 t127:=Tryz.underlying224
 a127:=Tryz.isAgg224
 z127:=Tryz.sizeOf224
 v127:=Tryz.zeroValue224 }
def Tryz.lays283_ren:Go.Shelf.Ren:=⟨fun|283=>192|n=>n,fun|3=>3|9=>9|4=>4|n=>n,fun|n=>n⟩
theorem Tryz.lays283:Go.Proofs.Lays.n283 Tryz.prog Tryz.lays283_ren:={
 mixed:=by kernel_rfl
 f283:=Tryz.func192.trans (congrArg some (by kernel_rfl))
 t3:=Tryz.underlying3
 a3:=Tryz.isAgg3
 z3:=Tryz.sizeOf3
 v3:=Tryz.zeroValue3
 t4:=Tryz.underlying4
 a4:=Tryz.isAgg4
 z4:=Tryz.sizeOf4
 v4:=Tryz.zeroValue4
 t9:=Tryz.underlying9
 a9:=Tryz.isAgg9
 z9:=Tryz.sizeOf9
 v9:=Tryz.zeroValue9 }
def Tryz.lays284_ren:Go.Shelf.Ren:=⟨fun|284=>193|129=>180|317=>197|318=>198|n=>n,fun|53=>123|3=>3|212=>239|0=>0|4=>4|46=>156|5=>5|9=>9|n=>n,fun|17=>5|n=>n⟩
theorem Tryz.lays284:Go.Proofs.LaysM.n284 Tryz.prog Tryz.lays284_ren:={
 mixed:=by kernel_rfl
 f129:=Tryz.func180.trans (congrArg some (by kernel_rfl))
 f284:=Tryz.func193.trans (congrArg some (by kernel_rfl))
 f317:=Tryz.func197.trans (congrArg some (by kernel_rfl))
 f318:=Tryz.func198.trans (congrArg some (by kernel_rfl))
 t0:=Tryz.underlying0
 a0:=Tryz.isAgg0
 z0:=Tryz.sizeOf0
 v0:=Tryz.zeroValue0
 t3:=Tryz.underlying3
 a3:=Tryz.isAgg3
 z3:=Tryz.sizeOf3
 v3:=Tryz.zeroValue3
 t4:=Tryz.underlying4
 a4:=Tryz.isAgg4
 z4:=Tryz.sizeOf4
 v4:=Tryz.zeroValue4
 t5:=Tryz.underlying5
 a5:=Tryz.isAgg5
 z5:=Tryz.sizeOf5
 v5:=Tryz.zeroValue5
 t9:=Tryz.underlying9
 a9:=Tryz.isAgg9
 z9:=Tryz.sizeOf9
 v9:=Tryz.zeroValue9
 t46:=Tryz.underlying156
 a46:=Tryz.isAgg156
 z46:=Tryz.sizeOf156
 v46:=Tryz.zeroValue156
 t53:=Tryz.underlying123
 a53:=Tryz.isAgg123
 z53:=Tryz.sizeOf123
 v53:=Tryz.zeroValue123
 t212:=Tryz.underlying239
 a212:=Tryz.isAgg239
 z212:=Tryz.sizeOf239
 v212:=Tryz.zeroValue239
 g17:=by kernel_rfl
 i0:=by kernel_rfl
 i3:=by kernel_rfl
 i4:=by kernel_rfl
 i5:=by kernel_rfl
 i9:=by kernel_rfl
 i46:=by kernel_rfl
 i53:=by kernel_rfl
 i212:=by kernel_rfl
 m17:=by kernel_rfl }
def Tryz.lays285_ren:Go.Shelf.Ren:=⟨fun|285=>194|n=>n,fun|37=>207|53=>123|3=>3|4=>4|51=>155|9=>9|5=>5|0=>0|n=>n,fun|n=>n⟩
theorem Tryz.lays285:Go.Proofs.Lays.n285 Tryz.prog Tryz.lays285_ren:={
 mixed:=by kernel_rfl
 f285:=Tryz.func194.trans (congrArg some (by kernel_rfl))
 t0:=Tryz.underlying0
 a0:=Tryz.isAgg0
 z0:=Tryz.sizeOf0
 v0:=Tryz.zeroValue0
 t3:=Tryz.underlying3
 a3:=Tryz.isAgg3
 z3:=Tryz.sizeOf3
 v3:=Tryz.zeroValue3
 t4:=Tryz.underlying4
 a4:=Tryz.isAgg4
 z4:=Tryz.sizeOf4
 v4:=Tryz.zeroValue4
 t5:=Tryz.underlying5
 a5:=Tryz.isAgg5
 z5:=Tryz.sizeOf5
 v5:=Tryz.zeroValue5
 t9:=Tryz.underlying9
 a9:=Tryz.isAgg9
 z9:=Tryz.sizeOf9
 v9:=Tryz.zeroValue9
 t37:=Tryz.underlying207
 a37:=Tryz.isAgg207
 z37:=Tryz.sizeOf207
 v37:=Tryz.zeroValue207
 t51:=Tryz.underlying155
 a51:=Tryz.isAgg155
 z51:=Tryz.sizeOf155
 v51:=Tryz.zeroValue155
 t53:=Tryz.underlying123
 a53:=Tryz.isAgg123
 z53:=Tryz.sizeOf123
 v53:=Tryz.zeroValue123 }
end Go.Proofs
namespace Go.Proofs.YtfpcipgoedifaaaGreatDoor
open Go.RowKit Go.Sort Go.Lib
set_option linter.unusedVariables false
set_option linter.unusedSimpArgs false
def Tab(w:World):Prop:=Lib.TabIs Tryz.prog w "internal/strconv.uint64pow10" .u64 Lib.pow10Tab
theorem Tab.below{w w':World}(h:Tab w)(hb:Below w.heap.size w w'):Tab w':=by
 unfold Tab Lib.TabIs World.var? at*;cases hg:Tryz.prog.globalNamed "internal/strconv.uint64pow10" with
 |none=>simp[hg] at h
 |some g=>
  simp only[hg,Option.bind_some] at h ⊢;have hlt:g<w.heap.size:=by
   rcases Nat.lt_or_ge g w.heap.size with h'|h'
   · exact h'
   · simp[Array.getElem?_eq_none h'] at h
  rw[hb.block g hlt];exact h
theorem Qvh(i:Nat)(h:i<100)(w:World):Calls Tryz.prog 192 #[.int .i64 i] w fun e w'=>e=.returned (.string ⟨(Lib.decDigits i).toArray⟩)/\w'=w:=Any.internal_strconv_small Tryz.lays283 i h w
theorem Qvi(u:Nat)(h1:1<=u)(h2:u<18446744073709551616)(w:World)(ht:Tab w):Calls Tryz.prog 193 #[.int .u64 u] w fun e w'=>e=.returned (.int .i64 (Lib.nDigits u))/\w'=w:=Any.internal_strconv_numDigits Tryz.lays284 u h1 h2 w ht
theorem Qvj(blk off cap:Nat)(u:Nat)(d:Array UInt8)(w:World)(hH:Go.Sort.Holds (fun (b:UInt8)=>Value.int .u8 (b.toNat:Int)) w blk off d)(hu:u<10 ^ d.size)(hu64:u<18446744073709551616)(hsz:d.size<4611686018427387904):
 Calls Tryz.prog 194 #[.slice (some ⟨blk,off,none⟩) d.size cap,.int .u64 u] w fun e w'=>
  e=.returned (.tuple #[])/\∃(n v':Nat) (dk:Array UInt8),w'=(putRow (fun (b:UInt8)=>Value.int .u8 (b.toNat:Int)) w blk off dk).drewN n/\FmtInv d.size u 0 v' dk:=Any.internal_strconv_formatBase10 Tryz.lays285 blk off cap u d w hH hu hu64 hsz
theorem Qvk(w:World)(T:TypeId)(nd:Nat)(hs:nd<=24):Go.Sort.Holds (fun (b:UInt8)=>Value.int .u8 (b.toNat:Int)) (w.alloc (.cells zeros24 T)) w.heap.size 0 (Array.replicate nd (0:UInt8)):=fun j hj=>by
 have hj':j<nd:=by simpa using hj
 refine⟨?_,World.frozen?_alloc_new _ _ _ _⟩;rw[World.cell?_alloc_new,zeros24_at _ (by omega),getElem!_pos _ j hj];simp
theorem Qvl(w:World)(o:Obj)(dk:Array UInt8)(k:Nat):Below w.heap.size w ((putRow (fun (b:UInt8)=>Value.int .u8 (b.toNat:Int)) (w.alloc o) w.heap.size 0 dk).drewN k):=by
 rw[alloc_eq_grow];obtain⟨os',_,e⟩:=putRow_grow_new (fun (b:UInt8)=>Value.int .u8 (b.toNat:Int)) w #[o] w.heap.size 0 dk lZ;rw[e];exact below_grow w.heap.size w lZ k os'
set_option maxHeartbeats 6400000 in
set_option maxRecDepth 100000 in
theorem Qvm(u:Nat)(hu64:u<18446744073709551616)(w:World)(ht:Tab w):
 Calls Tryz.prog 190 #[.int .u64 u,.int .i64 10] w fun e w'=>e=.returned (.string ⟨(Lib.decDigits u).toArray⟩)/\Below w.heap.size w w':=by
 by_cases hs:u<100
 ·
  have HS:=Hi (Qvh u hs w);clear ht;go_enter Tryz.func190,Tryz.ntmps190;go_wp2_with fail;go_fit HS.out;rintro e w1 ⟨rfl,hw⟩;subst hw;clear HS;go_wp2;go_ret;exact⟨rfl,Below.refl _ _⟩
 ·
  have hnd20:Lib.nDigits u<=20:=by have:=Lib.numDigits_eq u (by omega) hu64;split at this<;>omega
  have HNL:=Hi (Lib.lt_pow_nDigits u);have HDL:=Hi (Lib.decDigits_length u);have HND:=Hi (Qvi u (by omega) hu64 (w.alloc (.cells zeros24 232)) (Tab.below ht (bR.alloc lZ _)));have HH0:=Hi (Qvk w 232 (Lib.nDigits u) (by omega));have HF:=Hi (Qvj w.heap.size 0 24 u (Array.replicate (Lib.nDigits u) 0) (w.alloc (.cells zeros24 232)) HH0.out (by rw[Array.size_replicate];exact HNL.out) hu64 (by rw[Array.size_replicate];omega));rw[Array.size_replicate] at HF;obtain⟨N,hN⟩:=nm (Lib.nDigits u);have hsl:∀W,(Instr.sliceAt 232 (.pointer (some ⟨w.heap.size,0,none⟩)) none (some (.int .i64 (N:Int))) none).run Tryz.prog W=.ok (.slice (some ⟨w.heap.size,0,none⟩) N 24) W:=fun W=>by
   have hal:Tryz.prog.arrayLen 232=24:=by simp[Program.arrayLen,Tryz.underlying232]
   rw[run_sliceAt_array_h W 232 ⟨w.heap.size,0,none⟩ (by simp[Program.arrayLen,Program.elem,Tryz.underlying232]) .i64 (N:Int) (by omega) (by rw[hal];omega)];go_simp
  rw[hN] at HNL HDL HND HH0 HF hnd20;have q0:¬((u:Int)<100):=by omega
  obtain⟨wA,hwA⟩:=nm (w.alloc (.cells zeros24 232));have HWA:=Hi hwA;have HPB:=Hi (fun dk k=>Qvl w (.cells zeros24 232) dk k);rw[hwA] at HND HH0 HF HPB;have HNE:=Hi hN;have hN24:N<=24:=by omega
  clear ht hs hwA hN;go_enter Tryz.func190,Tryz.ntmps190;go_wp2_with fail;have hWA:=HWA.out;unfold zeros24 at hWA;rw[hWA];clear hWA;go_fit HND.out;rintro e w1 ⟨rfl,hw⟩;subst hw;clear HND;go_wp2_with fail;go_fit HF.out;rintro e w2 ⟨rfl,k,v',dk,hw2,hF⟩;have HPB2:=Hi (HPB.out dk k);rw[<-hw2] at HPB2;have hcv:(convert 207 9 (.slice (some ⟨w.heap.size,0,none⟩) N 24)).run Tryz.prog w2=.ok (.string ⟨(Lib.decDigits u).toArray⟩) w2:=by
   have h:=run_convert_bytes_back (P:=Tryz.prog) w2 207 9 5 ⟨w.heap.size,0,none⟩ 24 (Lib.decDigits u) Tryz.underlying207 Tryz.underlying5 Tryz.underlying9 (fun j hj=>by
    rw[HDL.out] at hj;rw[Lib.row_is_numeral (by rw[HNE.out];exact hF) j (by rw[HDL.out];exact hj),Lib.add_plain,hw2,World.cell?_drewN]
    exact cell?_putRow (fun (b:UInt8)=>Value.int .u8 (b.toNat:Int)) _ w.heap.size 0 _ dk HH0.out (by rw[hF.size,Array.size_replicate]) j (by rw[hF.size];exact hj))
   rw[HDL.out] at h;exact h
  clear hw2 hF HF;go_wp2;go_ret;exact⟨rfl,HPB2.out⟩
set_option maxRecDepth 100000 in
theorem Qvn(u:Nat)(hu64:u<18446744073709551616)(w:World)(ht:Tab w):
 Calls Tryz.prog 187 #[.int .u64 u,.int .i64 10] w fun e w'=>e=.returned (.string ⟨(Lib.decDigits u).toArray⟩)/\Below w.heap.size w w':=by
 have HS:=Hi (Qvm u hu64 w ht);clear ht;go_enter Tryz.func187,Tryz.ntmps187;go_wp2_with fail;go_fit HS.out;rintro e w1 ⟨rfl,hb⟩;have HB:=Hi hb;clear HS hb;go_wp2;go_ret;exact⟨rfl,HB.out⟩
end Go.Proofs.YtfpcipgoedifaaaGreatDoor
namespace Go.Proofs.YtfpcipgoedifaaaGreatDoor
open Go.RowKit
set_option linter.unusedVariables false
set_option linter.unusedSimpArgs false
theorem Tryz.extra:Builder.Extra Tryz.prog Tryz.lays169_ren where
 sizeBuilder:=by kernel_rfl
 liesBuilder:=by kernel_rfl
 t5:=Tryz.underlying5
 a5:=Tryz.isAgg5
 z5:=Tryz.sizeOf5
 v5:=Tryz.zeroValue5
 infoByte:=by kernel_rfl
 cellsByte:=by kernel_rfl
 sizeByte:=by kernel_rfl
 neB5:=by decide
theorem Tryz.bdSize:(Tryz.prog.info? 209).map (·.size)=some 2:=by kernel_rfl
theorem Tryz.bdLies:liesAt Tryz.prog Tryz.prog.depth 209 (2 / Tryz.prog.cellsOf 209) 0 209 1=true:=by kernel_rfl
abbrev Bd(B b:Nat)(bs:List Value)(w:World):Prop:=Lib.IsBuilder 209 5 B b bs w
abbrev BdAt(B b:Nat)(bs:List Value)(w:World):Prop:=Lib.BuilderAt 209 5 B b (.pointer (some ⟨b,0,none⟩)) bs w
theorem Quz(B b:Nat)(l:List UInt8)(w:World)(h:Bd B b (Lib.byteCells l) w)(hBw:B<=w.heap.size):
 Calls Tryz.prog 172 #[.pointer (some ⟨b,0,none⟩)] w fun e w'=>e=.returned (.string ⟨l.toArray⟩)/\Below B w w':=Any.Builder_String_any Tryz.lays169 Tryz.extra B b l w h hBw
set_option maxHeartbeats 1000000 in
set_option maxRecDepth 100000 in
theorem Qu0(b:Nat)(w:World)(h0:w.cell? ⟨b,0,none⟩=some (.pointer (some ⟨b,0,none⟩))):
 Calls Tryz.prog 191 #[.pointer (some ⟨b,0,none⟩)] w fun e w'=>e=.returned (.tuple #[])/\w'=w:=by
 obtain⟨j,hj,_⟩:=Option.map_eq_some_iff.1 Tryz.bdSize;have hne:∀w,(binOp .neq 206 (.pointer (some ⟨b,0,none⟩)) (.pointer (some ⟨b,0,none⟩))).run Tryz.prog w=.ok (.bool false) w:=fun w=>Lib.run_neq_ptr_same w ⟨b,0,none⟩ Tryz.underlying206 hj
 go_enter Tryz.func191,Tryz.ntmps191;go_wp2;go_end0;exact⟨rfl,rfl⟩
set_option maxHeartbeats 1000000 in
set_option maxRecDepth 100000 in
theorem Qu1(b:Nat)(w:World)(h0:w.cell? ⟨b,0,none⟩=some (.pointer none))(hsh:w.shape? b=some (209,2))(hfz:w.frozen? ⟨b,0,none⟩=false):
 Calls Tryz.prog 191 #[.pointer (some ⟨b,0,none⟩)] w fun e w'=>e=.returned (.tuple #[])/\w'=w.setCell ⟨b,0,none⟩ (.pointer (some ⟨b,0,none⟩)):=by
 obtain⟨j,hj,hjs⟩:=Option.map_eq_some_iff.1 Tryz.bdSize;have h1:(convert 206 236 (.pointer (some ⟨b,0,none⟩))).run Tryz.prog w=.ok (.pointer (some ⟨b,0,none⟩)) w:=Lib.run_to_unsafe w ⟨b,0,none⟩ Tryz.underlying206 Tryz.underlying236 hj (by rw[hjs];decide) hsh (Nat.zero_lt_succ 1);have h2:(callFunc 196 #[.pointer (some ⟨b,0,none⟩)]).run Tryz.prog w=.ok (.value (.pointer (some ⟨b,0,none⟩))) w:=by
  rw[run_callFunc_extern Tryz.func196 (by kernel_rfl) (by kernel_rfl) (by kernel_rfl) (e:=Extern.AbiNoEscape.same) (by kernel_rfl),Lib.run_noEscape];rfl
 have h3:(convert 236 206 (.pointer (some ⟨b,0,none⟩))).run Tryz.prog w=.ok (.pointer (some ⟨b,0,none⟩)) w:=Lib.run_from_unsafe w ⟨b,0,none⟩ Tryz.underlying236 Tryz.underlying206 hj hsh Tryz.bdLies;clear hj hjs hsh;go_enter Tryz.func191,Tryz.ntmps191;go_wp2_with simp only[h2];go_end0;exact⟨rfl,rfl⟩
end Go.Proofs.YtfpcipgoedifaaaGreatDoor
