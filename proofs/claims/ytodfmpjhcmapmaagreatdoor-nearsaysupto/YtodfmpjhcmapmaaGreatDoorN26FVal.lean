/- fractions as values: their cells. -/
import Derived.Test.YtodfmpjhcmapmaaGreatDoorN24NumNat
import Derived.Shelf.Strings.Builder1
import Derived.Shelf.Strconv.Itoa1
import Derived.Shelf.Strconv.Itoa2
import Derived.Lib.ItoaMem
import Derived.Lib.AppendIntMem
import Derived.BigCall
import Derived.BigGuard
import Derived.Test.YtodfmpjhcmapmaaGreatDoorN25FracC
import Derived.Lib.Builder
import Derived.Lib.AppendStr
import Derived.Lib.UnsafeStr
import Derived.Laws.Externs
namespace Go.Proofs.YtodfmpjhcmapmaaGreatDoor
open Go.RowKit
set_option linter.unusedVariables false
set_option linter.unusedSimpArgs false
theorem Qpq(s:ByteArray)(w:World):
 Calls Tryz.prog 65 #[.string s,.string ⟨#[45]⟩] w fun e w'=>e=.returned (.tuple #[.string ⟨(Lib.trimPrefix s.data.toList [45]).toArray⟩,.bool (Lib.hasPrefix s.data.toList [45])])∧w'=w:=Any.strings_CutPrefix Tryz.lays103 s ⟨#[45]⟩ w
theorem Qpr(s:ByteArray)(m:Int)(w:World)(hs:s.size<4294967281)(hm:w.cell? ⟨4,0,none⟩=some (.int .i64 m)):
 Calls Tryz.prog 66 #[.string s,.string ⟨#[47]⟩] w fun e w'=>e=.returned (.tuple #[.string ⟨(Lib.cut s.data.toList [47]).1.toArray⟩,.string ⟨(Lib.cut s.data.toList [47]).2.1.toArray⟩,.bool (Lib.cut s.data.toList [47]).2.2])∧∃n,w'=w.drewN n:=Any.strings_Cut Tryz.lays145 s ⟨#[47]⟩ m w hs hm
theorem Nat64.numV{w w':World}{x:Nat}{e:Ending}(h:Nat64 w x e w'):(∃a n c,e=.returned (.slice a n c)∧NumV w' a n c x)∧Below w.heap.size w w':=by
 obtain⟨⟨a,c,l,rfl,hu⟩,hb⟩:=h;exact⟨⟨a,l.length,c,rfl,l,rfl,hu⟩,hb⟩
theorem Qps(neg:Bool)(t k:Nat):mkRat (sgn neg t) k=if neg=true then -(mkRat (t:Int) k) else mkRat (t:Int) k:=by
 cases neg
 · simp[sgn]
 · simp only[sgn,if_true]
   rw[Rat.neg_mkRat]
theorem Qe3{s t:List UInt8}(ht:Lib.trimPrefix s [45]=t)(h:¬QForm t):QOf s 0:=by
 refine⟨0,by rw[ht];exact .inr ⟨h,rfl⟩,?_⟩
 split<;>simp
theorem Qh5{s t c1 c2:List UInt8}{bar neg:Bool}(ht:Lib.trimPrefix s [45]=t)(hn:Lib.hasPrefix s [45]=neg)(h1:(Lib.cut t [47]).1=c1)(h2:(Lib.cut t [47]).2.1=c2)(h3:(Lib.cut t [47]).2.2=bar)(hd1:IsDig c1)(hd2:bar=true→IsDig c2):
 QOf s (mkRat (sgn neg (decVal c1)) (if bar=true then decVal c2 else 1)):=by
 by_cases h0:bar=true∧decVal c2=0
 ·
  rw[if_pos h0.1,h0.2,Rat.mkRat_zero];apply Qe3 ht;intro hq;exact(hq.2 (by rw[h3];exact h0.1)).2 (by rw[h2];exact h0.2)
 ·
  refine⟨mkRat (decVal c1:Nat) (if bar=true then decVal c2 else 1),?_,by rw[hn];exact Qps _ _ _⟩;rw[ht];refine .inl ⟨⟨by rw[h1];exact hd1,fun hb=>?_⟩,by rw[h1,h2,h3]⟩;rw[h3] at hb;rw[h2];exact⟨hd2 hb,fun hz=>h0 ⟨hb,hz⟩⟩
def OfAns(s:List UInt8)(w:World)(e:Ending)(w':World):Prop:=∃q,QOf s q∧FNew w q e w'
set_option maxRecDepth 100000 in
set_option maxHeartbeats 1000000 in
theorem Qpt(s:ByteArray)(m:Int)(w:World)(hm:w.cell? ⟨4,0,none⟩=some (.int .i64 m))(hs:s.size≤1073741824):
 Calls Tryz.prog 29 #[.string s] w (OfAns s.data.toList w):=by
 obtain⟨t,ht⟩:∃t,(⟨(Lib.trimPrefix s.data.toList [45]).toArray⟩:ByteArray)=t:=⟨_,rfl⟩;obtain⟨neg,hneg⟩:∃neg,Lib.hasPrefix s.data.toList [45]=neg:=⟨_,rfl⟩;have hte:Lib.trimPrefix s.data.toList [45]=t.data.toList:=by rw[←ht]
 have hts:t.size≤1073741824:=by
  have:=Qdp s.data.toList [45];rw[hte,Qag,Qag] at this;omega
 obtain⟨c1,hc1⟩:∃c,(⟨(Lib.cut t.data.toList [47]).1.toArray⟩:ByteArray)=c:=⟨_,rfl⟩;obtain⟨c2,hc2⟩:∃c,(⟨(Lib.cut t.data.toList [47]).2.1.toArray⟩:ByteArray)=c:=⟨_,rfl⟩;obtain⟨bar,hbar⟩:∃b,(Lib.cut t.data.toList [47]).2.2=b:=⟨_,rfl⟩;have he1:(Lib.cut t.data.toList [47]).1=c1.data.toList:=by rw[←hc1]
 have he2:(Lib.cut t.data.toList [47]).2.1=c2.data.toList:=by rw[←hc2]
 have hs1:c1.size≤1073741824:=by have:=Qh8 t.data.toList;rw[he1,Qag,Qag] at this;omega
 have hs2:c2.size≤1073741824:=by have:=Qh9 t.data.toList;rw[he2,Qag,Qag] at this;omega
 have HBP:=Hi ((Below.refl w.heap.size w).alloc (Nat.le_refl _) (.cells zeroFrac 62));have HM:=Hi ((HBP.out.cell (p:=⟨4,0,none⟩) (World.block_lt_of_cell? _ _ hm)).trans hm);have HS:=Hi (SB.new w 62 zeroFrac);obtain⟨wA,hwA⟩:∃wA,w.alloc (.cells zeroFrac 62)=wA:=⟨_,rfl⟩;rw[hwA] at HBP HM HS;have HCP:=Hi (Qpq s wA);have HCU:=Hi (Qpr t m wA (by omega) HM.out);rw[ht,hneg] at HCP;rw[hc1,hc2,hbar] at HCU;have HWA:=Hi hwA;have HTE:=Hi hte;have HNG:=Hi hneg;have HE1:=Hi he1;have HE2:=Hi he2;have HBR:=Hi hbar;have HI1:=Hi (fun w=>Qh6 c1 w hs1);have HI2:=Hi (fun w=>Qh6 c2 w hs2);have HP1:=Hi (fun w h=>Qh4 c1 w hs1 h);have HP2:=Hi (fun w h=>Qh4 c2 w hs2 h);clear ht hneg hte hc1 hc2 hbar he1 he2 hm hwA;go_enter Tryz.func29,Tryz.ntmps29;go_wp2_with fail;rw[show w.alloc (.cells #[.bool false,.slice none 0 0,.slice none 0 0] 62)=wA from HWA.out];go_fit HCP.out;rintro e w1 ⟨rfl,hw⟩;subst hw;clear HCP
 go_wp2_with fail;go_fit HCU.out;rintro e w1 ⟨rfl,nD,hw⟩;subst hw;clear HCU;have hbD:Below w1.heap.size w1 (w1.drewN nD):=Qep (Below.refl _ _) nD;obtain⟨wD,hwD⟩:∃wD,w1.drewN nD=wD:=⟨_,rfl⟩;rw[hwD] at hbD;have HBD:=Hi (HBP.out.trans (hbD.mono HBP.out.size));have HSD:=Hi (HS.out.below hbD HS.out.lt);have HWD:=Hi hwD;clear hbD hwD HBP HS HM;have HBP:=HBD;have HS:=HSD;clear HBD HSD;go_wp2_with fail;rw[HWD.out];go_fit (HI1.out _);rintro e w2 ⟨⟨v1,rfl,hv1⟩,hw2⟩;subst hw2;have HV1:=Hi hv1;clear hv1;cases v1 with
 |false=>
  have HQ:Hid (QOf s.data.toList 0):=Hi (Qe3 HTE.out (fun h=>by have:=HV1.out.2 (by rw[←HE1.out];exact h.1);cases this));have k0:=HS.out.cell 0;have k1:=HS.out.cell 1;have k2:=HS.out.cell 2;have f0:=HS.out.free 0;have f1:=HS.out.free 1;have f2:=HS.out.free 2;simp[zeroFrac] at k0 k1 k2;go_wp2;refine bodyPost_ret (v:=.agg #[.bool false,.slice none 0 0,.slice none 0 0]) (results_cell_row rfl _ _ (w.heap.size) 62 #[.bool false,.slice none 0 0,.slice none 0 0] (0,0) _ rfl (((HS.out.set 0 _).set 1 _).set 2 _) Tryz.underlying62 rfl Tryz.fracInfo) rfl ?_;exact⟨0,HQ.out,⟨_,rfl,FracV.zero _⟩,((HBP.out.setCell (Nat.le_refl _) _).setCell (Nat.le_refl _) _).setCell (Nat.le_refl _) _⟩
 |true=>
  have HD1:Hid (IsDig c1.data.toList):=Hi (HV1.out.1 rfl);clear HV1;cases bar with
  |false=>
   have HQ:=Hi (Qh5 HTE.out HNG.out HE1.out HE2.out HBR.out HD1.out (fun h=>by cases h));go_wp2_with fail;go_fit (HP1.out _ HD1.out.2);rintro e w3 hN;obtain⟨⟨a,n,c,rfl,hv⟩,hb⟩:=hN.numV;have HNV:=Hi hv;have HS':=Hi (HS.out.below hb HS.out.lt);have HBP':=Hi (HBP.out.trans (hb.mono HBP.out.size));clear HS HBP hv hb hN;have HS:=HS';have HBP:=HBP';clear HS' HBP';go_wp2_with fail;go_fit (Qcg neg a none n c 0 0 (decVal c1.data.toList) 1 _ HNV.out (.inl ⟨rfl,rfl,rfl,rfl⟩) (Nat.coprime_one_right _));rintro e w9 ⟨⟨v9,rfl,hv⟩,hb⟩;obtain⟨neg9,a9,n9,c9,b9,m9,d9,rfl,hv⟩:=hv;have hs:=HS.out.below hb HS.out.lt;have k0:=hs.cell 0;have k1:=hs.cell 1;have k2:=hs.cell 2;have f0:=hs.free 0;have f1:=hs.free 1;have f2:=hs.free 2;simp[zeroFrac] at k0 k1 k2;have HV:=Hi hv;have HS9:=Hi hs;have HB9:=Hi (HBP.out.trans (hb.mono HBP.out.size));clear hv hs hb;go_wp2
   refine bodyPost_ret (v:=.agg #[.bool neg9,.slice a9 n9 c9,.slice b9 m9 d9]) (results_cell_row rfl _ _ (w.heap.size) 62 #[.bool neg9,.slice a9 n9 c9,.slice b9 m9 d9] (0,0) _ rfl (((HS9.out.set 0 _).set 1 _).set 2 _) Tryz.underlying62 rfl Tryz.fracInfo) rfl ?_;have ho:=(((Only.refl (w.heap.size) w9).setCell 0 (.bool neg9)).setCell 1 (.slice a9 n9 c9)).setCell 2 (.slice b9 m9 d9);exact⟨_,HQ.out,⟨_,rfl,neg9,a9,n9,c9,b9,m9,d9,rfl,HV.out.only ho HS9.out Qa6⟩,Only.fresh HB9.out ho (by omega)⟩
  |true=>
   go_wp2_with fail;go_fit (HI2.out _);rintro e w3 ⟨⟨v2,rfl,hv2⟩,hw3⟩;subst hw3;have HV2:=Hi hv2;clear hv2;cases v2 with
   |false=>
    have HQ:Hid (QOf s.data.toList 0):=Hi (Qe3 HTE.out (fun h=>by have:=HV2.out.2 (by rw[←HE2.out];exact(h.2 HBR.out).1);cases this));have k0:=HS.out.cell 0;have k1:=HS.out.cell 1;have k2:=HS.out.cell 2;have f0:=HS.out.free 0;have f1:=HS.out.free 1;have f2:=HS.out.free 2;simp[zeroFrac] at k0 k1 k2;go_wp2;refine bodyPost_ret (v:=.agg #[.bool false,.slice none 0 0,.slice none 0 0]) (results_cell_row rfl _ _ (w.heap.size) 62 #[.bool false,.slice none 0 0,.slice none 0 0] (0,0) _ rfl (((HS.out.set 0 _).set 1 _).set 2 _) Tryz.underlying62 rfl Tryz.fracInfo) rfl ?_;exact⟨0,HQ.out,⟨_,rfl,FracV.zero _⟩,((HBP.out.setCell (Nat.le_refl _) _).setCell (Nat.le_refl _) _).setCell (Nat.le_refl _) _⟩
   |true=>
    have HD2:Hid (IsDig c2.data.toList):=Hi (HV2.out.1 rfl);clear HV2;obtain⟨K0,hK0⟩:∃K0,1073741824=K0:=⟨_,rfl⟩;obtain⟨K,hK⟩:∃K,4*K0=K:=⟨_,rfl⟩;have HK1:Hid (decVal c1.data.toList<2 ^ K):=Hi (by rw[←hK];exact Qdo HD1.out.2 (by rw[Qag,←hK0];exact hs1));have HK2:Hid (decVal c2.data.toList<2 ^ K):=Hi (by rw[←hK];exact Qdo HD2.out.2 (by rw[Qag,←hK0];exact hs2));have HKK:Hid (K+K<137438953000):=Hi (by omega);clear hK hK0;have HQ:=Hi (Qh5 HTE.out HNG.out HE1.out HE2.out HBR.out HD1.out (fun _=>HD2.out));go_wp2_with fail;go_fit (HP1.out _ HD1.out.2);rintro e w3 hN;obtain⟨⟨a,n,c,rfl,hv⟩,hb⟩:=hN.numV;have HNV:=Hi hv;have HS':=Hi (HS.out.below hb HS.out.lt);have HBP':=Hi (HBP.out.trans (hb.mono HBP.out.size));clear HS HBP hv hb hN;have HS:=HS';have HBP:=HBP';clear HS' HBP';go_wp2_with fail;go_fit (HP2.out _ HD2.out.2);rintro e w4 hN;obtain⟨⟨a2,n2,cc2,rfl,hv⟩,hb⟩:=hN.numV;have HNV2:=Hi hv
    have HNV1:=Hi (HNV.out.below hb);have HS':=Hi (HS.out.below hb HS.out.lt);have HBP':=Hi (HBP.out.trans (hb.mono HBP.out.size));clear HS HBP hv hb hN HNV;have HS:=HS';have HBP:=HBP';clear HS' HBP';go_wp2_with fail;go_fit (Qkp neg a a2 n c n2 cc2 (decVal c1.data.toList) (decVal c2.data.toList) K K _ HNV1.out HNV2.out HK1.out HK2.out HKK.out);rintro e w9 ⟨⟨v9,rfl,hv⟩,hb⟩;obtain⟨neg9,a9,n9,c9,b9,m9,d9,rfl,hv⟩:=hv;have hs:=HS.out.below hb HS.out.lt;have k0:=hs.cell 0;have k1:=hs.cell 1;have k2:=hs.cell 2;have f0:=hs.free 0;have f1:=hs.free 1;have f2:=hs.free 2;simp[zeroFrac] at k0 k1 k2;have HV:=Hi hv;have HS9:=Hi hs;have HB9:=Hi (HBP.out.trans (hb.mono HBP.out.size));clear hv hs hb;go_wp2
    refine bodyPost_ret (v:=.agg #[.bool neg9,.slice a9 n9 c9,.slice b9 m9 d9]) (results_cell_row rfl _ _ (w.heap.size) 62 #[.bool neg9,.slice a9 n9 c9,.slice b9 m9 d9] (0,0) _ rfl (((HS9.out.set 0 _).set 1 _).set 2 _) Tryz.underlying62 rfl Tryz.fracInfo) rfl ?_;have ho:=(((Only.refl (w.heap.size) w9).setCell 0 (.bool neg9)).setCell 1 (.slice a9 n9 c9)).setCell 2 (.slice b9 m9 d9);exact⟨_,HQ.out,⟨_,rfl,neg9,a9,n9,c9,b9,m9,d9,rfl,HV.out.only ho HS9.out Qa6⟩,Only.fresh HB9.out ho (by omega)⟩
end Go.Proofs.YtodfmpjhcmapmaaGreatDoor
namespace Go.Proofs
open Go.Shelf
end Go.Proofs
namespace Go.Proofs.YtodfmpjhcmapmaaGreatDoor
open Go.RowKit Go.Sort Go.Lib
set_option linter.unusedVariables false
set_option linter.unusedSimpArgs false
def Tab(w:World):Prop:=Lib.TabIs Tryz.prog w "internal/strconv.uint64pow10" .u64 Lib.pow10Tab
theorem Tab.below{w w':World}(h:Tab w)(hb:Below w.heap.size w w'):Tab w':=by
 unfold Tab Lib.TabIs World.var? at*;cases hg:Tryz.prog.globalNamed "internal/strconv.uint64pow10" with
 |none=>simp[hg] at h
 |some g=>
  simp only[hg,Option.bind_some] at h ⊢;have hlt:g<w.heap.size:=by
   rcases Nat.lt_or_ge g w.heap.size with h'|h'
   · exact h'
   · simp[Array.getElem?_eq_none h'] at h
  rw[hb.block g hlt];exact h
end Go.Proofs.YtodfmpjhcmapmaaGreatDoor
namespace Go.Proofs.YtodfmpjhcmapmaaGreatDoor
open Go.RowKit
set_option linter.unusedVariables false
set_option linter.unusedSimpArgs false
set_option maxHeartbeats 1000000 in
set_option maxRecDepth 100000 in
theorem Qgd(a1 a2:Option Addr)(c1 c2:Nat)(l m:List Nat)(w:World)(h1:Row .u64 w a1 c1 l)(h2:Row .u64 w a2 c2 m)(hl:l.length≤1099511627776)(hm:m.length≤1099511627776):
 Calls Tryz.prog 175 #[.slice a1 l.length c1,.slice a2 m.length c2] w fun e w'=>e=.returned (.bool (decide (l=m)))∧Below w.heap.size w w':=by
 have H1:=Hi h1;have H2:=Hi h2;clear h1 h2;by_cases hlm:l.length=m.length
 ·
  have q1:((l.length:Int) != (m.length:Int))=false:=by simp[hlm]
  have q2:((l.length:Int) == (m.length:Int))=true:=by simp[hlm]
  go_enter Tryz.func175,Tryz.ntmps175;go_wp2;go_loopw [13] (fun iv wr=>∃k:Nat,k≤l.length∧iv=.int .i64 k∧l.take k=m.take k∧Below w.heap.size w wr) (fun iv _=>l.length - (intOf iv).toNat)
  case atStart=>exact⟨0,by omega,rfl,by simp,Below.refl _ _⟩
  case round=>
   obtain⟨k,hk,rfl,ht,hb⟩:=hrel;have HT:=Hi ht;have HB:=Hi hb;clear ht hb;by_cases hlt:k<l.length
   ·
    obtain⟨b1,o1,rfl,hb1,hc1⟩:=(H1.out.below HB.out).cell k hlt;obtain⟨b2,o2,rfl,hb2,hc2⟩:=(H2.out.below HB.out).cell k (by omega);obtain⟨x,hx⟩:∃x,l.getD k 0=x:=⟨_,rfl⟩;obtain⟨y,hy⟩:∃y,m.getD k 0=y:=⟨_,rfl⟩;rw[hx] at hc1;rw[hy] at hc2;have HXX:=Hi hx;have HYY:=Hi hy;have e1:l.take (k+1)=l.take k++ [x]:=by rw[List.take_succ_eq_append_getElem hlt,←hx,List.getD_eq_getElem?_getD,List.getElem?_eq_getElem hlt];rfl
    have e2:m.take (k+1)=m.take k++ [y]:=by rw[List.take_succ_eq_append_getElem (by omega),←hy,List.getD_eq_getElem?_getD,List.getElem?_eq_getElem (by omega)];rfl
    have HE1:=Hi e1;have HE2:=Hi e2;clear hx hy e1 e2;by_cases hxy:x=y
    ·
     subst hxy;have q3:((x:Int) == (x:Int))=true:=by simp
     go_wp2_with fail;go_region
     all_goals
      go_wp2;go_roundw
      case rel=>exact⟨k+1,by omega,by go_num,by rw[HE1.out,HE2.out,HT.out],HB.out.drew⟩
      case measure=>simp[intOf];omega
    ·
     have q3:((x:Int) == (y:Int))=false:=by rw[beq_eq_false_iff_ne];omega
     have q4:((x:Int) != (y:Int))=true:=by rw[bne_iff_ne];omega
     have HNE:Hid (decide (l=m)=false):=Hi (decide_eq_false (fun h=>by
      have h1:=HXX.out;rw[h,HYY.out] at h1
      exact hxy h1.symm))
     go_wp2_with fail;go_region
     all_goals
      go_wp2;go_ret;exact⟨by rw[HNE.out];rfl,HB.out.drew⟩
   ·
    have hk':k=l.length:=by omega
    subst hk';have HEQ:Hid (decide (l=m)=true):=Hi (decide_eq_true (by have:=HT.out;rwa [List.take_length,List.take_of_length_le (by omega)] at this));go_wp2;go_ret;exact⟨by rw[HEQ.out];rfl,HB.out⟩
 ·
  have q1:((l.length:Int) != (m.length:Int))=true:=by rw[bne_iff_ne];omega
  have q2:((l.length:Int) == (m.length:Int))=false:=by rw[beq_eq_false_iff_ne];omega
  have HNE:Hid (decide (l=m)=false):=Hi (decide_eq_false (fun h=>hlm (by rw[h])));go_enter Tryz.func175,Tryz.ntmps175;go_wp2;go_ret;exact⟨by rw[HNE.out];rfl,Below.refl _ _⟩
theorem Low.row{w:World}{b:Option Addr}{m d k:Nat}(h:Low w b m d k):∃L:List Nat,L.length=m∧Row .u64 w b d L∧L.length≤1099511627776∧((L= []∧k=1)∨(1<k∧Num 18446744073709551616 L k)):=by
 rcases h with ⟨rfl,rfl,rfl,rfl⟩|⟨h,l,hl,hu⟩
 · exact⟨[],rfl,Row.nil _ _,by simp,.inl ⟨rfl,rfl⟩⟩
 · exact⟨l,hl,hu.row,hu.short,.inr ⟨h,hu.num⟩⟩
theorem Qge{L M:List Nat}{j k:Nat}(h1:(L= []∧j=1)∨(1<j∧Num 18446744073709551616 L j))(h2:(M= []∧k=1)∨(1<k∧Num 18446744073709551616 M k)):L=M↔j=k:=by
 rcases h1 with ⟨rfl,rfl⟩|⟨g1,n1⟩<;>rcases h2 with ⟨rfl,rfl⟩|⟨g2,n2⟩
 · simp
 ·
  constructor
  · rintro rfl;have:=n2.eq;simp[val] at this;omega
  · intro h;omega
 ·
  constructor
  · rintro rfl;have:=n1.eq;simp[val] at this;omega
  · intro h;omega
 ·
  constructor
  · rintro rfl;rw[←n1.eq,←n2.eq]
  · rintro rfl;exact n1.inj (by decide) n2
theorem Qk2(p q:Rat):p=q↔(decide (p.num<0)=decide (q.num<0)∧p.num.natAbs=q.num.natAbs∧p.den=q.den):=by
 constructor
 · rintro rfl;exact⟨rfl,rfl,rfl⟩
 ·
  rintro⟨h1,h2,h3⟩;refine Rat.ext ?_ h3;rw[←Qbo p.num,←Qbo q.num,h1,h2]
set_option maxHeartbeats 1000000 in
set_option maxRecDepth 100000 in
theorem Qk3(nx ny:Bool)(ax bx ay b2:Option Addr)(lx cx mx dx ly cy my dy:Nat)(p q:Rat)(w:World)(hx:FracAt w nx ax lx cx bx mx dx p)(hy:FracAt w ny ay ly cy b2 my dy q):
 Calls Tryz.prog 143 #[.agg #[.bool nx,.slice ax lx cx,.slice bx mx dx],.agg #[.bool ny,.slice ay ly cy,.slice b2 my dy]] w fun e w'=>e=.returned (.bool (decide (p=q)))∧Below w.heap.size w w':=by
 obtain⟨lX,rfl,hX⟩:=hx.top;obtain⟨lY,rfl,hY⟩:=hy.top;obtain⟨LX,rfl,hLX,hLXs,hLXk⟩:=hx.low.row;obtain⟨LY,rfl,hLY,hLYs,hLYk⟩:=hy.low.row;have hT:decide (lX=lY)=decide (p.num.natAbs=q.num.natAbs):=by
  by_cases h:p.num.natAbs=q.num.natAbs
  · rw[decide_eq_true h];rw[h] at hX;exact decide_eq_true (hX.num.inj (by decide) hY.num)
  · rw[decide_eq_false h];exact decide_eq_false (fun hc=>h (by rw[←hX.num.eq,←hY.num.eq,hc]))
 have hL:decide (LX=LY)=decide (p.den=q.den):=by
  by_cases h:p.den=q.den
  · rw[decide_eq_true h];exact decide_eq_true ((Qge hLXk hLYk).2 h)
  · rw[decide_eq_false h];exact decide_eq_false (fun hc=>h ((Qge hLXk hLYk).1 hc))
 have hpq:=Qk2 p q;rw[←hx.neg,←hy.neg] at hpq;obtain⟨wA,hwA⟩:∃wA,(w.alloc (.cells #[.bool nx,.slice ax lX.length cx,.slice bx LX.length dx] 62)).alloc (.cells #[.bool ny,.slice ay lY.length cy,.slice b2 LY.length dy] 62)=wA:=⟨_,rfl⟩;have hbA:Below w.heap.size w wA:=by rw[←hwA];exact Below.new2 w _ _
 have hsy:SB wA (w.heap.size+1) 62 #[.bool ny,.slice ay lY.length cy,.slice b2 LY.length dy]:=by rw[←hwA];exact SB.new2 w _ _ _ _
 have hsx:SB wA w.heap.size 62 #[.bool nx,.slice ax lX.length cx,.slice bx LX.length dx]:=by rw[←hwA];exact(SB.new w _ _).alloc _
 have HT1:=Hi (Qgd ax ay cx cy lX lY wA (hX.row.below hbA) (hY.row.below hbA) hX.short hY.short);have HT2:=Hi (fun w1 hb=>Qgd bx b2 dx dy LX LY w1 ((hLX.below hbA).below hb) ((hLY.below hbA).below hb) hLXs hLYs);rw[hT] at HT1;rw[hL] at HT2;have x0:wA.cell? ⟨w.heap.size,0,none⟩=some (.bool nx):=hsx.cell 0;have x1:wA.cell? ⟨w.heap.size,1,none⟩=some (.slice ax lX.length cx):=hsx.cell 1;have y0:wA.cell? ⟨w.heap.size+1,0,none⟩=some (.bool ny):=hsy.cell 0;have y1:wA.cell? ⟨w.heap.size+1,1,none⟩=some (.slice ay lY.length cy):=hsy.cell 1;have HSX:=Hi hsx;have HSY:=Hi hsy;have HBA:=Hi hbA;have HWA:=Hi hwA;have HPQ:=Hi hpq;have hsz:=hbA.size;clear hx hy hX hY hLX hLXs hLXk hLY hLYs hLYk hT hL hpq hbA hsx hsy hwA;by_cases hn:nx=ny
 ·
  subst hn;by_cases ht:p.num.natAbs=q.num.natAbs
  ·
   rw[decide_eq_true ht] at HT1;go_enter Tryz.func143,Tryz.ntmps143;go_wp2_with fail;rw[HWA.out];go_fit HT1.out;rintro e w1 ⟨rfl,hb1⟩;have HC2:=Hi (HT2.out w1 hb1);have hsx1:=HSX.out.below hb1 HSX.out.lt;have hsy1:=HSY.out.below hb1 HSY.out.lt;have x2:w1.cell? ⟨w.heap.size,2,none⟩=some (.slice bx LX.length dx):=hsx1.cell 2;have y2:w1.cell? ⟨w.heap.size+1,2,none⟩=some (.slice b2 LY.length dy):=hsy1.cell 2;have HB1:=Hi (HBA.out.trans (hb1.mono hsz));clear HT1 HT2 hb1 hsx1 hsy1;go_wp2_with fail;go_fit HC2.out;rintro e w2 ⟨rfl,hb2⟩;have HB2:=Hi (HB1.out.trans (hb2.mono HB1.out.size));clear HC2 hb2;go_wp2;go_ret;refine⟨?_,HB2.out⟩;by_cases hd:p.den=q.den
   · rw[decide_eq_true hd,decide_eq_true (HPQ.out.2 ⟨by trivial,ht,hd⟩)];rfl
   · rw[decide_eq_false hd,decide_eq_false (fun h=>hd (HPQ.out.1 h).2.2)];rfl
  ·
   rw[decide_eq_false ht] at HT1;have HNE:Hid (decide (p=q)=false):=Hi (decide_eq_false (fun h=>ht (HPQ.out.1 h).2.1));go_enter Tryz.func143,Tryz.ntmps143;go_wp2_with fail;rw[HWA.out];go_fit HT1.out;rintro e w1 ⟨rfl,hb1⟩;have HB1:=Hi (HBA.out.trans (hb1.mono hsz));clear HT1 HT2 hb1;go_wp2;go_ret;exact⟨by rw[HNE.out];rfl,HB1.out⟩
 ·
  have q0:(nx == ny)=false:=by simpa using hn
  have HNE:Hid (decide (p=q)=false):=Hi (decide_eq_false (fun h=>hn (HPQ.out.1 h).1));clear HT1 HT2;go_enter Tryz.func143,Tryz.ntmps143;go_wp2;go_ret;exact⟨by rw[HNE.out];rfl,by rw[HWA.out];exact HBA.out⟩
theorem Qk4{v1 v2:Value}{p q:Rat}{w:World}(hx:FracV w v1 p)(hy:FracV w v2 q):Calls Tryz.prog 143 #[v1,v2] w fun e w'=>e=.returned (.bool (decide (p=q)))∧Below w.heap.size w w':=by
 obtain⟨nx,ax,lx,cx,bx,mx,dx,rfl,hx⟩:=hx;obtain⟨ny,ay,ly,cy,b2,my,dy,rfl,hy⟩:=hy;exact Qk3 nx ny ax bx ay b2 lx cx mx dx ly cy my dy p q w hx hy
def hasTen:Prop:=(Tryz.prog.globalNamed "internal/strconv.uint64pow10").isSome=true
structure Glob (w:World):Prop where
 most:∃m,w.cell? ⟨4,0,none⟩=some (.int .i64 m)
 tab:hasTen→Tab w
theorem Glob.below{w w':World}(h:Glob w)(hb:Below w.heap.size w w'):Glob w':=by
 obtain⟨m,hm⟩:=h.most;exact⟨⟨m,(hb.cell (p:=⟨4,0,none⟩) (World.block_lt_of_cell? _ _ hm)).trans hm⟩,fun h9=>(h.tab h9).below hb⟩
structure FE where
 x:Value
 y:Value
 z:Value
 q:Rat
 k:Nat
structure FBag (w0 w:World) (L:List FE):Prop where
 base:Below w0.heap.size w0 w
 glob:Glob w0
 ts:∀t,t∈ L→FracV w (.agg #[t.x,t.y,t.z]) t.q∧Fits t.q t.k∧0<t.k
theorem FBag.start{w:World}(h:Glob w):FBag w w []:=⟨Below.refl _ _,h,fun t ht=>by cases ht⟩
theorem FBag.below{w0 w w':World}{L:List FE}(h:FBag w0 w L)(hb:Below w.heap.size w w'):FBag w0 w' L:=
 ⟨h.base.trans (hb.mono h.base.size),h.glob,fun t ht=>⟨(h.ts t ht).1.below hb,(h.ts t ht).2⟩⟩
theorem FBag.drew{w0 w:World}{L:List FE}(h:FBag w0 w L):FBag w0 w.drew L:=h.below (Below.refl _ _).drew
theorem FBag.globNow{w0 w:World}{L:List FE}(h:FBag w0 w L):Glob w:=h.glob.below h.base
theorem FBag.get{w0 w:World}{L:List FE}{x y z:Value}{q:Rat}{k:Nat}(h:FBag w0 w L)(hx:⟨x,y,z,q,k⟩∈ L):FracV w (.agg #[x,y,z]) q∧Fits q k∧0<k:=h.ts _ hx
theorem FBag.put{w0 w:World}{L:List FE}{x y z:Value}{q:Rat}{k:Nat}(h:FBag w0 w L)(hv:FracV w (.agg #[x,y,z]) q)(hf:Fits q k)(hk:0<k):FBag w0 w (⟨x,y,z,q,k⟩ :: L):=
 ⟨h.base,h.glob,fun t ht=>by
   rcases List.mem_cons.1 ht with rfl|ht
   · exact⟨hv,hf,hk⟩
   · exact h.ts t ht⟩
theorem FBag.only{w0 w w':World}{L:List FE}{g:Nat}{t:TypeId}{C:Array Value}(h:FBag w0 w L)(ho:Only g w w')(hs:SB w g t C)(hn:NoU64 C)(hg:w0.heap.size≤g):FBag w0 w' L:=
 ⟨Only.fresh h.base ho hg,h.glob,fun t ht=>⟨(h.ts t ht).1.only ho hs hn,(h.ts t ht).2⟩⟩
theorem FBag.from{w0 w1 w:World}{L M:List FE}(h:FBag w1 w L)(hb:Below w0.heap.size w0 w1)(hg:Glob w0)(hm:∀t,t∈ M→∃k,⟨t.x,t.y,t.z,t.q,k⟩∈ L∧k≤t.k):FBag w0 w M:=by
 refine⟨hb.trans (h.base.mono hb.size),hg,fun t ht=>?_⟩;obtain⟨k,hk,hle⟩:=hm t ht;have:=h.ts _ hk;exact⟨this.1,this.2.1.mono hle,Nat.lt_of_lt_of_le this.2.2 hle⟩
def FNewB(w0:World)(L:List FE)(q:Rat)(k:Nat)(e:Ending)(w':World):Prop:=∃x y z,e=.returned (.agg #[x,y,z])∧FBag w0 w' (⟨x,y,z,q,k⟩ :: L)
theorem FBag.new{w0 w w':World}{L:List FE}{q:Rat}{k:Nat}{e:Ending}(h:FBag w0 w L)(hn:FNew w q e w')(hf:Fits q k)(hk:0<k):FNewB w0 L q k e w':=by
 obtain⟨⟨v,rfl,neg,a,n,c,b,m,d,rfl,hv⟩,hb⟩:=hn;exact⟨_,_,_,rfl,(h.below hb).put ⟨neg,a,n,c,b,m,d,rfl,hv⟩ hf hk⟩
theorem FBag.minus{w0 w:World}{L:List FE}{x1 x2 x3 y1 y2 y3:Value}{j k:Nat}{p q:Rat}(h:FBag w0 w L)(hx:⟨x1,x2,x3,p,j⟩∈ L)(hy:⟨y1,y2,y3,q,k⟩∈ L)(hj:j+k<68719476000):
 Calls Tryz.prog 115 #[.agg #[x1,x2,x3],.agg #[y1,y2,y3]] w (FNewB w0 L (p - q) (j+k+1)):=by
 obtain⟨hx,fx,kx⟩:=h.get hx;obtain⟨hy,fy,ky⟩:=h.get hy;exact(Qk0 hx hy fx fy hj).mono fun e w' hn=>h.new hn (fx.sub fy) (by omega)
theorem Fits.div{p q:Rat}{j k:Nat}(h:Fits p j)(h':Fits q k)(hj:0<j)(hk:0<k):Fits (p / q) (j+k):=by
 by_cases hq:q=0
 · rw[hq,Rat.div_def,Rat.inv_zero,Rat.mul_zero];exact Fits.zero.mono (by omega)
 · rw[Rat.div_def];exact h.mul (h'.inv hq) hj
theorem FBag.equal{w0 w:World}{L:List FE}{x1 x2 x3 y1 y2 y3:Value}{j k:Nat}{p q:Rat}(h:FBag w0 w L)(hx:⟨x1,x2,x3,p,j⟩∈ L)(hy:⟨y1,y2,y3,q,k⟩∈ L):
 Calls Tryz.prog 143 #[.agg #[x1,x2,x3],.agg #[y1,y2,y3]] w (fun e w'=>e=.returned (.bool (decide (p=q)))∧FBag w0 w' L):=by
 obtain⟨hx,fx,kx⟩:=h.get hx;obtain⟨hy,fy,ky⟩:=h.get hy;refine(Qk4 hx hy).mono ?_;rintro e w' ⟨rfl,hb⟩;exact⟨rfl,h.below hb⟩
theorem FBag.of{w0 w:World}{L:List FE}{n:Nat}(s:ByteArray)(h:FBag w0 w L)(hs:s.size≤n)(hn:n≤1073741824):
 Calls Tryz.prog 29 #[.string s] w (fun e w'=>∃q,QOf s.data.toList q∧FNewB w0 L q (4*n+1) e w'):=by
 obtain⟨m,hm⟩:=h.globNow.most;refine(Qpt s m w hm (by omega)).mono ?_;rintro e w' ⟨q,hq,hf⟩;exact⟨q,hq,h.new hf (hq.fits (by rw[Qag];exact hs)) (by omega)⟩
theorem Qkh{C:Array Value}(h:∀v,v∈ C.toList→∀n,v≠Value.int .u64 n):NoU64 C:=fun i n hi=>h _ (by rw[←Array.getElem?_toList] at hi;exact List.mem_of_getElem? hi) n rfl
theorem Tryz.spotInfo:(Tryz.prog.info? 36).map (·.size)=some 2:=by kernel_rfl
end Go.Proofs.YtodfmpjhcmapmaaGreatDoor
