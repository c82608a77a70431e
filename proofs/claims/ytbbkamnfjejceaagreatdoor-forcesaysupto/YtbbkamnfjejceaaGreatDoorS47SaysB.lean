/- rafterlaw's ForceSays where the forces are too many. -/
import Derived.Test.YtbbkamnfjejceaaGreatDoorS46LendF
namespace Go.Proofs.YtbbkamnfjejceaaGreatDoor
open Go.RowKit
set_option linter.unusedVariables false
set_option linter.unusedSimpArgs false
set_option maxRecDepth 100000 in
set_option maxHeartbeats 4000000 in
theorem Qen(g:Nat)(a:Option Addr)(cap:Nat)(fs:List F4)(m0 m1 m2 m3:ByteArray)(w:World)(hl:FRow w (some ⟨g,0,none⟩) (fs.length+3) (fs++ [⟨m0,m1,m2,m3⟩,⟨m0,m1,m2,m3⟩,⟨m0,m1,m2,m3⟩]))(hf:FRow w a cap fs)(hn:fs.length≤1048576):
 Calls Tryz.prog 12 #[.slice (some ⟨g,0,none⟩) fs.length (fs.length+3),.slice a fs.length cap,.agg #[.string m0,.string m1,.string m2,.string m3]] w fun e w'=>e=.returned (.bool true)∧Below w.heap.size w w':=by
 have HL:=Hi hl;have HF:=Hi hf;clear hl hf;go_enter Tryz.func12,Tryz.ntmps12;go_wp2_with fail;obtain⟨W,hW⟩:∃W,w.alloc (.cells #[.string m0,.string m1,.string m2,.string m3] 29)=W:=⟨_,rfl⟩;have HB0:Hid (Below w.heap.size w W):=Hi (by rw[←hW];exact(Below.refl _ _).alloc (Nat.le_refl _) _);have HSB:Hid (SB W w.heap.size 29 #[.string m0,.string m1,.string m2,.string m3]):=Hi (by rw[←hW];exact SB.new w _ _);have hlt:w.heap.size<W.heap.size:=HSB.out.lt;rw[hW];clear hW;go_loopw [17] (fun iv wr=>∃k:Nat,k≤fs.length+3∧iv=.int .i64 k∧Below W.heap.size W wr) (fun iv _=>fs.length+3 - (intOf iv).toNat)
 case atStart=>exact⟨0,by omega,rfl,Below.refl _ _⟩
 case round=>
  obtain⟨k,hk,rfl,hb⟩:=hrel;have HB:=Hi hb;have hsz:=hb.size;clear hb;by_cases hlt3:k<fs.length+3
  ·
   obtain⟨f,hfk⟩:∃f,(fs++ [⟨m0,m1,m2,m3⟩,⟨m0,m1,m2,m3⟩,⟨m0,m1,m2,m3⟩])[k]?=some f:=⟨_,List.getElem?_eq_getElem (by simpa using hlt3)⟩;obtain⟨fb,off,hfa,hfb,c0,c1,c2,c3⟩:=(HL.out.below (HB0.out.trans (HB.out.mono HB0.out.size))).cell k f hfk;simp only[Option.some.injEq,Addr.mk.injEq,and_true] at hfa;obtain⟨rfl,rfl⟩:=hfa;rw[Nat.zero_add] at c0 c1 c2 c3;by_cases hkn:k<fs.length
   ·
    have hfk':fs[k]?=some f:=by rw[List.getElem?_append_left hkn] at hfk;exact hfk
    obtain⟨ab,aoff,rfl,hab,d0,d1,d2,d3⟩:=(HF.out.below (HB0.out.trans (HB.out.mono HB0.out.size))).cell k f hfk';have q1:((k:Int)<(fs.length:Int)):=by omega
    have q2:decide (fs.length≤k)=false:=by simpa using hkn
    have HFK:=Hi hfk;clear hfk hfk';go_wp2_with fail;obtain⟨V,hV⟩:∃V,wr.alloc (.cells #[.string f.ax,.string f.ay,.string f.wx,.string f.wy] 29)=V:=⟨_,rfl⟩;obtain⟨vb,hvb⟩:∃vb,wr.heap.size=vb:=⟨_,rfl⟩;have hsV:SB V vb 29 #[.string f.ax,.string f.ay,.string f.wx,.string f.wy]:=by rw[←hV,←hvb];exact SB.new wr _ _
    have hbV:Below wr.heap.size wr V:=by rw[←hV];exact(Below.refl _ _).alloc (Nat.le_refl _) _
    have HBV:Hid (Below W.heap.size W V):=Hi (HB.out.trans (hbV.mono HB.out.size));have hsm:=HSB.out.below HBV.out HSB.out.lt;have e0:V.cell? ⟨vb,0,none⟩=some (.string f.ax):=hsV.cell 0;have e1:V.cell? ⟨vb,1,none⟩=some (.string f.ay):=hsV.cell 1;have e2:V.cell? ⟨vb,2,none⟩=some (.string f.wx):=hsV.cell 2;have e3:V.cell? ⟨vb,3,none⟩=some (.string f.wy):=hsV.cell 3;have b0:V.cell? ⟨w.heap.size,0,none⟩=some (.string m0):=hsm.cell 0;have b1:V.cell? ⟨w.heap.size,1,none⟩=some (.string m1):=hsm.cell 1;have b2:V.cell? ⟨w.heap.size,2,none⟩=some (.string m2):=hsm.cell 2;have b3:V.cell? ⟨w.heap.size,3,none⟩=some (.string m3):=hsm.cell 3;rw[hV,hvb];clear hV hsV hsm hvb;have a0:V.cell? ⟨ab,aoff+k*4,none⟩=some (.string f.ax):=(hbV.cell (p:=⟨ab,aoff+k*4,none⟩) hab).trans d0;have a1:V.cell? ⟨ab,aoff+k*4+1,none⟩=some (.string f.ay):=(hbV.cell (p:=⟨ab,aoff+k*4+1,none⟩) hab).trans d1
    have a2:V.cell? ⟨ab,aoff+k*4+2,none⟩=some (.string f.wx):=(hbV.cell (p:=⟨ab,aoff+k*4+2,none⟩) hab).trans d2;have a3:V.cell? ⟨ab,aoff+k*4+3,none⟩=some (.string f.wy):=(hbV.cell (p:=⟨ab,aoff+k*4+3,none⟩) hab).trans d3;clear c0 c1 c2 c3 d0 d1 d2 d3 hbV;go_quiet (fail);go_wp2;go_roundw
    case rel=>exact⟨k+1,by omega,by go_num,⟨HBV.out.os,HBV.out.tape,HBV.out.output,HBV.out.size,HBV.out.block⟩⟩
    case measure=>simp[intOf];omega
   ·
    have hm:f=⟨m0,m1,m2,m3⟩:=by
     rw[List.getElem?_append_right (by omega)] at hfk;have h3:k - fs.length=0∨k - fs.length=1∨k - fs.length=2:=by omega
     rcases h3 with h|h|h<;>rw[h] at hfk<;>exact(Option.some.inj hfk).symm
    subst hm;have q1:¬((k:Int)<(fs.length:Int)):=by omega
    have q2:decide ((k:Int)<(fs.length:Int))=false:=by simpa using q1
    clear hfk;go_wp2_with fail;obtain⟨V,hV⟩:∃V,wr.alloc (.cells #[.string m0,.string m1,.string m2,.string m3] 29)=V:=⟨_,rfl⟩;obtain⟨vb,hvb⟩:∃vb,wr.heap.size=vb:=⟨_,rfl⟩;have hsV:SB V vb 29 #[.string m0,.string m1,.string m2,.string m3]:=by rw[←hV,←hvb];exact SB.new wr _ _
    have hbV:Below wr.heap.size wr V:=by rw[←hV];exact(Below.refl _ _).alloc (Nat.le_refl _) _
    have HBV:Hid (Below W.heap.size W V):=Hi (HB.out.trans (hbV.mono HB.out.size));have hsm:=HSB.out.below HBV.out HSB.out.lt;have e0:V.cell? ⟨vb,0,none⟩=some (.string m0):=hsV.cell 0;have e1:V.cell? ⟨vb,1,none⟩=some (.string m1):=hsV.cell 1;have e2:V.cell? ⟨vb,2,none⟩=some (.string m2):=hsV.cell 2;have e3:V.cell? ⟨vb,3,none⟩=some (.string m3):=hsV.cell 3;have b0:V.cell? ⟨w.heap.size,0,none⟩=some (.string m0):=hsm.cell 0;have b1:V.cell? ⟨w.heap.size,1,none⟩=some (.string m1):=hsm.cell 1;have b2:V.cell? ⟨w.heap.size,2,none⟩=some (.string m2):=hsm.cell 2;have b3:V.cell? ⟨w.heap.size,3,none⟩=some (.string m3):=hsm.cell 3;rw[hV,hvb];clear hV hsV hsm hvb;clear c0 c1 c2 c3 hbV;go_quiet (fail);go_wp2;go_roundw
    case rel=>exact⟨k+1,by omega,by go_num,⟨HBV.out.os,HBV.out.tape,HBV.out.output,HBV.out.size,HBV.out.block⟩⟩
    case measure=>simp[intOf];omega
  ·
   have hk':k=fs.length+3:=by omega
   subst hk';go_wp2;go_ret;exact⟨rfl,HB0.out.trans (HB.out.mono HB0.out.size)⟩
theorem Qhs{s t:ByteArray}(h:s.data.toList=t.data.toList):s=t:=(Qax h).trans (Qax rfl).symm
theorem Qan{s t:ByteArray}{q:Rat}(h:QText s.data.toList q)(k:QText t.data.toList q):s=t:=Qhs (h.inj k)
theorem Qht{fs:List F4}{x y t:Rat}{kind:Int}{s1 s2 s3 s4 s5 r1 r2 r3 r4 r5:ByteArray}(hs:Sums 0 0 fs x y t)(h1:QText s1.data.toList x)(h2:QText s2.data.toList y)(h3:QText s3.data.toList t)
 (h4:QText s4.data.toList (nearX x y t)) (h5:QText s5.data.toList (nearY x y t)) (hr:SumText fs kind r1 r2 r3 r4 r5):
 kind=kindOf x y t∧r1=s1∧r2=s2∧r3=s3∧r4=s4∧r5=s5:=by
 obtain⟨x',y',t',hs',k1,k2,k3,hc⟩:=hr;obtain⟨rfl,rfl,rfl⟩:=hs'.inj hs;obtain rfl:=Qan h1 k1;obtain rfl:=Qan h2 k2;obtain rfl:=Qan h3 k3;have hz:QText zeroText.data.toList 0:=Qb5;rcases hc with ⟨h0,hk,rfl,rfl⟩|⟨h0,rfl,k4,k5⟩
 ·
  have hxy:x'=0∧y'=0:=Classical.byContradiction fun hn=>sq_ne hn h0
  rw[nearX,if_pos hxy] at h4;rw[nearY,if_pos hxy] at h5;refine⟨?_,rfl,rfl,rfl,Qan hz h4,Qan hz h5⟩;rw[kindOf,if_pos hxy];rcases hk with ⟨ht,rfl⟩|⟨ht,rfl⟩
  · rw[if_pos ht]
  · rw[if_neg ht]
 ·
  have hxy:¬(x'=0∧y'=0):=by
   rintro⟨rfl,rfl⟩;exact h0 (by grind)
  rw[nearX,if_neg hxy] at h4;rw[nearY,if_neg hxy] at h5;rw[show t'*y' / (x'*x'+y'*y')=y'*(t' / (x'*x'+y'*y')) by grind] at k4;rw[show -(t'*x') / (x'*x'+y'*y')= -x'*(t' / (x'*x'+y'*y')) by grind] at k5;exact⟨by rw[kindOf,if_neg hxy],rfl,rfl,rfl,Qan k4 h4,Qan k5 h5⟩
theorem Qok{fs gs:List F4}{x y t x' y' t':Rat}{k k':Int}{p1 p2 p3 p4 p5 q1 q2 q3 q4 q5:ByteArray}(hs:Sums 0 0 fs x y t)(hs':Sums 0 0 gs x' y' t')
 (hp:SumText fs k p1 p2 p3 p4 p5) (hq:SumText gs k' q1 q2 q3 q4 q5):(x=x'∧y=y'∧t=t')↔(p1=q1∧p2=q2∧p3=q3):=by
 obtain⟨x1,y1,t1,h1,a1,a2,a3,_⟩:=hp;obtain⟨rfl,rfl,rfl⟩:=h1.inj hs;obtain⟨x2,y2,t2,h2,b1,b2,b3,_⟩:=hq;obtain⟨rfl,rfl,rfl⟩:=h2.inj hs';constructor
 · rintro⟨rfl,rfl,rfl⟩
   exact⟨Qan a1 b1,Qan a2 b2,Qan a3 b3⟩
 · rintro⟨rfl,rfl,rfl⟩
   exact⟨a1.one b1,a2.one b2,a3.one b3⟩
structure Marked (w:World):Prop where
 c0:w.cell? ⟨0,0,none⟩=some (.string ⟨#[109,97,114,107]⟩)
 c1:w.cell? ⟨0,1,none⟩=some (.string ⟨#[]⟩)
 c2:w.cell? ⟨0,2,none⟩=some (.string ⟨#[]⟩)
 c3:w.cell? ⟨0,3,none⟩=some (.string ⟨#[]⟩)
theorem Marked.below{w w':World}(h:Marked w)(hb:Below w.heap.size w w'):Marked w':=by
 have hl:0<w.heap.size:=World.block_lt_of_cell? _ _ h.c0;exact⟨(hb.cell (p:=⟨0,0,none⟩) hl).trans h.c0,(hb.cell (p:=⟨0,1,none⟩) hl).trans h.c1,(hb.cell (p:=⟨0,2,none⟩) hl).trans h.c2,(hb.cell (p:=⟨0,3,none⟩) hl).trans h.c3⟩
theorem FRow.left{w:World}{a:Option Addr}{cap:Nat}{fs gs:List F4}(h:FRow w a cap (fs++gs)):FRow w a cap fs:=by
 refine⟨?_,fun i f hi=>h.cell i f ?_⟩
 ·
  have:=h.fit;simp at this;omega
 · rw[List.getElem?_append_left (List.getElem?_eq_some_iff.1 hi).1]
   exact hi
set_option maxRecDepth 100000 in
set_option maxHeartbeats 2000000 in
theorem Qol(a b:Option Addr)(cap cap2 k:Nat)(fs:List F4)(sx sy:ByteArray)(w:World)(hg:Glob w)(hm:Marked w)(hf:FRow w a cap fs)(hn:fs.length≤1048576)(hl:60<fs.length):
 Calls Tryz.prog 3 #[.slice a fs.length cap,.slice b k cap2,.agg #[.string sx,.string sy]] w fun e w'=>e=.returned (.bool true)∧Below w.heap.size w w':=by
 have HG:=Hi hg;have HM:=Hi hm;have HF:=Hi hf;clear hg hm hf;go_enter Tryz.func3,Tryz.ntmps3;go_wp2_with fail;obtain⟨wA,hwA⟩:∃wA,w.alloc (.cells #[.string sx,.string sy] 25)=wA:=⟨_,rfl⟩;have HBA:Hid (Below w.heap.size w wA):=Hi (by rw[←hwA];exact(Below.refl _ _).alloc (Nat.le_refl _) _);have HAB:Hid (SB wA w.heap.size 25 #[.string sx,.string sy]):=Hi (by rw[←hwA];exact SB.new w _ _);rw[hwA];clear hwA;go_fit (Qdy wA (HG.out.below HBA.out));rintro e w1 ⟨rfl,hb1⟩;have HB1:=Hi (HBA.out.trans (hb1.mono HBA.out.size));have HC1:=Hi hb1;clear hb1;have hmk:=HM.out.below HB1.out;have m0:w1.cell? ⟨0,0,none⟩=some (.string ⟨#[109,97,114,107]⟩):=hmk.c0;have m1:w1.cell? ⟨0,1,none⟩=some (.string ⟨#[]⟩):=hmk.c1;have m2:w1.cell? ⟨0,2,none⟩=some (.string ⟨#[]⟩):=hmk.c2;have m3:w1.cell? ⟨0,3,none⟩=some (.string ⟨#[]⟩):=hmk.c3;clear hmk;go_wp2_with fail;clear m0 m1 m2 m3
 go_fit (Qd2 a cap fs ⟨#[109,97,114,107]⟩ ⟨#[]⟩ ⟨#[]⟩ ⟨#[]⟩ w1 (HF.out.below HB1.out) hn);rintro e w2 ⟨g,rfl,hrow,hb2⟩;have HB2:=Hi (HB1.out.trans (hb2.mono HB1.out.size));have HC2:=Hi (HC1.out.trans (hb2.mono HC1.out.size));have HL:=Hi hrow;clear hb2 hrow;have hab:=HAB.out.below HC2.out HAB.out.lt;have k0:_=some (Value.string sx):=hab.cell 0;have k1:_=some (Value.string sy):=hab.cell 1;clear hab;go_wp2_with fail;clear k0 k1;go_fit (Qjr (some ⟨g,0,none⟩) (fs.length+3) fs.length sx sy w2 hl);rintro e w3 ⟨rfl,hb3⟩;have HB3:=Hi (HB2.out.trans (hb3.mono HB2.out.size));have HC3:=Hi (HC2.out.trans (hb3.mono HC2.out.size));have HD3:=Hi hb3;clear hb3;obtain⟨gV,hgV⟩:∃gV,w3.heap.size=gV:=⟨_,rfl⟩;obtain⟨wB,hwB⟩:∃wB,w3.alloc (.cells #[.string ⟨#[]⟩,.string ⟨#[]⟩] 25)=wB:=⟨_,rfl⟩;have HB4:Hid (Below w.heap.size w wB):=Hi (by rw[←hwB];exact HB3.out.alloc HB3.out.size _)
 have HC4:Hid (Below wA.heap.size wA wB):=Hi (by rw[←hwB];exact HC3.out.alloc HC3.out.size _);have HD4:Hid (Below w2.heap.size w2 wB):=Hi (by rw[←hwB];exact HD3.out.alloc HD3.out.size _);have HV:Hid (SB wB gV 25 #[.string ⟨#[]⟩,.string ⟨#[]⟩]):=Hi (by rw[←hwB,←hgV];exact SB.new w3 _ _);have HWB:=Hi hwB;have HGV:=Hi hgV;clear hwB hgV;go_wp2_with fail;rw[HWB.out,HGV.out];go_fit (Qjs (some ⟨g,0,none⟩) (fs.length+3) fs.length wB hl);rintro e w4 ⟨rfl,hb4⟩;have HB5:=Hi (HB4.out.trans (hb4.mono HB4.out.size));have HC5:=Hi (HC4.out.trans (hb4.mono HC4.out.size));have HD5:=Hi (HD4.out.trans (hb4.mono HD4.out.size));have HE5:=Hi hb4;clear hb4;obtain⟨gS,hgS⟩:∃gS,w4.heap.size=gS:=⟨_,rfl⟩;obtain⟨wC,hwC⟩:∃wC,w4.alloc (.cells #[.int .i64 (0),.string ⟨#[]⟩,.string ⟨#[]⟩,.string ⟨#[]⟩,.string ⟨#[]⟩,.string ⟨#[]⟩] 34)=wC:=⟨_,rfl⟩
 have HB6:Hid (Below w.heap.size w wC):=Hi (by rw[←hwC];exact HB5.out.alloc HB5.out.size _);have HC6:Hid (Below wA.heap.size wA wC):=Hi (by rw[←hwC];exact HC5.out.alloc HC5.out.size _);have HD6:Hid (Below w2.heap.size w2 wC):=Hi (by rw[←hwC];exact HD5.out.alloc HD5.out.size _);have HE6:Hid (Below wB.heap.size wB wC):=Hi (by rw[←hwC];exact HE5.out.alloc HE5.out.size _);have HU:Hid (SB wC gS 34 #[.int .i64 (0),.string ⟨#[]⟩,.string ⟨#[]⟩,.string ⟨#[]⟩,.string ⟨#[]⟩,.string ⟨#[]⟩]):=Hi (by rw[←hwC,←hgS];exact SB.new w4 _ _);have HWC:=Hi hwC;have HGS:=Hi hgS;clear hwC hgS;go_wp2_with fail;rw[HWC.out,HGS.out];go_fit (Qfh (some ⟨g,0,none⟩) b (fs.length+3) cap2 fs.length k wC (.inl hl));rintro e w5 ⟨rfl,rfl⟩;have hmk:=HM.out.below HB6.out;have m0:w5.cell? ⟨0,0,none⟩=some (.string ⟨#[109,97,114,107]⟩):=hmk.c0;have m1:w5.cell? ⟨0,1,none⟩=some (.string ⟨#[]⟩):=hmk.c1
 have m2:w5.cell? ⟨0,2,none⟩=some (.string ⟨#[]⟩):=hmk.c2;have m3:w5.cell? ⟨0,3,none⟩=some (.string ⟨#[]⟩):=hmk.c3;clear hmk;go_wp2_with fail;clear m0 m1 m2 m3;go_fit (Qen g a cap fs _ _ _ _ w5 (HL.out.below HD6.out) (HF.out.below HB6.out) hn);rintro e w6 ⟨rfl,hb7⟩;have hv:=(HV.out.below HE6.out HV.out.lt).below hb7 (HV.out.below HE6.out HV.out.lt).lt;have hu:=HU.out.below hb7 HU.out.lt;have v0:w6.cell? ⟨gV,0,none⟩=some (.string ⟨#[]⟩):=hv.cell 0;have v1:w6.cell? ⟨gV,1,none⟩=some (.string ⟨#[]⟩):=hv.cell 1;have u0:w6.cell? ⟨gS,0,none⟩=some (.int .i64 0):=hu.cell 0;have u1:w6.cell? ⟨gS,1,none⟩=some (.string ⟨#[]⟩):=hu.cell 1;have u2:w6.cell? ⟨gS,2,none⟩=some (.string ⟨#[]⟩):=hu.cell 2;have u3:w6.cell? ⟨gS,3,none⟩=some (.string ⟨#[]⟩):=hu.cell 3;have u4:w6.cell? ⟨gS,4,none⟩=some (.string ⟨#[]⟩):=hu.cell 4;have u5:w6.cell? ⟨gS,5,none⟩=some (.string ⟨#[]⟩):=hu.cell 5
 have HB7:=Hi (HB6.out.trans (hb7.mono HB6.out.size));have q1:((60:Int)<(fs.length:Int)):=by omega
 clear hv hu hb7;go_wp2;go_ret;exact⟨rfl,HB7.out⟩
end Go.Proofs.YtbbkamnfjejceaaGreatDoor
