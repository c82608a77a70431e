/- package arch: a stone by its four parts. -/
import Derived.RegionIn
import Derived.Test.YtldjeecnapgakaaGreatDoorS39ArkI
import Derived.Test.YtldjeecnapgakaaGreatDoorS38ArkH
import Derived.Test.YtldjeecnapgakaaGreatDoorS30RegU
namespace Go.Proofs.YtldjeecnapgakaaGreatDoor
open Go Go.RowKit Go.Shelf
set_option linter.unusedVariables false
set_option linter.unusedSimpArgs false
attribute [local go_sem] Oper.semAt_some
theorem KeepsOthers.of_below{W V:World}(h:Below W.heap.size W V):KeepsOthers W V:=⟨h.size,fun k o hk _=>(h.block k (Array.getElem?_eq_some_iff.1 hk).1).trans hk⟩
def lnC(vs:List V4)(h:Rat)(i j:Nat):Nat→Rat:=lnV (stC vs h i) (slC vs h i j) (atF vs i) vs h
def LineSays(vs:List V4)(h:Rat)(w:World)(e:Ending)(w':World):Prop:=
 ∃(v:Value) (c1 c2:Int),e=.returned (.tuple #[v,.agg #[.int .i64 c1,.int .i64 c2]])∧
  (((archF vs).1≠0∧v=.slice none 0 0∧(c1,c2)=archF vs)∨
   ((archF vs).1=0∧h<0∧v=.slice none 0 0∧(c1,c2)=(5,(vs.length:Int)))∨
   ((archF vs).1=0∧¬h<0∧v=.slice none 0 0∧(c1,c2)=(8,0)∧∀i j,i<j→j<vs.length→¬fitsTo vs (lnC vs h i j) vs.length)∨
   ((archF vs).1=0∧¬h<0∧(c1,c2)=(0,0)∧∃(i j g:Nat) (ls:List ByteArray),i<j∧j<vs.length∧fitsTo vs (lnC vs h i j) vs.length∧v=.slice (some ⟨g,0,none⟩) vs.length vs.length∧w.heap.size≤g∧ls.length=vs.length∧SB w' g 23 (textsV ls).toArray∧∀(k:Nat) (s:ByteArray),ls[k]?=some s→QText s.data.toList (lnC vs h i j k)))
theorem Qcn{tmps:Array Value}{w:World}{g g':Nat}{v:Value}{c1 c2:Int}(hp:tmps.getD 4 undef=.pointer (some ⟨g,0,none⟩))(hp':tmps.getD 5 undef=.pointer (some ⟨g',0,none⟩))(h1:SB w g 24 #[v])(h2:SB w g' 32 #[.int .i64 c1,.int .i64 c2]):
 (results Tryz.f10 tmps).run Tryz.prog w=.ok (.tuple #[v,.agg #[.int .i64 c1,.int .i64 c2]]) w:=by
 have e1:tmps[4]?.getD undef=.pointer (some ⟨g,0,none⟩):=by simpa using hp
 have e2:tmps[5]?.getD undef=.pointer (some ⟨g',0,none⟩):=by simpa using hp'
 have hr:(Tryz.f10).results=#[.cell 4 24,.cell 5 32]:=rfl;have c0:w.cell? ⟨g,0,none⟩=some v:=h1.cell 0;have hl:(loadVar 24 ⟨g,0,none⟩).run Tryz.prog w=.ok v w:=by
  simp[loadVar,go_sem,run_underlying Tryz.underlying24,c0]
 simp[results,hr,e1,e2,asAddr,hl,run_loadVar_row w g' 32 32 _ (0,0) _ h2 Tryz.underlying32 rfl Tryz.faultInfo]
theorem Qco{u:World}{g g':Nat}{v z:Value}{y1 y2 k1 k2:Value}(hne:g≠g')(s:SB u g 24 #[z])(s':SB u g' 32 #[k1,k2]):
 SB (((u.setCell ⟨g,0,none⟩ v).setCell ⟨g',0,none⟩ y1).setCell ⟨g',1,none⟩ y2) g 24 #[v]∧SB (((u.setCell ⟨g,0,none⟩ v).setCell ⟨g',0,none⟩ y1).setCell ⟨g',1,none⟩ y2) g' 32 #[y1,y2]:=by
 constructor
 · exact((s.set 0 v).other hne 0 y1).other hne 1 y2
 · exact((s'.other (Ne.symm hne) 0 v).set 0 y1).set 1 y2
set_option maxRecDepth 100000 in
set_option maxHeartbeats 8000000 in
theorem Qcp(a:Option Addr)(cap A H:Nat)(ss:List T4)(vs:List V4)(sl:ByteArray)(h:Rat)(w:World)(hg:Glob w)(hr:ARow T4.cells w a cap ss)(hv:StonesV ss vs)(hn:ss.length≤1048576)
 (hq:QOf sl.data.toList h) (hsz:sl.size≤1073741824) (hf:Fits h H) (hH0:0<H) (hA:4194400≤A) (hA2:A≤5000000) (hH:H≤40000000):
 Calls Tryz.prog 10 #[.slice a ss.length cap,.string sl] w fun e w'=>LineSays vs h w e w'∧Below w.heap.size w w':=by
 have HG:=Hi hg;have HRW:=Hi hr;have HV:=Hi hv;have HVL:=Hi hv.len;have HQ:=Hi hq;have HF:=Hi hf;obtain⟨B0,hB0⟩:∃B0,w.heap.size=B0:=⟨_,rfl⟩;obtain⟨V,hV⟩:∃V,(w.alloc (.cells #[.slice none 0 0] 24)).alloc (.cells #[.int .i64 0,.int .i64 0] 32)=V:=⟨_,rfl⟩;have HB0:Hid (Below w.heap.size w V):=Hi (by rw[←hV];exact Below.new2 w _ _);have HS4:Hid (SB V B0 24 #[.slice none 0 0]):=Hi (by rw[←hV,←hB0];exact(SB.new w _ _).alloc _);have HS5:Hid (SB V (B0+1) 32 #[.int .i64 0,.int .i64 0]):=Hi (by rw[←hV,←hB0];exact SB.new2 w _ _ _ _);have HVE:=Hi hV;have HB0E:=Hi hB0;clear hg hr hv hV hB0 hq hf;have HCK:=Hi (Qdv a cap ss vs V (HG.out.below HB0.out) (HRW.out.below HB0.out) HV.out hn);obtain⟨C,I,hCI⟩:∃C I,archF vs=(C,I):=⟨_,_,rfl⟩;rw[hCI] at HCK;have HCI:=Hi hCI;clear hCI;refine(callsIn_wide (n:=6)).1 ?_;refine callsIn_of_wp_marks Tryz.func10 rfl trivial ?_ rfl
 simp only[Tryz.ntmps10,List.size_toArray,List.length_cons,List.length_nil,Nat.reduceAdd,Nat.reduceSub,Array.replicate_succ,Array.replicate_zero,List.push_toArray,List.append_toArray,List.nil_append,List.cons_append]
 gi_wp2
 rw[HVE.out];simp only[HB0E.out];refine⟨trivial,callsIn_wide.2 (HCK.out.mono ?_)⟩;rintro e w1 ⟨rfl,hb1⟩;clear HCK;obtain⟨b1,hb1e⟩:∃b1,w1.heap.size=b1:=⟨_,rfl⟩;obtain⟨V1,hV1⟩:∃V1,w1.alloc (.cells #[.int .i64 C,.int .i64 I] 32)=V1:=⟨_,rfl⟩;have HBV1:Hid (Below V.heap.size V V1):=Hi (by rw[←hV1];exact hb1.trans (((Below.refl _ _).alloc (Nat.le_refl _) _).mono hb1.size));have HSB1:Hid (SB V1 b1 32 #[.int .i64 C,.int .i64 I]):=Hi (by rw[←hV1,←hb1e];exact SB.new w1 _ _);have HV1:=Hi hV1;have HB1E:=Hi hb1e;have ltB:B0+1<V.heap.size:=HS5.out.lt;have hltb:V.heap.size≤b1:=by rw[←hb1e];exact hb1.size
 clear hV1 hb1e hb1;by_cases hc:C=0
 ·
  subst hc;have HAF0:Hid ((archF vs).1=0):=Hi (by rw[HCI.out]);obtain⟨hn2,hn10⟩:=Qaz HAF0.out;rw[HVL.out] at hn2 hn10;have HBW1:=Hi (HB0.out.trans (HBV1.out.mono HB0.out.size))
  gi_wp2
  rw[HV1.out];simp only[HB1E.out];refine⟨trivial,callsIn_wide.2 (Makes.use (FF.ofFits (HG.out.below HBW1.out) HQ.out hsz HF.out hH0) ?_)⟩;intro vh w2 hb2 hh;obtain⟨x1,x2,x3,rfl⟩:=hh.parts;obtain⟨b2,hb2e⟩:∃b2,w2.heap.size=b2:=⟨_,rfl⟩;obtain⟨V2,hV2⟩:∃V2,w2.alloc (.cells #[x1,x2,x3] 63)=V2:=⟨_,rfl⟩;have hBV2:Below w2.heap.size w2 V2:=by rw[←hV2];exact(Below.refl _ _).alloc (Nat.le_refl _) _
  have HBV2:Hid (Below V.heap.size V V2):=Hi (by have h1:=HBV1.out.trans (hb2.mono HBV1.out.size);exact h1.trans (hBV2.mono h1.size));have HSB2:Hid (SB V2 b2 63 #[x1,x2,x3]):=Hi (by rw[←hV2,←hb2e];exact SB.new w2 _ _);have HH:=Hi (hh.below hBV2);obtain⟨o1,o2,o3⟩:=hh.1.one;have s1:=Qab Tryz.prog o1;have s2:=Qab Tryz.prog o2;have s3:=Qab Tryz.prog o3;clear o1 o2 o3;have HV2:=Hi hV2;have HB2E:=Hi hb2e;clear hV2 hb2e hb2 hh hBV2
  gi_wp2
  rw[HV2.out];simp only[HB2E.out];clear s1 s2 s3;refine⟨trivial,callsIn_wide.2 (Makes.use (FF.sign HH.out) ?_)⟩;rintro _ w3 hb3 rfl;obtain⟨σ,hσ⟩:∃σ,sgn3 h.num=σ:=⟨_,rfl⟩;have HSG:=Hi (Qbe h);rw[hσ] at HSG ⊢;have HB3:=Hi (HBV2.out.trans (hb3.mono HBV2.out.size));have HH3:=Hi (HH.out.below hb3);have HSB3:=Hi (HSB2.out.below hb3 HSB2.out.lt);clear hσ hb3;by_cases hs:σ<0
  ·
   have e3:decide (σ<0)=true:=decide_eq_true hs;have HNG:=Hi (HSG.out.1 hs);clear hs;have hs4:=HS4.out.below HB3.out HS4.out.lt;have hs5:=HS5.out.below HB3.out HS5.out.lt;have z0:=hs4.cell 0;have z1:=hs5.cell 0;have z2:=hs5.cell 1;have f0:=hs4.free 0;have f1:=hs5.free 0;have f2:=hs5.free 1;simp only[List.getElem?_toArray,List.getElem?_cons_zero,List.getElem?_cons_succ] at z0 z1 z2;have HL4:=Hi hs4;have HL5:=Hi hs5;have HLB:=Hi (HB0.out.trans (HB3.out.mono HB0.out.size));clear hs4 hs5
   gi_wp2
   obtain⟨g4,g5⟩:=Qco (v:=.slice none 0 0) (y1:=.int .i64 5) (y2:=.int .i64 (ss.length:Int)) (by omega) HL4.out HL5.out;refine⟨_,Qcn rfl rfl g4 g5,⟨_,_,_,rfl,.inr (.inl ⟨HAF0.out,HNG.out,rfl,by rw[HVL.out]⟩)⟩,?_⟩;exact((HLB.out.setCell (p:=⟨B0,0,none⟩) (Nat.le_of_eq HB0E.out) _).setCell (p:=⟨B0+1,0,none⟩) (by have:=HB0E.out;show _≤B0+1;omega) _).setCell (p:=⟨B0+1,1,none⟩) (by have:=HB0E.out;show _≤B0+1;omega) _
  ·
   have e3:decide (σ<0)=false:=decide_eq_false hs;have HNN:Hid (¬h<0):=Hi (fun hc=>hs (HSG.out.2 hc));clear hs;have c0:=HSB3.out.cell 0;have c1:=HSB3.out.cell 1;have c2:=HSB3.out.cell 2;simp only[List.getElem?_toArray,List.getElem?_cons_zero,List.getElem?_cons_succ] at c0 c1 c2;have HBW3:=Hi (HB0.out.trans (HB3.out.mono HB0.out.size))
   gi_wp2
   refine⟨trivial,callsIn_wide.2 ((Qdx _ cap A H ss vs x1 x2 x3 h w3 (HG.out.below HBW3.out) (HRW.out.below HBW3.out) HV.out hn10 HH3.out hA hA2 hH).mono ?_)⟩;rintro e w4 ⟨g,ts,rfl,hgw,htb,hst,hb4⟩;obtain⟨b8,hb8e⟩:∃b8,w4.heap.size=b8:=⟨_,rfl⟩;obtain⟨V4,hV4⟩:∃V4,w4.alloc (.cells #[.slice (some ⟨g,0,none⟩) ss.length ss.length] 68)=V4:=⟨_,rfl⟩;have hBV4:Below w4.heap.size w4 V4:=by rw[←hV4];exact(Below.refl _ _).alloc (Nat.le_refl _) _
   have HB4:=Hi (HB3.out.trans (hb4.mono HB3.out.size));have HBV4:=Hi (HB4.out.trans (hBV4.mono HB4.out.size));have HSB8:Hid (SB V4 b8 68 #[.slice (some ⟨g,0,none⟩) ss.length ss.length]):=Hi (by rw[←hV4,←hb8e];exact SB.new w4 _ _);have HTB:=Hi (htb.below hBV4);have HST:=Hi hst;have HV4:=Hi hV4;have HB8E:=Hi hb8e;clear htb hst hb4 c0 c1 c2 HH3 HSB3 hV4 hb8e hBV4
   gi_wp2
   rw[HV4.out];simp only[HB8E.out];refine⟨trivial,callsIn_wide.2 ((Qjw g ss.length V4).mono ?_)⟩;rintro e V5 ⟨rfl,hV5⟩;obtain⟨b9,hb9e⟩:∃b9,V4.heap.size=b9:=⟨_,rfl⟩;rw[hb9e];have HSB9:Hid (SB V5 b9 68 #[.slice (some ⟨g,0,none⟩) vs.length vs.length]):=Hi (by rw[hV5,←hb9e,HVL.out];exact SB.new V4 _ _);have hB45:Below V4.heap.size V4 V5:=by rw[hV5];exact(Below.refl _ _).alloc (Nat.le_refl _) _
   have HBV5:=Hi (HBV4.out.trans (hB45.mono HBV4.out.size));have HT5:=Hi (HTB.out.below hB45);have HSB85:=Hi (HSB8.out.below hB45 HSB8.out.lt);have HS45:=Hi (HS4.out.below HBV5.out HS4.out.lt);have HS55:=Hi (HS5.out.below HBV5.out HS5.out.lt);have HBW5:=Hi (HB0.out.trans (HBV5.out.mono HB0.out.size));have HV5:=Hi hV5;have nb4:B0<V5.heap.size:=HS45.out.lt;have nb5:B0+1<V5.heap.size:=HS55.out.lt;clear hb9e hB45 hV5
   gi_wp2
   try rw[←HV5.out]
   refine Qqq (α:=Crn) (F:=Fence.wide) rfl (by decide) (gf:=82) (lb:=#[.pointer (some ⟨b9,0,none⟩)]) rfl trivial (enters_of Tryz.func82 (by kernel_rfl) rfl)
    (Qjx HT5.out HST.out (by have:=HVL.out;omega) HSB9.out hA2 hH (by decide)) rfl
    (fun pre U=>(∀x,x∈ pre→¬fitsTo vs (lnC vs h x.1 x.2.1) vs.length)∧Below V5.heap.size V5 U)
    (fun pre U=>(∃(i j g':Nat) (ls:List ByteArray),i<j∧j<vs.length∧fitsTo vs (lnC vs h i j) vs.length∧SB U B0 24 #[.slice (some ⟨g',0,none⟩) ss.length ss.length]∧SB U (B0+1) 32 #[.int .i64 0,.int .i64 0]∧w.heap.size≤g'∧ls.length=vs.length∧SB U g' 23 (textsV ls).toArray∧∀(k:Nat) (s:ByteArray),ls[k]?=some s→QText s.data.toList (lnC vs h i j k))∧Below w.heap.size w U)
    (fun pre U V hI hb=>⟨hI.1,hI.2.trans (hb.mono hI.2.size)⟩)
    (fun pre U l o hl hn hI=>⟨hI.1,hI.2.trans ((Only.put U l o).below hl hI.2.size)⟩)
    (fun pre U l o hl hn hX=>by
      obtain⟨⟨i,j,g',ls,k1,k2,k3,k4,k5,k6,k7,k8,k9⟩,hb⟩:=hX;have ne:∀{b:Nat} {t:TypeId} {C:Array Value},SB U b t C→b≠l:=fun hs e=>by subst e;have:=hn _ hs;cases this
      exact⟨⟨i,j,g',ls,k1,k2,k3,k4.only (Only.put U l o) (ne k4),k5.only (Only.put U l o) (ne k5),k6,k7,k8.only (Only.put U l o) (ne k8),k9⟩,hb.trans ((Only.put U l o).below (Nat.le_trans HBW5.out.size hl) hb.size)⟩)
    (fun x U l o hl hn hx=>⟨hx.1,hx.2.1,hx.2.2.onlyN (Only.put U l o) hn⟩)
    (fun pre U hI=>hI.2) ⟨fun x hx=>(by cases hx),Below.refl _ _⟩
    (fun x=>{ tmps:=#[.slice a ss.length cap,.string sl,undef,undef,.pointer (some ⟨B0,0,none⟩),.pointer (some ⟨B0+1,0,none⟩),.pointer (some ⟨b1,0,none⟩),.pointer (some ⟨b2,0,none⟩),.pointer (some ⟨b8,0,none⟩),x.2.2,.slice a ss.length cap,.agg #[.int .i64 0,.int .i64 I],.pointer (some ⟨b1,0,none⟩),.int .i64 0,.bool false,undef,.string sl,.agg #[x1,x2,x3],.agg #[x1,x2,x3],.int .i64 σ,.bool false,undef,undef,undef,.slice a ss.length cap,.agg #[x1,x2,x3],.slice (some ⟨g,0,none⟩) ss.length ss.length,.slice (some ⟨g,0,none⟩) ss.length ss.length,.func (.func 82) #[] #[.pointer (some ⟨b9,0,none⟩)],x.2.2,undef,undef,undef,undef,undef,undef,undef,undef],defers:=[] }) ?assign ?body ?done ?stop
   case assign=>
    intro l x U K hK
    gi_wp2
    exact hK
   case body=>
    rintro l pre x U hl ⟨hno,hbU⟩ hok;obtain⟨i,j,vy⟩:=x;obtain⟨hij,hjn,hline⟩:=hok;have HNO:=Hi hno;have HBU:=Hi hbU;have HLI:=Hi hline;have hs8:=HSB85.out.below hbU HSB85.out.lt;have c8:=hs8.cell 0;simp only[List.getElem?_toArray,List.getElem?_cons_zero] at c8;have HFI:Hid (Calls Tryz.prog 37 #[.slice (some ⟨g,0,none⟩) ss.length ss.length,vy] U fun e w'=>(∃b,e=.returned (.bool b)∧(b=true↔fitsTo vs (lnC vs h i j) vs.length))∧Below U.heap.size U w'):=Hi (by
     have:=Qfn (HT5.out.below hbU) HST.out (by have:=HVL.out;omega) hline (by unfold kC2 kC1;omega);rw[HVL.out] at this ⊢
     exact this)
    have HS8:=Hi hs8;clear hno hbU hline hs8
    gi_wp2
    refine⟨trivial,CallsIn.inRound l (callsIn_wide.2 (HFI.out.mono ?_))⟩;rintro e U2 ⟨⟨bf,rfl,hbf⟩,hb2⟩;have HBF:=Hi hbf;have HB2:=Hi hb2;clear hbf hb2 HFI c8;cases bf with
    |false=>
     gi_wp2
     refine⟨HB2.out,fun y hy=>?_,HBU.out.trans (HB2.out.mono HBU.out.size)⟩;rcases List.mem_append.1 hy with h1|h1
     · exact HNO.out y h1
     · obtain rfl:=List.mem_singleton.1 h1
       exact fun hc=>absurd (HBF.out.2 hc) (by decide)
    |true=>
     have hs82:=HS8.out.below HB2.out HS8.out.lt;have c8:=hs82.cell 0;simp only[List.getElem?_toArray,List.getElem?_cons_zero] at c8;have hbV2:=HBU.out.trans (HB2.out.mono HBU.out.size);have HTO:Hid (Calls Tryz.prog 38 #[.slice (some ⟨g,0,none⟩) ss.length ss.length,vy] U2 fun e w'=>(∃(g':Nat) (ls:List ByteArray),e=.returned (.slice (some ⟨g',0,none⟩) ss.length ss.length)∧U2.heap.size≤g'∧ls.length=vs.length∧SB w' g' 23 (textsV ls).toArray∧∀(k:Nat) (s:ByteArray),ls[k]?=some s→QText s.data.toList (lnC vs h i j k))∧Below U2.heap.size U2 w'):=Hi (by
      have:=Qjv (HG.out.below (HBW5.out.trans (hbV2.mono HBW5.out.size))) (HT5.out.below hbV2) HST.out (by have:=HVL.out;omega) (LineV.stays _ _ _ _ _ _ _ _ _ HB2.out HLI.out) (by unfold kC2 kC1;omega);rw[HVL.out] at this ⊢
      exact this)
     have HBV2:=Hi hbV2;clear hs82 hbV2
     gi_wp2
     refine⟨trivial,CallsIn.inRound l (callsIn_wide.2 (HTO.out.mono ?_))⟩;rintro e U3 ⟨⟨g',ls,rfl,hg',hll,hsb,hqt⟩,hb3⟩;have hbV3:=HBV2.out.trans (hb3.mono HBV2.out.size);have hs4:=HS45.out.below hbV3 HS45.out.lt;have hs5:=HS55.out.below hbV3 HS55.out.lt;have z0:=hs4.cell 0;have z1:=hs5.cell 0;have z2:=hs5.cell 1;have f0:=hs4.free 0;have f1:=hs5.free 0;have f2:=hs5.free 1;simp only[List.getElem?_toArray,List.getElem?_cons_zero,List.getElem?_cons_succ] at z0 z1 z2;have HL4:=Hi hs4;have HL5:=Hi hs5;have HSBG:=Hi hsb;have HQT:=Hi hqt;have HLL:=Hi hll;have HB3:=Hi (HB2.out.trans (hb3.mono HB2.out.size));have HLB:=Hi (HBW5.out.trans (hbV3.mono HBW5.out.size));have hgB:V5.heap.size≤g':=Nat.le_trans HBV2.out.size hg';have hgw2:w.heap.size≤g':=Nat.le_trans HBW5.out.size hgB;clear hs4 hs5 hsb hqt hll hb3 hbV3 c8 HTO
     gi_wp2
     obtain⟨g4,g5⟩:=Qco (v:=.slice (some ⟨g',0,none⟩) ss.length ss.length) (y1:=.int .i64 0) (y2:=.int .i64 0) (by omega) HL4.out HL5.out;refine⟨?_,⟨i,j,g',ls,hij,hjn,HBF.out.1 (by trivial),g4,g5,hgw2,HLL.out,?_,HQT.out⟩,?_⟩
     · exact(((KeepsOthers.of_below HB3.out).trans (KeepsOthers.setCell U3 _ _)).trans (KeepsOthers.setCell _ _ _)).trans (KeepsOthers.setCell _ _ _)
     · exact((HSBG.out.other (by omega) 0 _).other (by omega) 0 _).other (by omega) 1 _
     · exact((HLB.out.setCell (p:=⟨B0,0,none⟩) (Nat.le_of_eq HB0E.out) _).setCell (p:=⟨B0+1,0,none⟩) (by have:=HB0E.out;show _≤B0+1;omega) _).setCell (p:=⟨B0+1,1,none⟩) (by have:=HB0E.out;show _≤B0+1;omega) _
   case done=>
    rintro D xs U hD hall ⟨hno,hbU⟩ hK;have hs4:=HS45.out.below hbU HS45.out.lt;have hs5:=HS55.out.below hbU HS55.out.lt;have z0:=hs4.cell 0;have z1:=hs5.cell 0;have z2:=hs5.cell 1;have f0:=hs4.free 0;have f1:=hs5.free 0;have f2:=hs5.free 1;simp only[List.getElem?_toArray,List.getElem?_cons_zero,List.getElem?_cons_succ] at z0 z1 z2;have HL4:=Hi hs4;have HL5:=Hi hs5;have HLB:=Hi (HBW5.out.trans (hbU.mono HBW5.out.size));have HKD:=Hi hK;have HALL:=Hi hall;have HNO:=Hi hno;clear hs4 hs5 hbU hK hall hno
    gi_wp2
    obtain⟨g4,g5⟩:=Qco (v:=.slice none 0 0) (y1:=.int .i64 8) (y2:=.int .i64 0) (by omega) HL4.out HL5.out;obtain⟨S,hS⟩:∃S,((U.setCell ⟨B0,0,none⟩ (.slice none 0 0)).setCell ⟨B0+1,0,none⟩ (.int .i64 8)).setCell ⟨B0+1,1,none⟩ (.int .i64 0)=S:=⟨_,rfl⟩;have hkS:S.heap[D]?=some (.deferred (some [])):=by rw[←hS];exact(((KeepsOthers.setCell U _ _).trans (KeepsOthers.setCell _ _ _)).trans (KeepsOthers.setCell _ _ _)).same D _ HKD.out rfl
    have hBS:Below w.heap.size w S:=by
     rw[←hS];exact((HLB.out.setCell (p:=⟨B0,0,none⟩) (Nat.le_of_eq HB0E.out) _).setCell (p:=⟨B0+1,0,none⟩) (by have:=HB0E.out;show _≤B0+1;omega) _).setCell (p:=⟨B0+1,1,none⟩) (by have:=HB0E.out;show _≤B0+1;omega) _
    rw[hS] at g4 g5 ⊢;refine⟨by simp,.inl ⟨_,_,rfl,run_takeDeferred hkS,?_⟩⟩;refine⟨_,Qcn rfl rfl (g4.only (Only.put S D _) (by omega)) (g5.only (Only.put S D _) (by omega)),⟨_,_,_,rfl,.inr (.inr (.inl ⟨HAF0.out,HNN.out,rfl,rfl,fun i j hij hj=>?_⟩))⟩,hBS.trans ((Only.put S D _).below (Nat.le_trans HBW5.out.size hD) hBS.size)⟩;obtain⟨v,hv⟩:=HALL.out i j hij hj;exact HNO.out _ hv
   case stop=>
    rintro D pre U hD _ hX hK;obtain⟨⟨i,j,g',ls,k1,k2,k3,k4,k5,k6,k7,k8,k9⟩,hbU⟩:=hX;have HK4:=Hi k4;have HK5:=Hi k5;have HK8:=Hi k8;have HKK:=Hi (And.intro k1 (And.intro k2 (And.intro k3 (And.intro k6 (And.intro k7 k9)))));have HKD:=Hi hK;have HLB:=Hi hbU;clear k1 k2 k3 k4 k5 k6 k7 k8 k9 hK hbU
    gi_wp2
    refine⟨by simp,.inl ⟨_,_,rfl,run_takeDeferred HKD.out,?_⟩⟩;have ng:g'≠D:=by
     rintro rfl;have h1:U.heap[g']?=some (.cells (textsV ls).toArray 23 (0,0)):=HK8.out;rw[HKD.out] at h1;cases h1
    refine⟨_,Qcn rfl rfl (HK4.out.only (Only.put U D _) (by omega)) (HK5.out.only (Only.put U D _) (by omega)),⟨_,_,_,rfl,.inr (.inr (.inr ⟨HAF0.out,HNN.out,rfl,i,j,g',ls,HKK.out.1,HKK.out.2.1,HKK.out.2.2.1,by rw[HVL.out],HKK.out.2.2.2.1,HKK.out.2.2.2.2.1,HK8.out.only (Only.put U D _) ng,HKK.out.2.2.2.2.2⟩))⟩,HLB.out.trans ((Only.put U D _).below (Nat.le_trans HBW5.out.size hD) HLB.out.size)⟩
 ·
  have HNE:Hid ((archF vs).1≠0):=Hi (by rw[HCI.out];exact hc);have e0:(C != 0)=true:=by simpa using hc
  clear hc;have hs4:=HS4.out.below HBV1.out HS4.out.lt;have hs5:=HS5.out.below HBV1.out HS5.out.lt;have z0:=hs4.cell 0;have z1:=hs5.cell 0;have z2:=hs5.cell 1;have f0:=hs4.free 0;have f1:=hs5.free 0;have f2:=hs5.free 1;simp only[List.getElem?_toArray,List.getElem?_cons_zero,List.getElem?_cons_succ] at z0 z1 z2;have HL4:=Hi hs4;have HL5:=Hi hs5;have HLB:=Hi (HB0.out.trans (HBV1.out.mono HB0.out.size));clear hs4 hs5;have k0:=HSB1.out.cell 0;have k1:=HSB1.out.cell 1;simp only[List.getElem?_toArray,List.getElem?_cons_zero,List.getElem?_cons_succ] at k0 k1;rw[←HV1.out] at z0 z1 z2 f0 f1 f2 k0 k1;rw[←HB1E.out] at k0 k1;have n1:w1.heap.size≠B0:=by have:=HB1E.out;omega
  have n2:B0≠w1.heap.size:=by have:=HB1E.out;omega
  gi_wp2
  gi_region
  all_goals
   gi_wp2
   rw[HV1.out];obtain⟨g4,g5⟩:=Qco (v:=.slice none 0 0) (y1:=.int .i64 C) (y2:=.int .i64 I) (by omega) HL4.out HL5.out;refine⟨_,Qcn rfl rfl g4.drew g5.drew,⟨_,_,_,rfl,.inl ⟨HNE.out,rfl,HCI.out.symm⟩⟩,Below.drew ?_⟩;exact((HLB.out.setCell (p:=⟨B0,0,none⟩) (Nat.le_of_eq HB0E.out) _).setCell (p:=⟨B0+1,0,none⟩) (by have:=HB0E.out;show _≤B0+1;omega) _).setCell (p:=⟨B0+1,1,none⟩) (by have:=HB0E.out;show _≤B0+1;omega) _
end Go.Proofs.YtldjeecnapgakaaGreatDoor
namespace Go.Proofs.YtldjeecnapgakaaGreatDoor
open Go.RowKit
set_option linter.unusedVariables false
set_option linter.unusedSimpArgs false
set_option maxRecDepth 100000 in
set_option maxHeartbeats 2000000 in
theorem Qjy{v:Value}{w:World}{qa ql qh qs:Rat}{A E:Nat}(h:SV4 qa ql qh qs A E v w):Calls Tryz.prog 64 #[v] w (Makes w (FF ql A)):=by
 obtain⟨a,l,u,s,rfl,ha,hl,hu,hs,rfl,rfl,rfl,rfl,ka,kl,ku,ks⟩:=h;obtain⟨o1,o2,o3⟩:=ha.1.one;obtain⟨o4,o5,o6⟩:=hl.1.one;obtain⟨o7,o8,o9⟩:=hu.1.one;obtain⟨o10,o11,o12⟩:=hs.1.one;have s1:=Qab Tryz.prog o1;have s2:=Qab Tryz.prog o2;have s3:=Qab Tryz.prog o3;have s4:=Qab Tryz.prog o4;have s5:=Qab Tryz.prog o5;have s6:=Qab Tryz.prog o6;have s7:=Qab Tryz.prog o7;have s8:=Qab Tryz.prog o8;have s9:=Qab Tryz.prog o9;have s10:=Qab Tryz.prog o10;have s11:=Qab Tryz.prog o11;have s12:=Qab Tryz.prog o12;clear o1 o2 o3 o4 o5 o6 o7 o8 o9 o10 o11 o12;have HK:=Hi (And.intro ka (And.intro kl (And.intro ku ks)));have HP:=Hi hl;clear ha hl hu hs ka kl ku ks;go_enter Tryz.func64,Tryz.ntmps64;go_wp2;refine bodyPost_ret (v:=.agg #[l.x,l.y,l.z]) (results_cell_row rfl _ _ (w.heap.size+1) 63 #[l.x,l.y,l.z] (0,0) _ rfl (SB.new2 w _ _ _ _) Tryz.underlying63 rfl Tryz.fracInfo) rfl ?_
 exact⟨_,rfl,Below.new2 w _ _,FF.mono (FF.below HP.out (Below.new2 w _ _)) (by first|exact HK.out.1|exact HK.out.2.1|exact HK.out.2.2.1|exact HK.out.2.2.2)⟩
set_option maxRecDepth 100000 in
set_option maxHeartbeats 2000000 in
theorem Qjz{v:Value}{w:World}{qa ql qh qs:Rat}{A E:Nat}(h:SV4 qa ql qh qs A E v w):Calls Tryz.prog 65 #[v] w (Makes w (FF qh A)):=by
 obtain⟨a,l,u,s,rfl,ha,hl,hu,hs,rfl,rfl,rfl,rfl,ka,kl,ku,ks⟩:=h;obtain⟨o1,o2,o3⟩:=ha.1.one;obtain⟨o4,o5,o6⟩:=hl.1.one;obtain⟨o7,o8,o9⟩:=hu.1.one;obtain⟨o10,o11,o12⟩:=hs.1.one;have s1:=Qab Tryz.prog o1;have s2:=Qab Tryz.prog o2;have s3:=Qab Tryz.prog o3;have s4:=Qab Tryz.prog o4;have s5:=Qab Tryz.prog o5;have s6:=Qab Tryz.prog o6;have s7:=Qab Tryz.prog o7;have s8:=Qab Tryz.prog o8;have s9:=Qab Tryz.prog o9;have s10:=Qab Tryz.prog o10;have s11:=Qab Tryz.prog o11;have s12:=Qab Tryz.prog o12;clear o1 o2 o3 o4 o5 o6 o7 o8 o9 o10 o11 o12;have HK:=Hi (And.intro ka (And.intro kl (And.intro ku ks)));have HP:=Hi hu;clear ha hl hu hs ka kl ku ks;go_enter Tryz.func65,Tryz.ntmps65;go_wp2;refine bodyPost_ret (v:=.agg #[u.x,u.y,u.z]) (results_cell_row rfl _ _ (w.heap.size+1) 63 #[u.x,u.y,u.z] (0,0) _ rfl (SB.new2 w _ _ _ _) Tryz.underlying63 rfl Tryz.fracInfo) rfl ?_
 exact⟨_,rfl,Below.new2 w _ _,FF.mono (FF.below HP.out (Below.new2 w _ _)) (by first|exact HK.out.1|exact HK.out.2.1|exact HK.out.2.2.1|exact HK.out.2.2.2)⟩
set_option maxRecDepth 100000 in
set_option maxHeartbeats 2000000 in
theorem Qj0{v:Value}{w:World}{qa ql qh qs:Rat}{A E:Nat}(h:SV4 qa ql qh qs A E v w):Calls Tryz.prog 66 #[v] w (Makes w (FF qs E)):=by
 obtain⟨a,l,u,s,rfl,ha,hl,hu,hs,rfl,rfl,rfl,rfl,ka,kl,ku,ks⟩:=h;obtain⟨o1,o2,o3⟩:=ha.1.one;obtain⟨o4,o5,o6⟩:=hl.1.one;obtain⟨o7,o8,o9⟩:=hu.1.one;obtain⟨o10,o11,o12⟩:=hs.1.one;have s1:=Qab Tryz.prog o1;have s2:=Qab Tryz.prog o2;have s3:=Qab Tryz.prog o3;have s4:=Qab Tryz.prog o4;have s5:=Qab Tryz.prog o5;have s6:=Qab Tryz.prog o6;have s7:=Qab Tryz.prog o7;have s8:=Qab Tryz.prog o8;have s9:=Qab Tryz.prog o9;have s10:=Qab Tryz.prog o10;have s11:=Qab Tryz.prog o11;have s12:=Qab Tryz.prog o12;clear o1 o2 o3 o4 o5 o6 o7 o8 o9 o10 o11 o12;have HK:=Hi (And.intro ka (And.intro kl (And.intro ku ks)));have HP:=Hi hs;clear ha hl hu hs ka kl ku ks;go_enter Tryz.func66,Tryz.ntmps66;go_wp2;refine bodyPost_ret (v:=.agg #[s.x,s.y,s.z]) (results_cell_row rfl _ _ (w.heap.size+1) 63 #[s.x,s.y,s.z] (0,0) _ rfl (SB.new2 w _ _ _ _) Tryz.underlying63 rfl Tryz.fracInfo) rfl ?_
 exact⟨_,rfl,Below.new2 w _ _,FF.mono (FF.below HP.out (Below.new2 w _ _)) (by first|exact HK.out.1|exact HK.out.2.1|exact HK.out.2.2.1|exact HK.out.2.2.2)⟩
structure S4 where
 a:FE
 l:FE
 u:FE
 s:FE
def S4.ok(w:World)(A E:Nat)(t:S4):Prop:=FE.ok w t.a∧FE.ok w t.l∧FE.ok w t.u∧FE.ok w t.s∧t.a.k≤A∧t.l.k≤A∧t.u.k≤A∧t.s.k≤E
theorem S4.ok.below{w w':World}{A E:Nat}{t:S4}(h:S4.ok w A E t)(hb:Below w.heap.size w w'):S4.ok w' A E t:=⟨h.1.below hb,h.2.1.below hb,h.2.2.1.below hb,h.2.2.2.1.below hb,h.2.2.2.2⟩
theorem S4.ok.sv{w:World}{A E:Nat}{t:S4}(h:S4.ok w A E t):SV4 t.a.q t.l.q t.u.q t.s.q A E (.agg #[t.a.x,t.a.y,t.a.z,t.l.x,t.l.y,t.l.z,t.u.x,t.u.y,t.u.z,t.s.x,t.s.y,t.s.z]) w:=
 ⟨t.a,t.l,t.u,t.s,rfl,h.1,h.2.1,h.2.2.1,h.2.2.2.1,rfl,rfl,rfl,rfl,h.2.2.2.2⟩
theorem S4.ok.keep{T:TypeId}{w w':World}{c:Nat}{us:List FE}{A E:Nat}{t:S4}(hc:TBlk T w c us)(ho:Only c w w')(h:S4.ok w A E t):S4.ok w' A E t:=⟨hc.keep ho h.1,hc.keep ho h.2.1,hc.keep ho h.2.2.1,hc.keep ho h.2.2.2.1,h.2.2.2.2⟩
def S4.cells3(r s t:S4):Array Value:=#[r.a.x,r.a.y,r.a.z,r.l.x,r.l.y,r.l.z,r.u.x,r.u.y,r.u.z,r.s.x,r.s.y,r.s.z,s.a.x,s.a.y,s.a.z,s.l.x,s.l.y,s.l.z,s.u.x,s.u.y,s.u.z,s.s.x,s.s.y,s.s.z,t.a.x,t.a.y,t.a.z,t.l.x,t.l.y,t.l.z,t.u.x,t.u.y,t.u.z,t.s.x,t.s.y,t.s.z]
def AccV(f:Nat)(p:S4→Rat)(A E K:Nat):Prop:=(∀args w,(callFunc f args).run Tryz.prog w=.ok (.enter f args) w)∧∀(t:S4) (w:World),S4.ok w A E t→Calls Tryz.prog f #[.agg #[t.a.x,t.a.y,t.a.z,t.l.x,t.l.y,t.l.z,t.u.x,t.u.y,t.u.z,t.s.x,t.s.y,t.s.z]] w (Makes w (FF (p t) K))
theorem AccV.low(A E:Nat):AccV 64 (fun t=>t.l.q) A E A:=⟨enters_of Tryz.func64 (by kernel_rfl) rfl,fun t w h=>Qjy h.sv⟩
theorem AccV.high(A E:Nat):AccV 65 (fun t=>t.u.q) A E A:=⟨enters_of Tryz.func65 (by kernel_rfl) rfl,fun t w h=>Qjz h.sv⟩
theorem AccV.shape(A E:Nat):AccV 66 (fun t=>t.s.q) A E E:=⟨enters_of Tryz.func66 (by kernel_rfl) rfl,fun t w h=>Qj0 h.sv⟩
theorem S4.ok.ones{w:World}{A E:Nat}{t:S4}(h:S4.ok w A E t):(t.a.x.oneCell'=true)∧(t.a.y.oneCell'=true)∧(t.a.z.oneCell'=true)∧(t.l.x.oneCell'=true)∧(t.l.y.oneCell'=true)∧(t.l.z.oneCell'=true)∧(t.u.x.oneCell'=true)∧(t.u.y.oneCell'=true)∧(t.u.z.oneCell'=true)∧(t.s.x.oneCell'=true)∧(t.s.y.oneCell'=true)∧(t.s.z.oneCell'=true):=by
 obtain⟨a1,a2,a3⟩:=h.1.1.one;obtain⟨a4,a5,a6⟩:=h.2.1.1.one;obtain⟨a7,a8,a9⟩:=h.2.2.1.1.one;obtain⟨a10,a11,a12⟩:=h.2.2.2.1.1.one;exact⟨a1,a2,a3,a4,a5,a6,a7,a8,a9,a10,a11,a12⟩
theorem S4.atR{w:World}{g:Nat}{T:TypeId}{r s t:S4}(h:SB w g T (S4.cells3 r s t)):w.cell? ⟨g,0,none⟩=some r.a.x∧w.cell? ⟨g,1,none⟩=some r.a.y∧w.cell? ⟨g,2,none⟩=some r.a.z∧w.cell? ⟨g,3,none⟩=some r.l.x∧w.cell? ⟨g,4,none⟩=some r.l.y∧w.cell? ⟨g,5,none⟩=some r.l.z∧w.cell? ⟨g,6,none⟩=some r.u.x∧w.cell? ⟨g,7,none⟩=some r.u.y∧w.cell? ⟨g,8,none⟩=some r.u.z∧w.cell? ⟨g,9,none⟩=some r.s.x∧w.cell? ⟨g,10,none⟩=some r.s.y∧w.cell? ⟨g,11,none⟩=some r.s.z:=
 ⟨(h.cell 0).trans rfl,(h.cell 1).trans rfl,(h.cell 2).trans rfl,(h.cell 3).trans rfl,(h.cell 4).trans rfl,(h.cell 5).trans rfl,(h.cell 6).trans rfl,(h.cell 7).trans rfl,(h.cell 8).trans rfl,(h.cell 9).trans rfl,(h.cell 10).trans rfl,(h.cell 11).trans rfl⟩
theorem S4.atS{w:World}{g:Nat}{T:TypeId}{r s t:S4}(h:SB w g T (S4.cells3 r s t)):w.cell? ⟨g,12,none⟩=some s.a.x∧w.cell? ⟨g,13,none⟩=some s.a.y∧w.cell? ⟨g,14,none⟩=some s.a.z∧w.cell? ⟨g,15,none⟩=some s.l.x∧w.cell? ⟨g,16,none⟩=some s.l.y∧w.cell? ⟨g,17,none⟩=some s.l.z∧w.cell? ⟨g,18,none⟩=some s.u.x∧w.cell? ⟨g,19,none⟩=some s.u.y∧w.cell? ⟨g,20,none⟩=some s.u.z∧w.cell? ⟨g,21,none⟩=some s.s.x∧w.cell? ⟨g,22,none⟩=some s.s.y∧w.cell? ⟨g,23,none⟩=some s.s.z:=
 ⟨(h.cell 12).trans rfl,(h.cell 13).trans rfl,(h.cell 14).trans rfl,(h.cell 15).trans rfl,(h.cell 16).trans rfl,(h.cell 17).trans rfl,(h.cell 18).trans rfl,(h.cell 19).trans rfl,(h.cell 20).trans rfl,(h.cell 21).trans rfl,(h.cell 22).trans rfl,(h.cell 23).trans rfl⟩
theorem S4.atT{w:World}{g:Nat}{T:TypeId}{r s t:S4}(h:SB w g T (S4.cells3 r s t)):w.cell? ⟨g,24,none⟩=some t.a.x∧w.cell? ⟨g,25,none⟩=some t.a.y∧w.cell? ⟨g,26,none⟩=some t.a.z∧w.cell? ⟨g,27,none⟩=some t.l.x∧w.cell? ⟨g,28,none⟩=some t.l.y∧w.cell? ⟨g,29,none⟩=some t.l.z∧w.cell? ⟨g,30,none⟩=some t.u.x∧w.cell? ⟨g,31,none⟩=some t.u.y∧w.cell? ⟨g,32,none⟩=some t.u.z∧w.cell? ⟨g,33,none⟩=some t.s.x∧w.cell? ⟨g,34,none⟩=some t.s.y∧w.cell? ⟨g,35,none⟩=some t.s.z:=
 ⟨(h.cell 24).trans rfl,(h.cell 25).trans rfl,(h.cell 26).trans rfl,(h.cell 27).trans rfl,(h.cell 28).trans rfl,(h.cell 29).trans rfl,(h.cell 30).trans rfl,(h.cell 31).trans rfl,(h.cell 32).trans rfl,(h.cell 33).trans rfl,(h.cell 34).trans rfl,(h.cell 35).trans rfl⟩
end Go.Proofs.YtldjeecnapgakaaGreatDoor
