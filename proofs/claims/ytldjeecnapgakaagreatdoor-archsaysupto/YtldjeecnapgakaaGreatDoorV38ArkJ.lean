/- package arch: Line. -/
import Derived.RegionIn
import Derived.Test.YtldjeecnapgakaaGreatDoorV37ArkI
namespace Go.Proofs.YtldjeecnapgakaaGreatDoor
open Go Go.RowKit Go.Shelf
open Go.Proofs.Tryz
set_option linter.unusedSimpArgs false
set_option linter.unusedVariables false
set_option maxHeartbeats 8000000
set_option maxRecDepth 1000000
attribute [local go_sem] Oper.semAt_some
theorem KeepsOthers.of_below{W V:World}(h:Below W.heap.size W V):KeepsOthers W V:=⟨h.size,fun k o hk _=>(h.block k (Array.getElem?_eq_some_iff.1 hk).1).trans hk⟩
def lnC(vs:List V4)(h:Rat)(i j:Nat):Nat->Rat:=lnV (stC vs h i) (slC vs h i j) (atF vs i) vs h
def LineSays(vs:List V4)(h:Rat)(w:World)(e:Ending)(w':World):Prop:=
 ∃(v:Value) (c1 c2:Int),e=.returned (.tuple #[v,.agg #[.int .i64 c1,.int .i64 c2]])/\
  (((archF vs).1≠0/\v=.slice none 0 0/\(c1,c2)=archF vs)∨
   ((archF vs).1=0/\h<0/\v=.slice none 0 0/\(c1,c2)=(5,(vs.length:Int)))∨
   ((archF vs).1=0/\¬h<0/\v=.slice none 0 0/\(c1,c2)=(8,0)/\∀i j,i<j->j<vs.length->¬fitsTo vs (lnC vs h i j) vs.length)∨
   ((archF vs).1=0/\¬h<0/\(c1,c2)=(0,0)/\∃(i j g:Nat) (ls:List ByteArray),i<j/\j<vs.length/\fitsTo vs (lnC vs h i j) vs.length/\v=.slice (some ⟨g,0,none⟩) vs.length vs.length/\w.heap.size<=g/\ls.length=vs.length/\SB w' g 23 (textsV ls).toArray/\∀(k:Nat) (s:ByteArray),ls[k]?=some s->QText s.data.toList (lnC vs h i j k)))
theorem Qcy{tmps:Array Value}{w:World}{g g':Nat}{v:Value}{c1 c2:Int}(hp:tmps.getD 4 undef=.pointer (some ⟨g,0,none⟩))(hp':tmps.getD 5 undef=.pointer (some ⟨g',0,none⟩))(h1:SB w g 24 #[v])(h2:SB w g' 32 #[.int .i64 c1,.int .i64 c2]):
 (results Tryz.f10 tmps).run prog w=.ok (.tuple #[v,.agg #[.int .i64 c1,.int .i64 c2]]) w:=by
 have e1:tmps[4]?.getD undef=.pointer (some ⟨g,0,none⟩):=by simpa using hp
 have e2:tmps[5]?.getD undef=.pointer (some ⟨g',0,none⟩):=by simpa using hp'
 have hr:(Tryz.f10).results=#[.cell 4 24,.cell 5 32]:=rfl;obtain⟨c0,-⟩:=zc h1;have hl:(loadVar 24 ⟨g,0,none⟩).run prog w=.ok v w:=by
  simp[loadVar,go_sem,run_underlying underlying24,c0]
 simp[results,hr,e1,e2,asAddr,hl,run_loadVar_row w g' 32 32 _ (0,0) _ h2 underlying32 rfl Tryz.faultInfo]
theorem Qcz{u:World}{g g':Nat}{v z:Value}{y1 y2 k1 k2:Value}(hne:g≠g')(s:SB u g 24 #[z])(s':SB u g' 32 #[k1,k2]):
 SB (((u.setCell ⟨g,0,none⟩ v).setCell ⟨g',0,none⟩ y1).setCell ⟨g',1,none⟩ y2) g 24 #[v]/\SB (((u.setCell ⟨g,0,none⟩ v).setCell ⟨g',0,none⟩ y1).setCell ⟨g',1,none⟩ y2) g' 32 #[y1,y2]:=by
 constructor
 . exact((s.set 0 v).other hne 0 y1).other hne 1 y2
 . exact((s'.other (Ne.symm hne) 0 v).set 0 y1).set 1 y2
theorem Qf9(a:Option Addr)(cap A H:Nat)(ss:List T4)(vs:List V4)(sl:ByteArray)(h:Rat)(w:World)(hg:Glob w)(hr:ARow T4.cells w a cap ss)(hv:StonesV ss vs)(hn:ss.length<=1048576)
 (hq:QOf sl.data.toList h) (hsz:sl.size<=1073741824) (hf:Fits h H) (hH0:0<H) (hA:4194400<=A) (hA2:A<=5000000) (hH:H<=40000000):
 Calls prog 10 #[.slice a ss.length cap,.string sl] w fun e w'=>LineSays vs h w e w'/\Below w.heap.size w w':=by
 obtain⟨HG,HRW,HV,HVL,HQ,HF⟩:=Ie hg hr hv hv.len hq hf;obtain⟨B0,hB0⟩:=nm w.heap.size;obtain⟨V,hV⟩:=nm ((w.alloc (.cells #[.slice none 0 0] 24)).alloc (.cells #[.int .i64 0,.int .i64 0] 32));have HB0:=Ub hV;have HS4:=Ug hV hB0;have HS5:=Uh hV hB0;obtain⟨HVE,HB0E⟩:=Ia hV hB0;clear hg hr hv hV hB0 hq hf;have HCK:=Hi (Qcx a cap ss vs V (HG.o.below HB0.o) (HRW.o.below HB0.o) HV.o hn);obtain⟨C,I,hCI⟩:∃C I,archF vs=(C,I):=⟨_,_,rfl⟩;rw[hCI] at HCK;have HCI:=Hi hCI;clear hCI;refine(callsIn_wide (n:=6)).1 ?_;refine callsIn_of_wp_marks func10 rfl trivial ?_ rfl
 simp only[ntmps10,List.size_toArray,List.length_cons,List.length_nil,Nat.reduceAdd,Nat.reduceSub,Array.replicate_succ,Array.replicate_zero,List.push_toArray,List.append_toArray,List.nil_append,List.cons_append]
 gi_wp2
 rw[HVE.o];simp only[HB0E.o];refine⟨trivial,callsIn_wide.2 (HCK.o.mono ?_)⟩;rintro e w1 ⟨rfl,hb1⟩;clear HCK;obtain⟨b1,hb1e⟩:=nm w1.heap.size;obtain⟨V1,hV1⟩:=nm (w1.alloc (.cells #[.int .i64 C,.int .i64 I] 32));have HBV1:O (Below V.heap.size V V1):=Hi (by rw[<-hV1];exact hb1.trans ((bR.alloc lZ _).mono hb1.size));have HSB1:=Uf hV1 hb1e;obtain⟨HV1,HB1E⟩:=Ia hV1 hb1e;have ltB:B0+1<V.heap.size:=HS5.o.lt;have hltb:V.heap.size<=b1:=by rw[<-hb1e];exact hb1.size
 clear hV1 hb1e hb1;by_cases hc:C=0
 .
  subst hc;have HAF0:O ((archF vs).1=0):=Hi (by rw[HCI.o]);obtain⟨hn2,hn10⟩:=Qat HAF0.o;rw[HVL.o] at hn2 hn10;have HBW1:=Hi (HB0.o.trans (HBV1.o.mono HB0.o.size))
  gi_wp2
  rw[HV1.o];simp only[HB1E.o];refine⟨trivial,callsIn_wide.2 (Makes.use (FF.ofFits (HG.o.below HBW1.o) HQ.o hsz HF.o hH0) ?_)⟩;intro vh w2 hb2 hh;obtain⟨x1,x2,x3,rfl⟩:=hh.parts;obtain⟨b2,hb2e⟩:=nm w2.heap.size;obtain⟨V2,hV2⟩:=nm (w2.alloc (.cells #[x1,x2,x3] 63));have hBV2:Below w2.heap.size w2 V2:=by rw[<-hV2];exact(Below.refl _ _).alloc lZ _
  have HBV2:O (Below V.heap.size V V2):=Hi (by have h1:=HBV1.o.trans (hb2.mono HBV1.o.size);exact h1.trans (hBV2.mono h1.size));have HSB2:=Uf hV2 hb2e;have HH:=Hi (hh.below hBV2);obtain⟨o1,o2,o3⟩:=hh.1.one;have s1:=Qaa prog o1;have s2:=Qaa prog o2;have s3:=Qaa prog o3;clear o1 o2 o3;obtain⟨HV2,HB2E⟩:=Ia hV2 hb2e;clear hV2 hb2e hb2 hh hBV2
  gi_wp2
  rw[HV2.o];simp only[HB2E.o];clear s1 s2 s3;refine⟨trivial,callsIn_wide.2 (Makes.use (FF.sign HH.o) ?_)⟩;rintro _ w3 hb3 rfl;obtain⟨σ,hσ⟩:=nm (sgn3 h.num);have HSG:=Hi (Qas h);rw[hσ] at HSG ⊢;obtain⟨HB3,HH3,HSB3⟩:=Ib (HBV2.o.trans (hb3.mono HBV2.o.size)) (HH.o.below hb3) (HSB2.o.below hb3 HSB2.o.lt);clear hσ hb3;by_cases hs:σ<0
  .
   have e3:decide (σ<0)=true:=decide_eq_true hs;have HNG:=Hi (HSG.o.1 hs);clear hs;have hs4:=HS4.o.below HB3.o HS4.o.lt;have hs5:=HS5.o.below HB3.o HS5.o.lt;have z0:=hs4.cell 0;have z1:=hs5.cell 0;have z2:=hs5.cell 1;have f0:=hs4.free 0;have f1:=hs5.free 0;have f2:=hs5.free 1;simp only[List.getElem?_toArray,List.getElem?_cons_zero,List.getElem?_cons_succ] at z0 z1 z2;obtain⟨HL4,HL5,HLB⟩:=Ib hs4 hs5 (HB0.o.trans (HB3.o.mono HB0.o.size));clear hs4 hs5
   gi_wp2
   obtain⟨g4,g5⟩:=Qcz (v:=.slice none 0 0) (y1:=.int .i64 5) (y2:=.int .i64 (ss.length:Int)) (by omega) HL4.o HL5.o;refine⟨_,Qcy rfl rfl g4 g5,⟨_,_,_,rfl,.inr (.inl ⟨HAF0.o,HNG.o,rfl,by rw[HVL.o]⟩)⟩,?_⟩;exact((HLB.o.setCell (p:=⟨B0,0,none⟩) (Nat.le_of_eq HB0E.o) _).setCell (p:=⟨B0+1,0,none⟩) (by have:=HB0E.o;show _<=B0+1;omega) _).setCell (p:=⟨B0+1,1,none⟩) (by have:=HB0E.o;show _<=B0+1;omega) _
  .
   have e3:decide (σ<0)=false:=decide_eq_false hs;have HNN:O (¬h<0):=Hi (fun hc=>hs (HSG.o.2 hc));clear hs;have c0:=HSB3.o.cell 0;have c1:=HSB3.o.cell 1;have c2:=HSB3.o.cell 2;simp only[List.getElem?_toArray,List.getElem?_cons_zero,List.getElem?_cons_succ] at c0 c1 c2;have HBW3:=Hi (HB0.o.trans (HB3.o.mono HB0.o.size))
   gi_wp2
   refine⟨trivial,callsIn_wide.2 ((Qd3 _ cap A H ss vs x1 x2 x3 h w3 (HG.o.below HBW3.o) (HRW.o.below HBW3.o) HV.o hn10 HH3.o hA hA2 hH).mono ?_)⟩;rintro e w4 ⟨g,ts,rfl,hgw,htb,hst,hb4⟩;obtain⟨b8,hb8e⟩:=nm w4.heap.size;obtain⟨V4,hV4⟩:=nm (w4.alloc (.cells #[.slice (some ⟨g,0,none⟩) ss.length ss.length] 68));have hBV4:Below w4.heap.size w4 V4:=by rw[<-hV4];exact(Below.refl _ _).alloc lZ _
   have HB4:=Hi (HB3.o.trans (hb4.mono HB3.o.size));have HBV4:=Hi (HB4.o.trans (hBV4.mono HB4.o.size));have HSB8:=Uf hV4 hb8e;obtain⟨HTB,HST,HV4,HB8E⟩:=Ic (htb.below hBV4) hst hV4 hb8e;clear htb hst hb4 c0 c1 c2 HH3 HSB3 hV4 hb8e hBV4
   gi_wp2
   rw[HV4.o];simp only[HB8E.o];refine⟨trivial,callsIn_wide.2 ((Qkr g ss.length V4).mono ?_)⟩;rintro e V5 ⟨rfl,hV5⟩;obtain⟨b9,hb9e⟩:=nm V4.heap.size;rw[hb9e];have HSB9:O (SB V5 b9 68 #[.slice (some ⟨g,0,none⟩) vs.length vs.length]):=Hi (by rw[hV5,<-hb9e,HVL.o];exact SB.new V4 _ _);have hB45:Below V4.heap.size V4 V5:=by rw[hV5];exact(Below.refl _ _).alloc lZ _
   obtain⟨HBV5,HT5,HSB85⟩:=Ib (HBV4.o.trans (hB45.mono HBV4.o.size)) (HTB.o.below hB45) (HSB8.o.below hB45 HSB8.o.lt);obtain⟨HS45,HS55,HBW5,HV5⟩:=Ic (HS4.o.below HBV5.o HS4.o.lt) (HS5.o.below HBV5.o HS5.o.lt) (HB0.o.trans (HBV5.o.mono HB0.o.size)) hV5;have nb4:B0<V5.heap.size:=HS45.o.lt;have nb5:B0+1<V5.heap.size:=HS55.o.lt;clear hb9e hB45 hV5
   gi_wp2
   try rw[<-HV5.o]
   refine Qsc (α:=Crn) (F:=Fence.wide) rfl (by decide) (gf:=82) (lb:=#[.pointer (some ⟨b9,0,none⟩)]) rfl trivial (enters_of func82 (by kernel_rfl) rfl)
    (Qks HT5.o HST.o (by have:=HVL.o;omega) HSB9.o hA2 hH (by decide)) rfl
    (fun pre U=>(∀x,x∈ pre->¬fitsTo vs (lnC vs h x.1 x.2.1) vs.length)/\Below V5.heap.size V5 U)
    (fun pre U=>(∃(i j g':Nat) (ls:List ByteArray),i<j/\j<vs.length/\fitsTo vs (lnC vs h i j) vs.length/\SB U B0 24 #[.slice (some ⟨g',0,none⟩) ss.length ss.length]/\SB U (B0+1) 32 #[.int .i64 0,.int .i64 0]/\w.heap.size<=g'/\ls.length=vs.length/\SB U g' 23 (textsV ls).toArray/\∀(k:Nat) (s:ByteArray),ls[k]?=some s->QText s.data.toList (lnC vs h i j k))/\Below w.heap.size w U)
    (fun pre U V hI hb=>⟨hI.1,hI.2.trans (hb.mono hI.2.size)⟩)
    (fun pre U l o hl hn hI=>⟨hI.1,hI.2.trans ((Only.put U l o).below hl hI.2.size)⟩)
    (fun pre U l o hl hn hX=>by
      obtain⟨⟨i,j,g',ls,k1,k2,k3,k4,k5,k6,k7,k8,k9⟩,hb⟩:=hX;have ne:∀{b:Nat} {t:TypeId} {C:Array Value},SB U b t C->b≠l:=fun hs e=>by subst e;have:=hn _ hs;cases this
      exact⟨⟨i,j,g',ls,k1,k2,k3,k4.only (Only.put U l o) (ne k4),k5.only (Only.put U l o) (ne k5),k6,k7,k8.only (Only.put U l o) (ne k8),k9⟩,hb.trans ((Only.put U l o).below (Nat.le_trans HBW5.o.size hl) hb.size)⟩)
    (fun x U l o hl hn hx=>⟨hx.1,hx.2.1,hx.2.2.onlyN (Only.put U l o) hn⟩)
    (fun pre U hI=>hI.2) ⟨fun x hx=>(by cases hx),Below.refl _ _⟩
    (fun x=>{ tmps:=#[.slice a ss.length cap,.string sl,undef,undef,.pointer (some ⟨B0,0,none⟩),.pointer (some ⟨B0+1,0,none⟩),.pointer (some ⟨b1,0,none⟩),.pointer (some ⟨b2,0,none⟩),.pointer (some ⟨b8,0,none⟩),x.2.2,.slice a ss.length cap,.agg #[.int .i64 0,.int .i64 I],.pointer (some ⟨b1,0,none⟩),.int .i64 0,.bool false,undef,.string sl,.agg #[x1,x2,x3],.agg #[x1,x2,x3],.int .i64 σ,.bool false,undef,undef,undef,.slice a ss.length cap,.agg #[x1,x2,x3],.slice (some ⟨g,0,none⟩) ss.length ss.length,.slice (some ⟨g,0,none⟩) ss.length ss.length,.func (.func 82) #[] #[.pointer (some ⟨b9,0,none⟩)],x.2.2,undef,undef,undef,undef,undef,undef,undef,undef],defers:=[] }) ?assign ?body ?done ?stop
   case assign=>
    intro l x U K hK
    gi_wp2
    exact hK
   case body=>
    rintro l pre x U hl ⟨hno,hbU⟩ hok;obtain⟨i,j,vy⟩:=x;obtain⟨hij,hjn,hline⟩:=hok;obtain⟨HNO,HBU,HLI⟩:=Ib hno hbU hline;have hs8:=HSB85.o.below hbU HSB85.o.lt;have c8:=hs8.cell 0;simp only[List.getElem?_toArray,List.getElem?_cons_zero] at c8;have HFI:O (Calls prog 37 #[.slice (some ⟨g,0,none⟩) ss.length ss.length,vy] U fun e w'=>(∃b,e=.returned (.bool b)/\(b=true↔fitsTo vs (lnC vs h i j) vs.length))/\Below U.heap.size U w'):=Hi (by
     have:=Qf7 (HT5.o.below hbU) HST.o (by have:=HVL.o;omega) hline (by unfold kC2 kC1;omega);rw[HVL.o] at this ⊢
     exact this)
    have HS8:=Hi hs8;clear hno hbU hline hs8
    gi_wp2
    refine⟨trivial,CallsIn.inRound l (callsIn_wide.2 (HFI.o.mono ?_))⟩;rintro e U2 ⟨⟨bf,rfl,hbf⟩,hb2⟩;obtain⟨HBF,HB2⟩:=Ia hbf hb2;clear hbf hb2 HFI c8;cases bf with
    |false=>
     gi_wp2
     refine⟨HB2.o,fun y hy=>?_,HBU.o.trans (HB2.o.mono HBU.o.size)⟩;rcases List.mem_append.1 hy with h1|h1
     . exact HNO.o y h1
     . obtain rfl:=List.mem_singleton.1 h1
       exact fun hc=>absurd (HBF.o.2 hc) (by decide)
    |true=>
     have hs82:=HS8.o.below HB2.o HS8.o.lt;have c8:=hs82.cell 0;simp only[List.getElem?_toArray,List.getElem?_cons_zero] at c8;have hbV2:=HBU.o.trans (HB2.o.mono HBU.o.size);have HTO:O (Calls prog 38 #[.slice (some ⟨g,0,none⟩) ss.length ss.length,vy] U2 fun e w'=>(∃(g':Nat) (ls:List ByteArray),e=.returned (.slice (some ⟨g',0,none⟩) ss.length ss.length)/\U2.heap.size<=g'/\ls.length=vs.length/\SB w' g' 23 (textsV ls).toArray/\∀(k:Nat) (s:ByteArray),ls[k]?=some s->QText s.data.toList (lnC vs h i j k))/\Below U2.heap.size U2 w'):=Hi (by
      have:=Qkq (HG.o.below (HBW5.o.trans (hbV2.mono HBW5.o.size))) (HT5.o.below hbV2) HST.o (by have:=HVL.o;omega) (LineV.stays _ _ _ _ _ _ _ _ _ HB2.o HLI.o) (by unfold kC2 kC1;omega);rw[HVL.o] at this ⊢
      exact this)
     have HBV2:=Hi hbV2;clear hs82 hbV2
     gi_wp2
     refine⟨trivial,CallsIn.inRound l (callsIn_wide.2 (HTO.o.mono ?_))⟩;rintro e U3 ⟨⟨g',ls,rfl,hg',hll,hsb,hqt⟩,hb3⟩;have hbV3:=HBV2.o.trans (hb3.mono HBV2.o.size);have hs4:=HS45.o.below hbV3 HS45.o.lt;have hs5:=HS55.o.below hbV3 HS55.o.lt;have z0:=hs4.cell 0;have z1:=hs5.cell 0;have z2:=hs5.cell 1;have f0:=hs4.free 0;have f1:=hs5.free 0;have f2:=hs5.free 1;simp only[List.getElem?_toArray,List.getElem?_cons_zero,List.getElem?_cons_succ] at z0 z1 z2;obtain⟨HL4,HL5,HSBG,HQT,HLL,HB3,HLB⟩:=If hs4 hs5 hsb hqt hll (HB2.o.trans (hb3.mono HB2.o.size)) (HBW5.o.trans (hbV3.mono HBW5.o.size));have hgB:V5.heap.size<=g':=Nat.le_trans HBV2.o.size hg';have hgw2:w.heap.size<=g':=Nat.le_trans HBW5.o.size hgB;clear hs4 hs5 hsb hqt hll hb3 hbV3 c8 HTO
     gi_wp2
     obtain⟨g4,g5⟩:=Qcz (v:=.slice (some ⟨g',0,none⟩) ss.length ss.length) (y1:=.int .i64 0) (y2:=.int .i64 0) (by omega) HL4.o HL5.o;refine⟨?_,⟨i,j,g',ls,hij,hjn,HBF.o.1 (by trivial),g4,g5,hgw2,HLL.o,?_,HQT.o⟩,?_⟩
     . exact(((KeepsOthers.of_below HB3.o).trans (KeepsOthers.setCell U3 _ _)).trans (KeepsOthers.setCell _ _ _)).trans (KeepsOthers.setCell _ _ _)
     . exact((HSBG.o.other (by omega) 0 _).other (by omega) 0 _).other (by omega) 1 _
     . exact((HLB.o.setCell (p:=⟨B0,0,none⟩) (Nat.le_of_eq HB0E.o) _).setCell (p:=⟨B0+1,0,none⟩) (by have:=HB0E.o;show _<=B0+1;omega) _).setCell (p:=⟨B0+1,1,none⟩) (by have:=HB0E.o;show _<=B0+1;omega) _
   case done=>
    rintro D xs U hD hall ⟨hno,hbU⟩ hK;have hs4:=HS45.o.below hbU HS45.o.lt;have hs5:=HS55.o.below hbU HS55.o.lt;have z0:=hs4.cell 0;have z1:=hs5.cell 0;have z2:=hs5.cell 1;have f0:=hs4.free 0;have f1:=hs5.free 0;have f2:=hs5.free 1;simp only[List.getElem?_toArray,List.getElem?_cons_zero,List.getElem?_cons_succ] at z0 z1 z2;obtain⟨HL4,HL5,HLB,HKD,HALL,HNO⟩:=Ie hs4 hs5 (HBW5.o.trans (hbU.mono HBW5.o.size)) hK hall hno;clear hs4 hs5 hbU hK hall hno
    gi_wp2
    obtain⟨g4,g5⟩:=Qcz (v:=.slice none 0 0) (y1:=.int .i64 8) (y2:=.int .i64 0) (by omega) HL4.o HL5.o;obtain⟨S,hS⟩:=nm (((U.setCell ⟨B0,0,none⟩ (.slice none 0 0)).setCell ⟨B0+1,0,none⟩ (.int .i64 8)).setCell ⟨B0+1,1,none⟩ (.int .i64 0));have hkS:S.heap[D]?=some (.deferred (some [])):=by rw[<-hS];exact(((KeepsOthers.setCell U _ _).trans (KeepsOthers.setCell _ _ _)).trans (KeepsOthers.setCell _ _ _)).same D _ HKD.o rfl
    have hBS:Below w.heap.size w S:=by
     rw[<-hS];exact((HLB.o.setCell (p:=⟨B0,0,none⟩) (Nat.le_of_eq HB0E.o) _).setCell (p:=⟨B0+1,0,none⟩) (by have:=HB0E.o;show _<=B0+1;omega) _).setCell (p:=⟨B0+1,1,none⟩) (by have:=HB0E.o;show _<=B0+1;omega) _
    rw[hS] at g4 g5 ⊢;refine⟨by simp,.inl ⟨_,_,rfl,run_takeDeferred hkS,?_⟩⟩;refine⟨_,Qcy rfl rfl (g4.only (Only.put S D _) (by omega)) (g5.only (Only.put S D _) (by omega)),⟨_,_,_,rfl,.inr (.inr (.inl ⟨HAF0.o,HNN.o,rfl,rfl,fun i j hij hj=>?_⟩))⟩,hBS.trans ((Only.put S D _).below (Nat.le_trans HBW5.o.size hD) hBS.size)⟩;obtain⟨v,hv⟩:=HALL.o i j hij hj;exact HNO.o _ hv
   case stop=>
    rintro D pre U hD _ hX hK;obtain⟨⟨i,j,g',ls,k1,k2,k3,k4,k5,k6,k7,k8,k9⟩,hbU⟩:=hX;obtain⟨HK4,HK5,HK8,HKK,HKD,HLB⟩:=Ie k4 k5 k8 (And.intro k1 (And.intro k2 (And.intro k3 (And.intro k6 (And.intro k7 k9))))) hK hbU;clear k1 k2 k3 k4 k5 k6 k7 k8 k9 hK hbU
    gi_wp2
    refine⟨by simp,.inl ⟨_,_,rfl,run_takeDeferred HKD.o,?_⟩⟩;have ng:g'≠D:=by
     rintro rfl;have h1:U.heap[g']?=some (.cells (textsV ls).toArray 23 (0,0)):=HK8.o;rw[HKD.o] at h1;cases h1
    refine⟨_,Qcy rfl rfl (HK4.o.only (Only.put U D _) (by omega)) (HK5.o.only (Only.put U D _) (by omega)),⟨_,_,_,rfl,.inr (.inr (.inr ⟨HAF0.o,HNN.o,rfl,i,j,g',ls,HKK.o.1,HKK.o.2.1,HKK.o.2.2.1,by rw[HVL.o],HKK.o.2.2.2.1,HKK.o.2.2.2.2.1,HK8.o.only (Only.put U D _) ng,HKK.o.2.2.2.2.2⟩))⟩,HLB.o.trans ((Only.put U D _).below (Nat.le_trans HBW5.o.size hD) HLB.o.size)⟩
 .
  have HNE:O ((archF vs).1≠0):=Hi (by rw[HCI.o];exact hc);have e0:(C != 0)=true:=by simpa using hc
  clear hc;have hs4:=HS4.o.below HBV1.o HS4.o.lt;have hs5:=HS5.o.below HBV1.o HS5.o.lt;have z0:=hs4.cell 0;have z1:=hs5.cell 0;have z2:=hs5.cell 1;have f0:=hs4.free 0;have f1:=hs5.free 0;have f2:=hs5.free 1;simp only[List.getElem?_toArray,List.getElem?_cons_zero,List.getElem?_cons_succ] at z0 z1 z2;obtain⟨HL4,HL5,HLB⟩:=Ib hs4 hs5 (HB0.o.trans (HBV1.o.mono HB0.o.size));clear hs4 hs5;have k0:=HSB1.o.cell 0;have k1:=HSB1.o.cell 1;simp only[List.getElem?_toArray,List.getElem?_cons_zero,List.getElem?_cons_succ] at k0 k1;rw[<-HV1.o] at z0 z1 z2 f0 f1 f2 k0 k1;rw[<-HB1E.o] at k0 k1;have n1:w1.heap.size≠B0:=by have:=HB1E.o;omega
  have n2:B0≠w1.heap.size:=by have:=HB1E.o;omega
  gi_wp2
  gi_region
  all_goals
   gi_wp2
   rw[HV1.o];obtain⟨g4,g5⟩:=Qcz (v:=.slice none 0 0) (y1:=.int .i64 C) (y2:=.int .i64 I) (by omega) HL4.o HL5.o;refine⟨_,Qcy rfl rfl g4.drew g5.drew,⟨_,_,_,rfl,.inl ⟨HNE.o,rfl,HCI.o.symm⟩⟩,Below.drew ?_⟩;exact((HLB.o.setCell (p:=⟨B0,0,none⟩) (Nat.le_of_eq HB0E.o) _).setCell (p:=⟨B0+1,0,none⟩) (by have:=HB0E.o;show _<=B0+1;omega) _).setCell (p:=⟨B0+1,1,none⟩) (by have:=HB0E.o;show _<=B0+1;omega) _
end Go.Proofs.YtldjeecnapgakaaGreatDoor
