/- package still: Carry, of a frame and loads that are right. -/
import Derived.Test.YtbbkamnfjejceaaGreatDoorR46BalF
namespace Go.Proofs.YtbbkamnfjejceaaGreatDoor
open Go.RowKit
set_option linter.unusedVariables false
set_option linter.unusedSimpArgs false
theorem Qd3{P:Program}{fn:Func}{p u:Tmp}{ty ty':TypeId}(h:fn.results=#[.cell p ty,.cell u ty'])(tmps:Array Value)(w:World)(g g':Nat)(t t':TypeId)(cs cs':Array Value)(fr fr':Nat × Nat)(d d':TypeDesc)
 (hp:tmps.getD p undef=.pointer (some ⟨g,0,none⟩)) (hg:w.heap[g]?=some (.cells cs t fr)) (hp':tmps.getD u undef=.pointer (some ⟨g',0,none⟩)) (hg':w.heap[g']?=some (.cells cs' t' fr'))
 (hu:P.underlying ty=some d) (hd:(match d with| .struct _| .array _ _=>true|_=>false)=true) (hi:(P.info? ty).map (·.size)=some cs.size) (hu':P.underlying ty'=some d') (hd':(match d' with| .struct _| .array _ _=>true|_=>false)=true) (hi':(P.info? ty').map (·.size)=some cs'.size):
 (results fn tmps).run P w=.ok (.tuple #[.agg cs,.agg cs']) w:=by
 have e1:tmps[p]?.getD undef=.pointer (some ⟨g,0,none⟩):=by simpa using hp
 have e2:tmps[u]?.getD undef=.pointer (some ⟨g',0,none⟩):=by simpa using hp'
 simp[results,h,e1,e2,asAddr,run_loadVar_row w g t ty cs fr d hg hu hd hi,run_loadVar_row w g' t' ty' cs' fr' d' hg' hu' hd' hi']
def CarrySays(nb nh:Nat)(M:List Vec)(b:List Rat)(w:World)(e:Ending)(w':World):Prop:=
 ((e=.returned (.tuple #[.agg #[.slice none 0 0,.slice none 0 0],.agg #[.int .i64 8,.int .i64 0]])∧∀x,¬Sol (nb+nh) M b x)∨
  (e=.returned (.tuple #[.agg #[.slice none 0 0,.slice none 0 0],.agg #[.int .i64 9,.int .i64 0]])∧∃x y,Sol (nb+nh) M b x∧Sol (nb+nh) M b y∧∃c,c<nb+nh∧x c≠y c)∨
  (∃(g1 g2:Nat) (x y:List ByteArray) (us:List FE),e=.returned (.tuple #[.agg #[.slice (some ⟨g1,0,none⟩) nb nb,.slice (some ⟨g2,0,none⟩) nh nh],.agg #[.int .i64 0,.int .i64 0]])∧SB w' g1 23 (textsV x).toArray∧SB w' g2 23 (textsV y).toArray∧Told (us.take nb) x∧Told (us.drop nb) y∧(us.length=nb+nh∧w.heap.size≤g1∧w.heap.size≤g2)∧∀y,Sol (nb+nh) M b y↔∀(i:Nat) (t:FE),us[i]?=some t→y i=t.q))∧Below w.heap.size w w'
theorem Qjy{W K:Nat}{M:List Vec}{b:List Rat}{w w':World}{e:Ending}(h:Solved W K M b w e w'):∃(ra:Option Addr) (rn rc:Nat) (ev:Int),e=.returned (.tuple #[.slice ra rn rc,.int .i64 ev])∧Below w.heap.size w w'∧
 ((ev=8∧∀x,¬Sol W M b x)∨(ev=9∧∃x y,Sol W M b x∧Sol W M b y∧∃c,c<W∧x c≠y c)∨(ev=0∧∃(g:Nat) (us:List FE),ra=some ⟨g,0,none⟩∧rn=W∧rc=W∧QBlk w' g us∧us.length=W∧(∀t,t∈ us→t.k≤K)∧∀y,Sol W M b y↔∀(i:Nat) (t:FE),us[i]?=some t→y i=t.q)):=by
 obtain⟨h,hb⟩:=h;rcases h with ⟨rfl,h⟩|⟨rfl,h⟩|⟨g,us,rfl,h⟩
 · exact⟨_,_,_,_,rfl,hb,.inl ⟨rfl,h⟩⟩
 · exact⟨_,_,_,_,rfl,hb,.inr (.inl ⟨rfl,h⟩)⟩
 · exact⟨_,_,_,_,rfl,hb,.inr (.inr ⟨rfl,g,us,rfl,rfl,rfl,h⟩)⟩
theorem Qd4{u:World}{g g':Nat}{x1 x2 y1 y2 z1 z2 k1 k2:Value}(hne:g≠g')(s:SB u g 111 #[z1,z2])(s':SB u g' 57 #[k1,k2]):
 SB ((((u.setCell ⟨g,0,none⟩ x1).setCell ⟨g,1,none⟩ x2).setCell ⟨g',0,none⟩ y1).setCell ⟨g',1,none⟩ y2) g 111 #[x1,x2]∧SB ((((u.setCell ⟨g,0,none⟩ x1).setCell ⟨g,1,none⟩ x2).setCell ⟨g',0,none⟩ y1).setCell ⟨g',1,none⟩ y2) g' 57 #[y1,y2]∧
  (∀(b:Nat) (t:TypeId) (C:Array Value),SB u b t C→b≠g→b≠g'→SB ((((u.setCell ⟨g,0,none⟩ x1).setCell ⟨g,1,none⟩ x2).setCell ⟨g',0,none⟩ y1).setCell ⟨g',1,none⟩ y2) b t C):=by
 refine⟨?_,?_,fun b t C hb h1 h2=>(((hb.other h1 0 x1).other h1 1 x2).other h2 0 y1).other h2 1 y2⟩
 · have:=(((s.set 0 x1).set 1 x2).other hne 0 y1).other hne 1 y2
   simpa using this
 · have:=(((s'.other hne.symm 0 x1).other hne.symm 1 x2).set 0 y1).set 1 y2
   simpa using this
set_option maxRecDepth 100000 in
set_option maxHeartbeats 8000000 in
theorem Qjz(a1 a2 a3 al:Option Addr)(c1 c2 c3 cl n K:Nat)(js:List S2)(bs:List B6)(hs:List H3)(vb:List (Nat × Nat × Rat × Rat))(vh:List Nat)(ls:List L3)(vs:List (Nat × Rat × Rat))(w:World)(hg:Glob w)(hf:FrRow w a1 a2 a3 c1 c2 c3 js bs hs)(hz:FrSized js bs hs)(hok:FrameFault js bs hs 0 0)(hv:FrV n js bs hs vb vh)
 (hl:ARow L3.cells w al cl ls) (hll:ls.length≤20) (hvl:vs.length=ls.length) (hlv:∀(i:Nat) (l:L3) (p:Nat × Rat × Rat),ls[i]?=some l→vs[i]?=some p→LoadV js.length l p) (hfit:∀k i,Fits (agn (vs.take k) i) K)
 (hK:4*n+1+(4*n+1)+1≤K) (hK4:4*K+1<68719476000)
 (I:Nat→List Vec→List Vec→List Nat→Prop) (hI:Going K I) (h0:I 0 (List.zipWith (wider (bs.length+hs.length)) (balRows js.length vb bs.length vh) ((List.range (2*js.length)).map (agn vs))) [] [])
 (hfin:∀L S hh,I (bs.length+hs.length+1) L S hh→Ech 0 (bs.length+hs.length+1) S hh∧(∀x,Null (bs.length+hs.length+1) (List.zipWith (wider (bs.length+hs.length)) (balRows js.length vb bs.length vh) ((List.range (2*js.length)).map (agn vs))) x↔Null (bs.length+hs.length+1) S x)∧clnFits K S hh):
 Calls Tryz.prog 60 #[.agg #[.slice a1 js.length c1,.slice a2 bs.length c2,.slice a3 hs.length c3],.slice al ls.length cl] w (CarrySays bs.length hs.length (balRows js.length vb bs.length vh) ((List.range (2*js.length)).map (agn vs)) w):=by
 have HG:=Hi hg;have HF:=Hi hf;have HZ:=Hi hz;have HOK:=Hi hok;have HV:=Hi hv;have HI:=Hi hI;have H0:=Hi h0;have HFIN:=Hi hfin;have HL:=Hi hl;have HVL:=Hi hvl;have HLV:=Hi hlv;have HFIT:=Hi hfit;have n1:=hv.j;have n2:=hv.b;have n3:=hv.h;clear hg hf hz hok hv hI h0 hfin hl hvl hlv hfit;obtain⟨B0,hB0⟩:∃B0,w.heap.size=B0:=⟨_,rfl⟩;obtain⟨V0,hV0⟩:∃V0,((w.alloc (.cells #[.slice a1 js.length c1,.slice a2 bs.length c2,.slice a3 hs.length c3] 54)).alloc (.cells #[.slice none 0 0,.slice none 0 0] 111)).alloc (.cells #[.int .i64 0,.int .i64 0] 57)=V0:=⟨_,rfl⟩;have HBV0:Hid (Below w.heap.size w V0):=Hi (by rw[←hV0];exact(Below.new2 w _ _).alloc (by simp;omega) _);have HS0:Hid (SB V0 B0 54 #[.slice a1 js.length c1,.slice a2 bs.length c2,.slice a3 hs.length c3]):=Hi (by rw[←hV0,←hB0];exact((SB.new w _ _).alloc _).alloc _)
 have HS1:Hid (SB V0 (B0+1) 111 #[.slice none 0 0,.slice none 0 0]):=Hi (by rw[←hV0,←hB0];exact(Qax w _ _ _).alloc _);have HS2:Hid (SB V0 (B0+1+1) 57 #[.int .i64 0,.int .i64 0]):=Hi (by
  rw[←hV0,←hB0];have h:=Qax (w.alloc (.cells #[.slice a1 js.length c1,.slice a2 bs.length c2,.slice a3 hs.length c3] 54)) (.cells #[.slice none 0 0,.slice none 0 0] 111) 57 #[.int .i64 0,.int .i64 0];rw[World.size_alloc] at h
  exact h)
 have HVE:=Hi hV0;have HB0:=Hi hB0;have HCK:=Hi (Qf1 a1 a2 a3 c1 c2 c3 js bs hs V0 (HG.out.below HBV0.out) (HF.out.below HBV0.out) HZ.out HOK.out);have hle:w.heap.size≤B0+1:=by omega
 clear hV0 hB0;go_enter Tryz.func60,Tryz.ntmps60;go_wp2_with fail;rw[HVE.out,HB0.out];clear HVE;go_fit HCK.out;rintro e w1 ⟨rfl,hb1⟩;obtain⟨V1,hV1⟩:∃V1,w1.alloc (.cells #[.int .i64 0,.int .i64 0] 57)=V1:=⟨_,rfl⟩;have hbV1:Below V0.heap.size V0 V1:=by rw[←hV1];exact hb1.alloc hb1.size _
 have HBX:=Hi (HS0.out.below hbV1 HS0.out.lt);have x0:V1.cell? ⟨B0,0,none⟩=some (.slice a1 js.length c1):=by
  have h:=HBX.out.cell 0
  simpa using h
 have x1:V1.cell? ⟨B0,1,none⟩=some (.slice a2 bs.length c2):=by
  have h:=HBX.out.cell 1
  simpa using h
 have x2:V1.cell? ⟨B0,2,none⟩=some (.slice a3 hs.length c3):=by
  have h:=HBX.out.cell 2
  simpa using h
 have k0:V1.cell? ⟨w1.heap.size,0,none⟩=some (.int .i64 0):=by rw[←hV1];exact(SB.new w1 _ _).cell 0
 rw[←hV1] at x0 x1 x2 k0;have HB1:=Hi (HBV0.out.trans (hbV1.mono HBV0.out.size));have HBV1:=Hi hbV1;have HCL:=Hi (Qjx a1 a2 a3 al c1 c2 c3 cl js.length bs.length hs.length ls V1 (HL.out.below HB1.out) n1 n2 n3 (by omega));have HV1:=Hi hV1;clear hV1 hbV1 hb1 HBX;go_wp2_with fail;rw[HV1.out];go_fit HCL.out;rintro e w2 ⟨c,at_,rfl,hlf,hb2⟩;obtain⟨rfl,rfl⟩:c=0∧at_=0:=by
  rcases hlf with ⟨h,_⟩|⟨_,⟨k,l,hk,_,hj,_⟩|⟨_,h1,h2⟩⟩
  · omega
  ·
   obtain⟨p,hp⟩:∃p,vs[k]?=some p:=⟨vs[k]'(by have:=(List.getElem?_eq_some_iff.1 hk).1;have:=HVL.out;omega),List.getElem?_eq_getElem _⟩;have h:=HLV.out k l p hk hp;exact absurd ⟨by rw[h.j];omega,by rw[h.j];have:=h.lt;omega⟩ hj
  · exact⟨h1,h2⟩
 obtain⟨V,hV⟩:∃V,w2.alloc (.cells #[.int .i64 0,.int .i64 0] 57)=V:=⟨_,rfl⟩;have hbV:Below V0.heap.size V0 V:=HBV1.out.trans ((show Below V1.heap.size V1 V by rw[←hV];exact hb2.alloc hb2.size _).mono HBV1.out.size);have HX0:=Hi (HS0.out.below hbV HS0.out.lt);have HX1:=Hi (HS1.out.below hbV HS1.out.lt);have HX2:=Hi (HS2.out.below hbV HS2.out.lt);have HBV:=Hi (HBV0.out.trans (hbV.mono HBV0.out.size));have HBX:=HX0;clear x0 x1 x2 k0;have x0:V.cell? ⟨B0,0,none⟩=some (.slice a1 js.length c1):=by
  have h:=HBX.out.cell 0
  simpa using h
 have x1:V.cell? ⟨B0,1,none⟩=some (.slice a2 bs.length c2):=by
  have h:=HBX.out.cell 1
  simpa using h
 have x2:V.cell? ⟨B0,2,none⟩=some (.slice a3 hs.length c3):=by
  have h:=HBX.out.cell 2
  simpa using h
 have k0:V.cell? ⟨w2.heap.size,0,none⟩=some (.int .i64 0):=by rw[←hV];exact(SB.new w2 _ _).cell 0
 have HVV:=Hi hV;rw[←hV] at x0 x1 x2 k0;clear hlf hb2 hV hbV HS0 HS1 HS2 HCK HCL HB1 HBV1 HV1;go_wp2_with fail;rw[HVV.out] at x0 x1 x2 ⊢;clear k0;have HU0:Hid (Below V.heap.size V V):=Hi (Below.refl _ _);have HOF:=Hi (fun u (hu:Below V.heap.size V u)=>Qf2 a1 a2 a3 c1 c2 c3 n K js bs hs vb vh u (HG.out.below (HBV.out.trans (hu.mono HBV.out.size))) (HF.out.below (HBV.out.trans (hu.mono HBV.out.size))) HV.out hK);have HPT:=Hi (fun u=>Qfr a1 a2 a3 c1 c2 c3 js.length bs.length hs.length u n2 n3);have HAG:=Hi (fun u (hu:Below V.heap.size V u)=>Qrn a1 a2 a3 al c1 c2 c3 cl js.length bs.length hs.length K ls vs u (HG.out.below (HBV.out.trans (hu.mono HBV.out.size))) (HL.out.below (HBV.out.trans (hu.mono HBV.out.size))) (by omega) n1 HVL.out HLV.out (by omega) (by omega) HFIT.out);obtain⟨W,hW⟩:∃W,bs.length+hs.length=W:=⟨_,rfl⟩;obtain⟨N0,hN0⟩:∃N0,2*js.length=N0:=⟨_,rfl⟩
 have eW:(bs.length:Int)+(hs.length:Int)=(W:Int):=by omega
 simp only[eW] at HPT;rw[hW] at HOF H0 HFIN;rw[hN0] at H0 HFIN;have HWE:=Hi hW;have HNE:=Hi hN0;have hW100:W≤100:=by omega
 have hN100:N0≤100:=by omega
 have hK0:0<K:=by omega
 clear eW hW hN0;go_region_held3 (fun v=>v.cell? ⟨B0,0,none⟩=some (.slice a1 js.length c1)∧v.cell? ⟨B0,1,none⟩=some (.slice a2 bs.length c2)∧v.cell? ⟨B0,2,none⟩=some (.slice a3 hs.length c3)) ((first|(simp [*];done)|go_keep)) (first
  |(
   go_at_call 75;apply Calls.mono;apply HOF.out;(first|exact HU0.out|exact HU0.out.drew);rintro e v1 ⟨N,G,rs,hN,rfl,hrl,hqm,hoks,hrk,hq,hb1⟩;obtain rfl:N0=N:=by rw[hN];exact HNE.out.symm
   have HRL:=Hi hrl;have HQM:=Hi hqm;have HRK:=Hi hrk;have HQ:=Hi hq;clear hN hrl hqm hoks hrk hq;have HU1:Hid (Below V.heap.size V v1):=Hi ((by first|exact HU0.out|exact HU0.out.drew:Below V.heap.size V _).trans (hb1.mono (by first|exact HU0.out.size|exact HU0.out.drew.size)));clear hb1 HU0 x0 x1 x2 HBX;have HBX:=Hi (HX0.out.below HU1.out HX0.out.lt);have x0:v1.cell? ⟨B0,0,none⟩=some (.slice a1 js.length c1):=by
    have h:=HBX.out.cell 0
    simpa using h
   have x1:v1.cell? ⟨B0,1,none⟩=some (.slice a2 bs.length c2):=by
    have h:=HBX.out.cell 1
    simpa using h
   have x2:v1.cell? ⟨B0,2,none⟩=some (.slice a3 hs.length c3):=by
    have h:=HBX.out.cell 2
    simpa using h
   skip)
  |(
   go_at_call 76;apply Calls.mono;apply HPT.out;rintro e v2 ⟨rfl,hb2⟩;(first
     |have HB12:Hid (Below v1.heap.size v1 v2):=Hi hb2
     |have HB12:Hid (Below v1.heap.size v1 v2):=Hi ((Below.refl _ _).drew.trans hb2))
   have HU2:Hid (Below V.heap.size V v2):=Hi ((by first|exact HU1.out|exact HU1.out.drew:Below V.heap.size V _).trans (hb2.mono (by first|exact HU1.out.size|exact HU1.out.drew.size)));clear hb2 HU1 x0 x1 x2 HBX;have HBX:=Hi (HX0.out.below HU2.out HX0.out.lt);have x0:v2.cell? ⟨B0,0,none⟩=some (.slice a1 js.length c1):=by
    have h:=HBX.out.cell 0
    simpa using h
   have x1:v2.cell? ⟨B0,1,none⟩=some (.slice a2 bs.length c2):=by
    have h:=HBX.out.cell 1
    simpa using h
   have x2:v2.cell? ⟨B0,2,none⟩=some (.slice a3 hs.length c3):=by
    have h:=HBX.out.cell 2
    simpa using h
   skip)
  |(
   go_at_call 123;apply Calls.mono;apply HAG.out;(first|exact HU2.out|exact HU2.out.drew);rintro e v3 ⟨⟨ga,Na,ua,hNa,rfl,hqa,hla,hua⟩,hb3⟩;obtain rfl:N0=Na:=by rw[hNa];exact HNE.out.symm
   (first
     |have HB13:Hid (Below v1.heap.size v1 v3):=Hi (HB12.out.trans (hb3.mono HB12.out.size))
     |have HB13:Hid (Below v1.heap.size v1 v3):=Hi (HB12.out.trans ((((Below.refl _ _).drew).trans hb3).mono HB12.out.size)))
   have HQA:=Hi hqa;have HLA:=Hi hla;have HUA:=Hi hua;clear hNa hqa hla hua;have HU3:Hid (Below V.heap.size V v3):=Hi ((by first|exact HU2.out|exact HU2.out.drew:Below V.heap.size V _).trans (hb3.mono (by first|exact HU2.out.size|exact HU2.out.drew.size)));clear hb3 HU2 x0 x1 x2 HBX;have HBX:=Hi (HX0.out.below HU3.out HX0.out.lt);have x0:v3.cell? ⟨B0,0,none⟩=some (.slice a1 js.length c1):=by
    have h:=HBX.out.cell 0
    simpa using h
   have x1:v3.cell? ⟨B0,1,none⟩=some (.slice a2 bs.length c2):=by
    have h:=HBX.out.cell 1
    simpa using h
   have x2:v3.cell? ⟨B0,2,none⟩=some (.slice a3 hs.length c3):=by
    have h:=HBX.out.cell 2
    simpa using h
   skip)
  |(
   go_at_call 122;apply Calls.mono
   (have hua:ua.map (·.q)=(List.range N0).map (agn vs):=by
     apply List.ext_getElem?;intro i;simp only[List.getElem?_map];rcases Nat.lt_or_ge i N0 with hi|hi
     ·
      obtain⟨t,ht⟩:∃t,ua[i]?=some t:=⟨ua[i]'(by rw[HLA.out];exact hi),List.getElem?_eq_getElem _⟩;rw[ht,List.getElem?_range hi];simp[(HUA.out i t ht).1]
     · rw[List.getElem?_eq_none (by rw[HLA.out];exact hi),List.getElem?_eq_none (by simpa using hi)]
       rfl
    have HSV:=Qrf (some ⟨G,0,none⟩) (some ⟨ga,0,none⟩) N0 N0 W K rs ua v3 I HI.out (HQM.out.below HB13.out) HRK.out (by have h:=HQA.out.row;rw[HLA.out] at h;exact h) (fun t ht=>by obtain⟨i,hi,he⟩:=List.getElem_of_mem ht;exact(HUA.out i t (by rw[←he];exact List.getElem?_eq_getElem hi)).2) (by rw[HLA.out,HRL.out]) (by rw[HRL.out];omega) (by omega) hK0 hK4 (by rw[HQ.out,hua];exact H0.out) (by rw[HQ.out,hua];exact HFIN.out);rw[HRL.out,HQ.out,hua] at HSV
    exact HSV)
   rintro e v4 hres4;obtain⟨ra,rn,rc,ev,rfl,hb4,hres⟩:=Qjy hres4;have HRES:=Hi hres;clear hres hres4;have HU4:Hid (Below V.heap.size V v4):=Hi ((by first|exact HU3.out|exact HU3.out.drew:Below V.heap.size V _).trans (hb4.mono (by first|exact HU3.out.size|exact HU3.out.drew.size)));clear hb4 HU3 x0 x1 x2 HBX;have HBX:=Hi (HX0.out.below HU4.out HX0.out.lt);have x0:v4.cell? ⟨B0,0,none⟩=some (.slice a1 js.length c1):=by
    have h:=HBX.out.cell 0
    simpa using h
   have x1:v4.cell? ⟨B0,1,none⟩=some (.slice a2 bs.length c2):=by
    have h:=HBX.out.cell 1
    simpa using h
   have x2:v4.cell? ⟨B0,2,none⟩=some (.slice a3 hs.length c3):=by
    have h:=HBX.out.cell 2
    simpa using h
   skip)
  |fail)
 clear HQM HRK HQ HQA HLA HUA HB12 HB13 HOF HPT HAG;rcases HRES.out with ⟨rfl,hno⟩|⟨rfl,hmany⟩|⟨rfl,g,us,hra,hrn,hrc,hqb,hul,huk,hone⟩
 ·
  skip;have HY1:=Hi (HX1.out.below HU4.out HX1.out.lt);have HY2:=Hi (HX2.out.below HU4.out HX2.out.lt);have y0:v4.cell? ⟨B0+1,0,none⟩=some (.slice none 0 0):=HY1.out.cell 0;have y1:v4.cell? ⟨B0+1,1,none⟩=some (.slice none 0 0):=HY1.out.cell 1;have y2:v4.cell? ⟨B0+1+1,0,none⟩=some (.int .i64 0):=HY2.out.cell 0;have y3:v4.cell? ⟨B0+1+1,1,none⟩=some (.int .i64 0):=HY2.out.cell 1;have fz0:v4.frozen? ⟨B0+1,0,none⟩=false:=HY1.out.free 0;have fz1:v4.frozen? ⟨B0+1,1,none⟩=false:=HY1.out.free 1;have fz2:v4.frozen? ⟨B0+1+1,0,none⟩=false:=HY2.out.free 0;have fz3:v4.frozen? ⟨B0+1+1,1,none⟩=false:=HY2.out.free 1;have HBE:=Hi (HBV.out.trans ((HU4.out).mono HBV.out.size));go_wp2;have hLD:=Qd4 (x1:=.slice none 0 0) (x2:=.slice none 0 0) (y1:=.int .i64 8) (y2:=.int .i64 0) (by omega:B0+1≠B0+1+1) HY1.out HY2.out
  refine bodyPost_ret (Qd3 rfl _ _ (B0+1) (B0+1+1) 111 57 #[.slice none 0 0,.slice none 0 0] #[.int .i64 8,.int .i64 0] (0,0) (0,0) _ _ rfl hLD.1 rfl hLD.2.1 Tryz.underlying111 rfl Tryz.stressInfo Tryz.underlying57 rfl Tryz.faultInfo) rfl ?_;have HLAST:=(((HBE.out.setCell (p:=⟨B0+1,0,none⟩) hle (.slice none 0 0)).setCell (p:=⟨B0+1,1,none⟩) hle (.slice none 0 0)).setCell (p:=⟨B0+1+1,0,none⟩) (Nat.le_succ_of_le hle) (.int .i64 8)).setCell (p:=⟨B0+1+1,1,none⟩) (Nat.le_succ_of_le hle) (.int .i64 0);exact⟨.inl ⟨rfl,by rw[HWE.out,HNE.out];exact hno⟩,HLAST⟩
 ·
  skip;have HY1:=Hi (HX1.out.below HU4.out HX1.out.lt);have HY2:=Hi (HX2.out.below HU4.out HX2.out.lt);have y0:v4.cell? ⟨B0+1,0,none⟩=some (.slice none 0 0):=HY1.out.cell 0;have y1:v4.cell? ⟨B0+1,1,none⟩=some (.slice none 0 0):=HY1.out.cell 1;have y2:v4.cell? ⟨B0+1+1,0,none⟩=some (.int .i64 0):=HY2.out.cell 0;have y3:v4.cell? ⟨B0+1+1,1,none⟩=some (.int .i64 0):=HY2.out.cell 1;have fz0:v4.frozen? ⟨B0+1,0,none⟩=false:=HY1.out.free 0;have fz1:v4.frozen? ⟨B0+1,1,none⟩=false:=HY1.out.free 1;have fz2:v4.frozen? ⟨B0+1+1,0,none⟩=false:=HY2.out.free 0;have fz3:v4.frozen? ⟨B0+1+1,1,none⟩=false:=HY2.out.free 1;have HBE:=Hi (HBV.out.trans ((HU4.out).mono HBV.out.size));go_wp2;have hLD:=Qd4 (x1:=.slice none 0 0) (x2:=.slice none 0 0) (y1:=.int .i64 9) (y2:=.int .i64 0) (by omega:B0+1≠B0+1+1) HY1.out HY2.out
  refine bodyPost_ret (Qd3 rfl _ _ (B0+1) (B0+1+1) 111 57 #[.slice none 0 0,.slice none 0 0] #[.int .i64 9,.int .i64 0] (0,0) (0,0) _ _ rfl hLD.1 rfl hLD.2.1 Tryz.underlying111 rfl Tryz.stressInfo Tryz.underlying57 rfl Tryz.faultInfo) rfl ?_;have HLAST:=(((HBE.out.setCell (p:=⟨B0+1,0,none⟩) hle (.slice none 0 0)).setCell (p:=⟨B0+1,1,none⟩) hle (.slice none 0 0)).setCell (p:=⟨B0+1+1,0,none⟩) (Nat.le_succ_of_le hle) (.int .i64 9)).setCell (p:=⟨B0+1+1,1,none⟩) (Nat.le_succ_of_le hle) (.int .i64 0);exact⟨.inr (.inl ⟨rfl,by rw[HWE.out,HNE.out];exact hmany⟩),HLAST⟩
 ·
  subst hra;have hrn':=hrn.symm;subst hrn';have hrc':=hrc.symm;subst hrc';have hK5:K≤274877906944:=by omega
  have HST:=Qrm (.slice a1 js.length c1) (.slice a3 hs.length c3) a2 c2 bs.length g 0 us.length K us v4 (HG.out.below (HBV.out.trans (HU4.out.mono HBV.out.size))) hqb.row huk hK5 (by omega) (by have:=HWE.out;omega) (by omega) rfl rfl;rw[hul] at HST;have HST:=Hi HST;have HONE:=Hi hone;have HUL:=Hi hul;clear hqb hul huk hone;go_wp2_with fail;go_fit HST.out;rintro e v5 ⟨⟨g1,g2,x,y,rfl,hx,hy,htx,hty,hf1,hf2⟩,hb5⟩;have HFR:Hid (w.heap.size≤g1∧w.heap.size≤g2):=Hi ⟨Nat.le_trans (Nat.le_trans HBV.out.size HU4.out.size) hf1,Nat.le_trans (Nat.le_trans HBV.out.size HU4.out.size) hf2⟩;obtain⟨nh,hnh⟩:∃nh,W - bs.length=nh:=⟨_,rfl⟩;rw[hnh];have HU5:=Hi (HU4.out.trans (hb5.mono HU4.out.size));have HY1:=Hi (HX1.out.below HU5.out HX1.out.lt);have HY2:=Hi (HX2.out.below HU5.out HX2.out.lt);have y0:v5.cell? ⟨B0+1,0,none⟩=some (.slice none 0 0):=HY1.out.cell 0
  have y1:v5.cell? ⟨B0+1,1,none⟩=some (.slice none 0 0):=HY1.out.cell 1;have y2:v5.cell? ⟨B0+1+1,0,none⟩=some (.int .i64 0):=HY2.out.cell 0;have y3:v5.cell? ⟨B0+1+1,1,none⟩=some (.int .i64 0):=HY2.out.cell 1;have fz0:v5.frozen? ⟨B0+1,0,none⟩=false:=HY1.out.free 0;have fz1:v5.frozen? ⟨B0+1,1,none⟩=false:=HY1.out.free 1;have fz2:v5.frozen? ⟨B0+1+1,0,none⟩=false:=HY2.out.free 0;have fz3:v5.frozen? ⟨B0+1+1,1,none⟩=false:=HY2.out.free 1;have HBE:=Hi (HBV.out.trans ((HU5.out).mono HBV.out.size));have HNH:=Hi hnh;have HGX:=Hi hx;have HGY:=Hi hy;have HTX:=Hi htx;have HTY:=Hi hty;clear hx hy htx hty hf1 hf2 hb5 hnh HST x0 x1 x2;go_wp2;have hLD:=Qd4 (x1:=.slice (some ⟨g1,0,none⟩) bs.length bs.length) (x2:=.slice (some ⟨g2,0,none⟩) nh nh) (y1:=.int .i64 0) (y2:=.int .i64 0) (by omega:B0+1≠B0+1+1) HY1.out HY2.out
  refine bodyPost_ret (Qd3 rfl _ _ (B0+1) (B0+1+1) 111 57 #[.slice (some ⟨g1,0,none⟩) bs.length bs.length,.slice (some ⟨g2,0,none⟩) nh nh] #[.int .i64 0,.int .i64 0] (0,0) (0,0) _ _ rfl hLD.1 rfl hLD.2.1 Tryz.underlying111 rfl Tryz.stressInfo Tryz.underlying57 rfl Tryz.faultInfo) rfl ?_;have HLAST:=(((HBE.out.setCell (p:=⟨B0+1,0,none⟩) hle (.slice (some ⟨g1,0,none⟩) bs.length bs.length)).setCell (p:=⟨B0+1,1,none⟩) hle (.slice (some ⟨g2,0,none⟩) nh nh)).setCell (p:=⟨B0+1+1,0,none⟩) (Nat.le_succ_of_le hle) (.int .i64 0)).setCell (p:=⟨B0+1+1,1,none⟩) (Nat.le_succ_of_le hle) (.int .i64 0);have hnh:nh=hs.length:=by
   have h1:=HWE.out;have h2:=HNH.out;omega
  subst hnh;refine⟨.inr (.inr ⟨g1,g2,x,y,us,rfl,hLD.2.2 _ _ _ HGX.out (HGX.out.unlike HY1.out (by decide)) (HGX.out.unlike HY2.out (by decide)),hLD.2.2 _ _ _ HGY.out (HGY.out.unlike HY1.out (by decide)) (HGY.out.unlike HY2.out (by decide)),HTX.out,HTY.out,⟨by rw[HWE.out];exact HUL.out,HFR.out⟩,by rw[HWE.out,HNE.out];exact HONE.out⟩),HLAST⟩
end Go.Proofs.YtbbkamnfjejceaaGreatDoor
