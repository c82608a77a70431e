import Derived.Test.YtgnmjaponiclhaaGreatDoorC48BalF
import Derived.Test.YtgnmjaponiclhaaGreatDoorC44StillC
namespace Go.Proofs.YtgnmjaponiclhaaGreatDoor
open Go.RowKit
set_option linter.unusedVariables false
set_option linter.unusedSimpArgs false
theorem Qdv{P:Program}{fn:Func}{p u:Tmp}{ty ty':TypeId}(h:fn.results=#[.cell p ty,.cell u ty'])(tmps:Array Value)(w:World)(g g':Nat)(t t':TypeId)(cs cs':Array Value)(fr fr':Nat × Nat)(d d':TypeDesc)
 (hp:tmps.getD p undef=.pointer (some ⟨g,0,none⟩)) (hg:w.heap[g]?=some (.cells cs t fr)) (hp':tmps.getD u undef=.pointer (some ⟨g',0,none⟩)) (hg':w.heap[g']?=some (.cells cs' t' fr'))
 (hu:P.underlying ty=some d) (hd:(match d with| .struct _| .array _ _=>true|_=>false)=true) (hi:(P.info? ty).map (·.size)=some cs.size) (hu':P.underlying ty'=some d') (hd':(match d' with| .struct _| .array _ _=>true|_=>false)=true) (hi':(P.info? ty').map (·.size)=some cs'.size):
 (results fn tmps).run P w=.ok (.tuple #[.agg cs,.agg cs']) w:=by
 have e1:tmps[p]?.getD undef=.pointer (some ⟨g,0,none⟩):=by simpa using hp
 have e2:tmps[u]?.getD undef=.pointer (some ⟨g',0,none⟩):=by simpa using hp'
 simp[results,h,e1,e2,asAddr,run_loadVar_row w g t ty cs fr d hg hu hd hi,run_loadVar_row w g' t' ty' cs' fr' d' hg' hu' hd' hi']
def CarrySays(nb nh:Nat)(M:List Vec)(b:List Rat)(w:World)(e:Ending)(w':World):Prop:=
 ((e=.returned (.tuple #[.agg #[.slice none 0 0,.slice none 0 0],.agg #[.int .i64 8,.int .i64 0]])∧∀x,¬Sol (nb+nh) M b x)∨
  (e=.returned (.tuple #[.agg #[.slice none 0 0,.slice none 0 0],.agg #[.int .i64 9,.int .i64 0]])∧∃x y,Sol (nb+nh) M b x∧Sol (nb+nh) M b y∧∃c,c<nb+nh∧x c≠y c)∨
  (∃(g1 g2:Nat) (x y:List ByteArray) (us:List FE),e=.returned (.tuple #[.agg #[.slice (some ⟨g1,0,none⟩) nb nb,.slice (some ⟨g2,0,none⟩) nh nh],.agg #[.int .i64 0,.int .i64 0]])∧SB w' g1 23 (textsV x).toArray∧SB w' g2 23 (textsV y).toArray∧Told (us.take nb) x∧Told (us.drop nb) y∧us.length=nb+nh∧∀y,Sol (nb+nh) M b y↔∀(i:Nat) (t:FE),us[i]?=some t→y i=t.q))∧Below w.heap.size w w'
theorem Qjo{W K:Nat}{M:List Vec}{b:List Rat}{w w':World}{e:Ending}(h:Solved W K M b w e w'):∃(ra:Option Addr) (rn rc:Nat) (ev:Int),e=.returned (.tuple #[.slice ra rn rc,.int .i64 ev])∧Below w.heap.size w w'∧
 ((ev=8∧∀x,¬Sol W M b x)∨(ev=9∧∃x y,Sol W M b x∧Sol W M b y∧∃c,c<W∧x c≠y c)∨(ev=0∧∃(g:Nat) (us:List FE),ra=some ⟨g,0,none⟩∧rn=W∧rc=W∧QBlk w' g us∧us.length=W∧(∀t,t∈ us→t.k≤K)∧∀y,Sol W M b y↔∀(i:Nat) (t:FE),us[i]?=some t→y i=t.q)):=by
 obtain⟨h,hb⟩:=h
 rcases h with ⟨rfl,h⟩|⟨rfl,h⟩|⟨g,us,rfl,h⟩
 · exact⟨_,_,_,_,rfl,hb,.inl ⟨rfl,h⟩⟩
 · exact⟨_,_,_,_,rfl,hb,.inr (.inl ⟨rfl,h⟩)⟩
 · exact⟨_,_,_,_,rfl,hb,.inr (.inr ⟨rfl,g,us,rfl,rfl,rfl,h⟩)⟩
theorem Qdw{u:World}{g g':Nat}{x1 x2 y1 y2 z1 z2 k1 k2:Value}(hne:g≠g')(s:SB u g 90 #[z1,z2])(s':SB u g' 57 #[k1,k2]):
 SB ((((u.setCell ⟨g,0,none⟩ x1).setCell ⟨g,1,none⟩ x2).setCell ⟨g',0,none⟩ y1).setCell ⟨g',1,none⟩ y2) g 90 #[x1,x2]∧SB ((((u.setCell ⟨g,0,none⟩ x1).setCell ⟨g,1,none⟩ x2).setCell ⟨g',0,none⟩ y1).setCell ⟨g',1,none⟩ y2) g' 57 #[y1,y2]∧
  (∀(b:Nat) (t:TypeId) (C:Array Value),SB u b t C→b≠g→b≠g'→SB ((((u.setCell ⟨g,0,none⟩ x1).setCell ⟨g,1,none⟩ x2).setCell ⟨g',0,none⟩ y1).setCell ⟨g',1,none⟩ y2) b t C):=by
 refine⟨?_,?_,fun b t C hb h1 h2=>(((hb.other h1 0 x1).other h1 1 x2).other h2 0 y1).other h2 1 y2⟩
 · have:=(((s.set 0 x1).set 1 x2).other hne 0 y1).other hne 1 y2
   simpa using this
 · have:=(((s'.other hne.symm 0 x1).other hne.symm 1 x2).set 0 y1).set 1 y2
   simpa using this
set_option maxRecDepth 100000 in
set_option maxHeartbeats 8000000 in
theorem Qjp(a1 a2 a3 al:Option Addr)(c1 c2 c3 cl n K:Nat)(js:List S2)(bs:List B6)(hs:List H3)(vb:List (Nat × Nat × Rat × Rat))(vh:List Nat)(ls:List L3)(vs:List (Nat × Rat × Rat))(w:World)(hg:Glob w)(hf:FrRow w a1 a2 a3 c1 c2 c3 js bs hs)(hz:FrSized js bs hs)(hok:FrameFault js bs hs 0 0)(hv:FrV n js bs hs vb vh)
 (hl:ARow L3.cells w al cl ls) (hll:ls.length≤20) (hvl:vs.length=ls.length) (hlv:∀(i:Nat) (l:L3) (p:Nat × Rat × Rat),ls[i]?=some l→vs[i]?=some p→LoadV js.length l p) (hfit:∀k i,Fits (agn (vs.take k) i) K)
 (hK:4*n+1+(4*n+1)+1≤K) (hK4:4*K+1<68719476000)
 (I:Nat→List Vec→List Vec→List Nat→Prop) (hI:Going K I) (h0:I 0 (List.zipWith (wider (bs.length+hs.length)) (balRows js.length vb bs.length vh) ((List.range (2*js.length)).map (agn vs))) [] [])
 (hfin:∀L S hh,I (bs.length+hs.length+1) L S hh→Ech 0 (bs.length+hs.length+1) S hh∧(∀x,Null (bs.length+hs.length+1) (List.zipWith (wider (bs.length+hs.length)) (balRows js.length vb bs.length vh) ((List.range (2*js.length)).map (agn vs))) x↔Null (bs.length+hs.length+1) S x)∧clnFits K S hh):
 Calls Tryz.prog 53 #[.agg #[.slice a1 js.length c1,.slice a2 bs.length c2,.slice a3 hs.length c3],.slice al ls.length cl] w (CarrySays bs.length hs.length (balRows js.length vb bs.length vh) ((List.range (2*js.length)).map (agn vs)) w):=by
 have HG:=Hi hg
 have HF:=Hi hf
 have HZ:=Hi hz
 have HOK:=Hi hok
 have HV:=Hi hv
 have HI:=Hi hI
 have H0:=Hi h0
 have HFIN:=Hi hfin
 have HL:=Hi hl
 have HVL:=Hi hvl
 have HLV:=Hi hlv
 have HFIT:=Hi hfit
 have n1:=hv.j
 have n2:=hv.b
 have n3:=hv.h
 clear hg hf hz hok hv hI h0 hfin hl hvl hlv hfit
 obtain⟨B0,hB0⟩:∃B0,w.heap.size=B0:=⟨_,rfl⟩
 obtain⟨V0,hV0⟩:∃V0,((w.alloc (.cells #[.slice a1 js.length c1,.slice a2 bs.length c2,.slice a3 hs.length c3] 54)).alloc (.cells #[.slice none 0 0,.slice none 0 0] 90)).alloc (.cells #[.int .i64 0,.int .i64 0] 57)=V0:=⟨_,rfl⟩
 have HBV0:Hid (Below w.heap.size w V0):=Hi (by rw[←hV0];exact(Below.new2 w _ _).alloc (by simp;omega) _)
 have HS0:Hid (SB V0 B0 54 #[.slice a1 js.length c1,.slice a2 bs.length c2,.slice a3 hs.length c3]):=Hi (by rw[←hV0,←hB0];exact((SB.new w _ _).alloc _).alloc _)
 have HS1:Hid (SB V0 (B0+1) 90 #[.slice none 0 0,.slice none 0 0]):=Hi (by rw[←hV0,←hB0];exact(Qax w _ _ _).alloc _)
 have HS2:Hid (SB V0 (B0+1+1) 57 #[.int .i64 0,.int .i64 0]):=Hi (by
  rw[←hV0,←hB0]
  have h:=Qax (w.alloc (.cells #[.slice a1 js.length c1,.slice a2 bs.length c2,.slice a3 hs.length c3] 54)) (.cells #[.slice none 0 0,.slice none 0 0] 90) 57 #[.int .i64 0,.int .i64 0]
  rw[World.size_alloc] at h
  exact h)
 have HVE:=Hi hV0
 have HB0:=Hi hB0
 have HCK:=Hi (Qfr a1 a2 a3 c1 c2 c3 js bs hs V0 (HG.out.below HBV0.out) (HF.out.below HBV0.out) HZ.out HOK.out)
 have hle:w.heap.size≤B0+1:=by omega
 clear hV0 hB0
 go_enter Tryz.func53,Tryz.ntmps53
 go_wp2_with fail
 rw[HVE.out,HB0.out]
 clear HVE
 go_fit HCK.out
 rintro e w1 ⟨rfl,hb1⟩
 obtain⟨V1,hV1⟩:∃V1,w1.alloc (.cells #[.int .i64 0,.int .i64 0] 57)=V1:=⟨_,rfl⟩
 have hbV1:Below V0.heap.size V0 V1:=by rw[←hV1];exact hb1.alloc hb1.size _
 have HBX:=Hi (HS0.out.below hbV1 HS0.out.lt)
 have x0:V1.cell? ⟨B0,0,none⟩=some (.slice a1 js.length c1):=by
  have h:=HBX.out.cell 0
  simpa using h
 have x1:V1.cell? ⟨B0,1,none⟩=some (.slice a2 bs.length c2):=by
  have h:=HBX.out.cell 1
  simpa using h
 have x2:V1.cell? ⟨B0,2,none⟩=some (.slice a3 hs.length c3):=by
  have h:=HBX.out.cell 2
  simpa using h
 have k0:V1.cell? ⟨w1.heap.size,0,none⟩=some (.int .i64 0):=by rw[←hV1];exact(SB.new w1 _ _).cell 0
 rw[←hV1] at x0 x1 x2 k0
 have HB1:=Hi (HBV0.out.trans (hbV1.mono HBV0.out.size))
 have HBV1:=Hi hbV1
 have HCL:=Hi (Qjn a1 a2 a3 al c1 c2 c3 cl js.length bs.length hs.length ls V1 (HL.out.below HB1.out) n1 n2 n3 (by omega))
 have HV1:=Hi hV1
 clear hV1 hbV1 hb1 HBX
 go_wp2_with fail
 rw[HV1.out]
 go_fit HCL.out
 rintro e w2 ⟨c,at_,rfl,hlf,hb2⟩
 obtain⟨rfl,rfl⟩:c=0∧at_=0:=by
  rcases hlf with ⟨h,_⟩|⟨_,⟨k,l,hk,_,hj,_⟩|⟨_,h1,h2⟩⟩
  · omega
  ·
   obtain⟨p,hp⟩:∃p,vs[k]?=some p:=⟨vs[k]'(by have:=(List.getElem?_eq_some_iff.1 hk).1;have:=HVL.out;omega),List.getElem?_eq_getElem _⟩
   have h:=HLV.out k l p hk hp
   exact absurd ⟨by rw[h.j];omega,by rw[h.j];have:=h.lt;omega⟩ hj
  · exact⟨h1,h2⟩
 obtain⟨V,hV⟩:∃V,w2.alloc (.cells #[.int .i64 0,.int .i64 0] 57)=V:=⟨_,rfl⟩
 have hbV:Below V0.heap.size V0 V:=HBV1.out.trans ((show Below V1.heap.size V1 V by rw[←hV];exact hb2.alloc hb2.size _).mono HBV1.out.size)
 have HX0:=Hi (HS0.out.below hbV HS0.out.lt)
 have HX1:=Hi (HS1.out.below hbV HS1.out.lt)
 have HX2:=Hi (HS2.out.below hbV HS2.out.lt)
 have HBV:=Hi (HBV0.out.trans (hbV.mono HBV0.out.size))
 have HBX:=HX0
 clear x0 x1 x2 k0
 have x0:V.cell? ⟨B0,0,none⟩=some (.slice a1 js.length c1):=by
  have h:=HBX.out.cell 0
  simpa using h
 have x1:V.cell? ⟨B0,1,none⟩=some (.slice a2 bs.length c2):=by
  have h:=HBX.out.cell 1
  simpa using h
 have x2:V.cell? ⟨B0,2,none⟩=some (.slice a3 hs.length c3):=by
  have h:=HBX.out.cell 2
  simpa using h
 have k0:V.cell? ⟨w2.heap.size,0,none⟩=some (.int .i64 0):=by rw[←hV];exact(SB.new w2 _ _).cell 0
 have HVV:=Hi hV
 rw[←hV] at x0 x1 x2 k0
 clear hlf hb2 hV hbV HS0 HS1 HS2 HCK HCL HB1 HBV1 HV1
 go_wp2_with fail
 rw[HVV.out] at x0 x1 x2 ⊢
 clear k0
 have HU0:Hid (Below V.heap.size V V):=Hi (Below.refl _ _)
 have HOF:=Hi (fun u (hu:Below V.heap.size V u)=>Qfs a1 a2 a3 c1 c2 c3 n K js bs hs vb vh u (HG.out.below (HBV.out.trans (hu.mono HBV.out.size))) (HF.out.below (HBV.out.trans (hu.mono HBV.out.size))) HV.out hK)
 have HPT:=Hi (fun u=>Qfg a1 a2 a3 c1 c2 c3 js.length bs.length hs.length u n2 n3)
 have HAG:=Hi (fun u (hu:Below V.heap.size V u)=>Qrb a1 a2 a3 al c1 c2 c3 cl js.length bs.length hs.length K ls vs u (HG.out.below (HBV.out.trans (hu.mono HBV.out.size))) (HL.out.below (HBV.out.trans (hu.mono HBV.out.size))) (by omega) n1 HVL.out HLV.out (by omega) (by omega) HFIT.out)
 obtain⟨W,hW⟩:∃W,bs.length+hs.length=W:=⟨_,rfl⟩
 obtain⟨N0,hN0⟩:∃N0,2*js.length=N0:=⟨_,rfl⟩
 have eW:(bs.length:Int)+(hs.length:Int)=(W:Int):=by omega
 simp only[eW] at HPT
 rw[hW] at HOF H0 HFIN
 rw[hN0] at H0 HFIN
 have HWE:=Hi hW
 have HNE:=Hi hN0
 have hW100:W≤100:=by omega
 have hN100:N0≤100:=by omega
 have hK0:0<K:=by omega
 clear eW hW hN0
 go_region_held3 (fun v=>v.cell? ⟨B0,0,none⟩=some (.slice a1 js.length c1)∧v.cell? ⟨B0,1,none⟩=some (.slice a2 bs.length c2)∧v.cell? ⟨B0,2,none⟩=some (.slice a3 hs.length c3)) ((first|(simp [*];done)|go_keep)) (first
  |(
   go_at_call 117
   apply Calls.mono
   apply HOF.out
   (first|exact HU0.out|exact HU0.out.drew)
   rintro e v1 ⟨N,G,rs,hN,rfl,hrl,hqm,hoks,hrk,hq,hb1⟩
   obtain rfl:N0=N:=by rw[hN];exact HNE.out.symm
   have HRL:=Hi hrl
   have HQM:=Hi hqm
   have HRK:=Hi hrk
   have HQ:=Hi hq
   clear hN hrl hqm hoks hrk hq
   have HU1:Hid (Below V.heap.size V v1):=Hi ((by first|exact HU0.out|exact HU0.out.drew:Below V.heap.size V _).trans (hb1.mono (by first|exact HU0.out.size|exact HU0.out.drew.size)))
   clear hb1 HU0 x0 x1 x2 HBX
   have HBX:=Hi (HX0.out.below HU1.out HX0.out.lt)
   have x0:v1.cell? ⟨B0,0,none⟩=some (.slice a1 js.length c1):=by
    have h:=HBX.out.cell 0
    simpa using h
   have x1:v1.cell? ⟨B0,1,none⟩=some (.slice a2 bs.length c2):=by
    have h:=HBX.out.cell 1
    simpa using h
   have x2:v1.cell? ⟨B0,2,none⟩=some (.slice a3 hs.length c3):=by
    have h:=HBX.out.cell 2
    simpa using h
   skip)
  |(
   go_at_call 118
   apply Calls.mono
   apply HPT.out
   rintro e v2 ⟨rfl,hb2⟩
   (first
     |have HB12:Hid (Below v1.heap.size v1 v2):=Hi hb2
     |have HB12:Hid (Below v1.heap.size v1 v2):=Hi ((Below.refl _ _).drew.trans hb2))
   have HU2:Hid (Below V.heap.size V v2):=Hi ((by first|exact HU1.out|exact HU1.out.drew:Below V.heap.size V _).trans (hb2.mono (by first|exact HU1.out.size|exact HU1.out.drew.size)))
   clear hb2 HU1 x0 x1 x2 HBX
   have HBX:=Hi (HX0.out.below HU2.out HX0.out.lt)
   have x0:v2.cell? ⟨B0,0,none⟩=some (.slice a1 js.length c1):=by
    have h:=HBX.out.cell 0
    simpa using h
   have x1:v2.cell? ⟨B0,1,none⟩=some (.slice a2 bs.length c2):=by
    have h:=HBX.out.cell 1
    simpa using h
   have x2:v2.cell? ⟨B0,2,none⟩=some (.slice a3 hs.length c3):=by
    have h:=HBX.out.cell 2
    simpa using h
   skip)
  |(
   go_at_call 133
   apply Calls.mono
   apply HAG.out
   (first|exact HU2.out|exact HU2.out.drew)
   rintro e v3 ⟨⟨ga,Na,ua,hNa,rfl,hqa,hla,hua⟩,hb3⟩
   obtain rfl:N0=Na:=by rw[hNa];exact HNE.out.symm
   (first
     |have HB13:Hid (Below v1.heap.size v1 v3):=Hi (HB12.out.trans (hb3.mono HB12.out.size))
     |have HB13:Hid (Below v1.heap.size v1 v3):=Hi (HB12.out.trans ((((Below.refl _ _).drew).trans hb3).mono HB12.out.size)))
   have HQA:=Hi hqa
   have HLA:=Hi hla
   have HUA:=Hi hua
   clear hNa hqa hla hua
   have HU3:Hid (Below V.heap.size V v3):=Hi ((by first|exact HU2.out|exact HU2.out.drew:Below V.heap.size V _).trans (hb3.mono (by first|exact HU2.out.size|exact HU2.out.drew.size)))
   clear hb3 HU2 x0 x1 x2 HBX
   have HBX:=Hi (HX0.out.below HU3.out HX0.out.lt)
   have x0:v3.cell? ⟨B0,0,none⟩=some (.slice a1 js.length c1):=by
    have h:=HBX.out.cell 0
    simpa using h
   have x1:v3.cell? ⟨B0,1,none⟩=some (.slice a2 bs.length c2):=by
    have h:=HBX.out.cell 1
    simpa using h
   have x2:v3.cell? ⟨B0,2,none⟩=some (.slice a3 hs.length c3):=by
    have h:=HBX.out.cell 2
    simpa using h
   skip)
  |(
   go_at_call 132
   apply Calls.mono
   (have hua:ua.map (·.q)=(List.range N0).map (agn vs):=by
     apply List.ext_getElem?
     intro i
     simp only[List.getElem?_map]
     rcases Nat.lt_or_ge i N0 with hi|hi
     ·
      obtain⟨t,ht⟩:∃t,ua[i]?=some t:=⟨ua[i]'(by rw[HLA.out];exact hi),List.getElem?_eq_getElem _⟩
      rw[ht,List.getElem?_range hi]
      simp[(HUA.out i t ht).1]
     · rw[List.getElem?_eq_none (by rw[HLA.out];exact hi),List.getElem?_eq_none (by simpa using hi)]
       rfl
    have HSV:=Qq4 (some ⟨G,0,none⟩) (some ⟨ga,0,none⟩) N0 N0 W K rs ua v3 I HI.out (HQM.out.below HB13.out) HRK.out (by have h:=HQA.out.row;rw[HLA.out] at h;exact h) (fun t ht=>by obtain⟨i,hi,he⟩:=List.getElem_of_mem ht;exact(HUA.out i t (by rw[←he];exact List.getElem?_eq_getElem hi)).2) (by rw[HLA.out,HRL.out]) (by rw[HRL.out];omega) (by omega) hK0 hK4 (by rw[HQ.out,hua];exact H0.out) (by rw[HQ.out,hua];exact HFIN.out)
    rw[HRL.out,HQ.out,hua] at HSV
    exact HSV)
   rintro e v4 hres4
   obtain⟨ra,rn,rc,ev,rfl,hb4,hres⟩:=Qjo hres4
   have HRES:=Hi hres
   clear hres hres4
   have HU4:Hid (Below V.heap.size V v4):=Hi ((by first|exact HU3.out|exact HU3.out.drew:Below V.heap.size V _).trans (hb4.mono (by first|exact HU3.out.size|exact HU3.out.drew.size)))
   clear hb4 HU3 x0 x1 x2 HBX
   have HBX:=Hi (HX0.out.below HU4.out HX0.out.lt)
   have x0:v4.cell? ⟨B0,0,none⟩=some (.slice a1 js.length c1):=by
    have h:=HBX.out.cell 0
    simpa using h
   have x1:v4.cell? ⟨B0,1,none⟩=some (.slice a2 bs.length c2):=by
    have h:=HBX.out.cell 1
    simpa using h
   have x2:v4.cell? ⟨B0,2,none⟩=some (.slice a3 hs.length c3):=by
    have h:=HBX.out.cell 2
    simpa using h
   skip)
  |fail)
 clear HQM HRK HQ HQA HLA HUA HB12 HB13 HOF HPT HAG
 rcases HRES.out with ⟨rfl,hno⟩|⟨rfl,hmany⟩|⟨rfl,g,us,hra,hrn,hrc,hqb,hul,huk,hone⟩
 ·
  skip
  have HY1:=Hi (HX1.out.below HU4.out HX1.out.lt)
  have HY2:=Hi (HX2.out.below HU4.out HX2.out.lt)
  have y0:v4.cell? ⟨B0+1,0,none⟩=some (.slice none 0 0):=HY1.out.cell 0
  have y1:v4.cell? ⟨B0+1,1,none⟩=some (.slice none 0 0):=HY1.out.cell 1
  have y2:v4.cell? ⟨B0+1+1,0,none⟩=some (.int .i64 0):=HY2.out.cell 0
  have y3:v4.cell? ⟨B0+1+1,1,none⟩=some (.int .i64 0):=HY2.out.cell 1
  have fz0:v4.frozen? ⟨B0+1,0,none⟩=false:=HY1.out.free 0
  have fz1:v4.frozen? ⟨B0+1,1,none⟩=false:=HY1.out.free 1
  have fz2:v4.frozen? ⟨B0+1+1,0,none⟩=false:=HY2.out.free 0
  have fz3:v4.frozen? ⟨B0+1+1,1,none⟩=false:=HY2.out.free 1
  have HBE:=Hi (HBV.out.trans ((HU4.out).mono HBV.out.size))
  go_wp2
  have hLD:=Qdw (x1:=.slice none 0 0) (x2:=.slice none 0 0) (y1:=.int .i64 8) (y2:=.int .i64 0) (by omega:B0+1≠B0+1+1) HY1.out HY2.out
  refine bodyPost_ret (Qdv rfl _ _ (B0+1) (B0+1+1) 90 57 #[.slice none 0 0,.slice none 0 0] #[.int .i64 8,.int .i64 0] (0,0) (0,0) _ _ rfl hLD.1 rfl hLD.2.1 Tryz.underlying90 rfl Tryz.stressInfo Tryz.underlying57 rfl Tryz.faultInfo) rfl ?_
  have HLAST:=(((HBE.out.setCell (p:=⟨B0+1,0,none⟩) hle (.slice none 0 0)).setCell (p:=⟨B0+1,1,none⟩) hle (.slice none 0 0)).setCell (p:=⟨B0+1+1,0,none⟩) (Nat.le_succ_of_le hle) (.int .i64 8)).setCell (p:=⟨B0+1+1,1,none⟩) (Nat.le_succ_of_le hle) (.int .i64 0)
  exact⟨.inl ⟨rfl,by rw[HWE.out,HNE.out];exact hno⟩,HLAST⟩
 ·
  skip
  have HY1:=Hi (HX1.out.below HU4.out HX1.out.lt)
  have HY2:=Hi (HX2.out.below HU4.out HX2.out.lt)
  have y0:v4.cell? ⟨B0+1,0,none⟩=some (.slice none 0 0):=HY1.out.cell 0
  have y1:v4.cell? ⟨B0+1,1,none⟩=some (.slice none 0 0):=HY1.out.cell 1
  have y2:v4.cell? ⟨B0+1+1,0,none⟩=some (.int .i64 0):=HY2.out.cell 0
  have y3:v4.cell? ⟨B0+1+1,1,none⟩=some (.int .i64 0):=HY2.out.cell 1
  have fz0:v4.frozen? ⟨B0+1,0,none⟩=false:=HY1.out.free 0
  have fz1:v4.frozen? ⟨B0+1,1,none⟩=false:=HY1.out.free 1
  have fz2:v4.frozen? ⟨B0+1+1,0,none⟩=false:=HY2.out.free 0
  have fz3:v4.frozen? ⟨B0+1+1,1,none⟩=false:=HY2.out.free 1
  have HBE:=Hi (HBV.out.trans ((HU4.out).mono HBV.out.size))
  go_wp2
  have hLD:=Qdw (x1:=.slice none 0 0) (x2:=.slice none 0 0) (y1:=.int .i64 9) (y2:=.int .i64 0) (by omega:B0+1≠B0+1+1) HY1.out HY2.out
  refine bodyPost_ret (Qdv rfl _ _ (B0+1) (B0+1+1) 90 57 #[.slice none 0 0,.slice none 0 0] #[.int .i64 9,.int .i64 0] (0,0) (0,0) _ _ rfl hLD.1 rfl hLD.2.1 Tryz.underlying90 rfl Tryz.stressInfo Tryz.underlying57 rfl Tryz.faultInfo) rfl ?_
  have HLAST:=(((HBE.out.setCell (p:=⟨B0+1,0,none⟩) hle (.slice none 0 0)).setCell (p:=⟨B0+1,1,none⟩) hle (.slice none 0 0)).setCell (p:=⟨B0+1+1,0,none⟩) (Nat.le_succ_of_le hle) (.int .i64 9)).setCell (p:=⟨B0+1+1,1,none⟩) (Nat.le_succ_of_le hle) (.int .i64 0)
  exact⟨.inr (.inl ⟨rfl,by rw[HWE.out,HNE.out];exact hmany⟩),HLAST⟩
 ·
  subst hra
  have hrn':=hrn.symm
  subst hrn'
  have hrc':=hrc.symm
  subst hrc'
  have hK5:K≤274877906944:=by omega
  have HST:=Qra (.slice a1 js.length c1) (.slice a3 hs.length c3) a2 c2 bs.length g 0 us.length K us v4 (HG.out.below (HBV.out.trans (HU4.out.mono HBV.out.size))) hqb.row huk hK5 (by omega) (by have:=HWE.out;omega) (by omega) rfl rfl
  rw[hul] at HST
  have HST:=Hi HST
  have HONE:=Hi hone
  have HUL:=Hi hul
  clear hqb hul huk hone
  go_wp2_with fail
  go_fit HST.out
  rintro e v5 ⟨⟨g1,g2,x,y,rfl,hx,hy,htx,hty⟩,hb5⟩
  obtain⟨nh,hnh⟩:∃nh,W - bs.length=nh:=⟨_,rfl⟩
  rw[hnh]
  have HU5:=Hi (HU4.out.trans (hb5.mono HU4.out.size))
  have HY1:=Hi (HX1.out.below HU5.out HX1.out.lt)
  have HY2:=Hi (HX2.out.below HU5.out HX2.out.lt)
  have y0:v5.cell? ⟨B0+1,0,none⟩=some (.slice none 0 0):=HY1.out.cell 0
  have y1:v5.cell? ⟨B0+1,1,none⟩=some (.slice none 0 0):=HY1.out.cell 1
  have y2:v5.cell? ⟨B0+1+1,0,none⟩=some (.int .i64 0):=HY2.out.cell 0
  have y3:v5.cell? ⟨B0+1+1,1,none⟩=some (.int .i64 0):=HY2.out.cell 1
  have fz0:v5.frozen? ⟨B0+1,0,none⟩=false:=HY1.out.free 0
  have fz1:v5.frozen? ⟨B0+1,1,none⟩=false:=HY1.out.free 1
  have fz2:v5.frozen? ⟨B0+1+1,0,none⟩=false:=HY2.out.free 0
  have fz3:v5.frozen? ⟨B0+1+1,1,none⟩=false:=HY2.out.free 1
  have HBE:=Hi (HBV.out.trans ((HU5.out).mono HBV.out.size))
  have HNH:=Hi hnh
  have HGX:=Hi hx
  have HGY:=Hi hy
  have HTX:=Hi htx
  have HTY:=Hi hty
  clear hx hy htx hty hb5 hnh HST x0 x1 x2
  go_wp2
  have hLD:=Qdw (x1:=.slice (some ⟨g1,0,none⟩) bs.length bs.length) (x2:=.slice (some ⟨g2,0,none⟩) nh nh) (y1:=.int .i64 0) (y2:=.int .i64 0) (by omega:B0+1≠B0+1+1) HY1.out HY2.out
  refine bodyPost_ret (Qdv rfl _ _ (B0+1) (B0+1+1) 90 57 #[.slice (some ⟨g1,0,none⟩) bs.length bs.length,.slice (some ⟨g2,0,none⟩) nh nh] #[.int .i64 0,.int .i64 0] (0,0) (0,0) _ _ rfl hLD.1 rfl hLD.2.1 Tryz.underlying90 rfl Tryz.stressInfo Tryz.underlying57 rfl Tryz.faultInfo) rfl ?_
  have HLAST:=(((HBE.out.setCell (p:=⟨B0+1,0,none⟩) hle (.slice (some ⟨g1,0,none⟩) bs.length bs.length)).setCell (p:=⟨B0+1,1,none⟩) hle (.slice (some ⟨g2,0,none⟩) nh nh)).setCell (p:=⟨B0+1+1,0,none⟩) (Nat.le_succ_of_le hle) (.int .i64 0)).setCell (p:=⟨B0+1+1,1,none⟩) (Nat.le_succ_of_le hle) (.int .i64 0)
  have hnh:nh=hs.length:=by
   have h1:=HWE.out
   have h2:=HNH.out
   omega
  subst hnh
  refine⟨.inr (.inr ⟨g1,g2,x,y,us,rfl,hLD.2.2 _ _ _ HGX.out (HGX.out.unlike HY1.out (by decide)) (HGX.out.unlike HY2.out (by decide)),hLD.2.2 _ _ _ HGY.out (HGY.out.unlike HY1.out (by decide)) (HGY.out.unlike HY2.out (by decide)),HTX.out,HTY.out,by rw[HWE.out];exact HUL.out,by rw[HWE.out,HNE.out];exact HONE.out⟩),HLAST⟩
theorem q_of{l t a:List UInt8}{v q:Rat}(h1:Lib.trimPrefix l [45]=t)(h2:Lib.cut t [47]=(a,[],false))(h3:IsDig a)(hv:v=mkRat (decVal a:Nat) 1)(hq:q=if Lib.hasPrefix l [45]=true then -v else v):QOf l q:=by
 refine⟨v,.inl ⟨⟨?_,?_⟩,?_⟩,hq⟩
 · rw[h1,h2];exact h3
 · rw[h1,h2];intro h;cases h
 · rw[h1,h2];simpa using hv
theorem Qdx{c:UInt8}(h1:48≤c.toNat)(h2:c.toNat≤57):IsDig [c]:=⟨by simp,fun d hd=>by
 obtain rfl:d=c:=by simpa using hd
 exact⟨h1,h2⟩⟩
theorem q0_of:QOf tx0.data.toList 0:=q_of (l:=[48]) (t:=[48]) (a:=[48]) (v:=0) (by decide) (by decide) (Qdx (by decide) (by decide)) (by decide) (by decide)
theorem q1_of:QOf tx1.data.toList 1:=one_q
theorem qm_of:QOf (⟨#[45,49]⟩:ByteArray).data.toList (-1):=q_of (l:=[45,49]) (t:=[49]) (a:=[49]) (v:=1) (by decide) (by decide) (Qdx (by decide) (by decide)) (by decide) (by decide)
theorem q2_of:QOf (⟨#[50]⟩:ByteArray).data.toList 2:=q_of (l:=[50]) (t:=[50]) (a:=[50]) (v:=2) (by decide) (by decide) (Qdx (by decide) (by decide)) (by decide) (by decide)
theorem Qdy:FrSized cornerJ cornerB cornerH:=by
 refine⟨?_,?_,?_⟩
 ·
  intro p hp
  simp[cornerJ] at hp
  rcases hp with rfl|rfl|rfl<;>exact⟨by decide,by decide⟩
 ·
  intro b hb
  simp[cornerB,cornerBar] at hb
  rcases hb with rfl|rfl|rfl<;>exact⟨by decide,by decide,by decide,by decide⟩
 ·
  intro x hx
  simp[cornerH] at hx
  rcases hx with rfl|rfl|rfl<;>decide
def cornerVB:List (Nat × Nat × Rat × Rat):=[(0,1,1,0),(1,2,-1,1),(2,0,0,-1)]
def cornerVH:List Nat:=[0,1,3]
theorem Qft:FrV 1 cornerJ cornerB cornerH cornerVB cornerVH:=by
 refine⟨by decide,by decide,by decide,rfl,rfl,?_,?_,by decide⟩
 ·
  intro i b p hb hp
  match i,hb,hp with
  |0,hb,hp=>
   cases hb
   cases hp
   exact⟨rfl,rfl,by decide,_,_,0,0,1,0,rfl,rfl,by decide,by decide,by decide,by decide,q0_of,q0_of,q1_of,q0_of,by decide +kernel,by decide +kernel⟩
  |1,hb,hp=>
   cases hb
   cases hp
   exact⟨rfl,rfl,by decide,_,_,1,0,0,1,rfl,rfl,by decide,by decide,by decide,by decide,q1_of,q0_of,q0_of,q1_of,by decide +kernel,by decide +kernel⟩
  |2,hb,hp=>
   cases hb
   cases hp
   exact⟨rfl,rfl,by decide,_,_,0,1,0,0,rfl,rfl,by decide,by decide,by decide,by decide,q0_of,q1_of,q0_of,q0_of,by decide +kernel,by decide +kernel⟩
  |n+3,hb,hp=>cases hb
 ·
  intro i h r hh hr
  match i,hh,hr with
  |0,hh,hr=>
   cases hh
   cases hr
   exact⟨0,rfl,by decide,rfl⟩
  |1,hh,hr=>
   cases hh
   cases hr
   exact⟨0,rfl,by decide,rfl⟩
  |2,hh,hr=>
   cases hh
   cases hr
   exact⟨1,rfl,by decide,rfl⟩
  |n+3,hh,hr=>cases hh
theorem Qfu:balRows 3 cornerVB 3 cornerVH=cornerM:=by
 have hb:∀r c,6≤c→balM cornerVB 3 cornerVH r c=0:=Qfq (nb:=3) (nh:=3) rfl rfl
 have hv:∀(a b c d e f:Rat) (n:Nat),vec [a,b,c,d,e,f] (n+6)=0:=fun a b c d e f n=>by simp[vec]
 have key:∀(r:Nat) (a b c d e f:Rat),balM cornerVB 3 cornerVH r 0=a→balM cornerVB 3 cornerVH r 1=b→balM cornerVB 3 cornerVH r 2=c→balM cornerVB 3 cornerVH r 3=d→balM cornerVB 3 cornerVH r 4=e→balM cornerVB 3 cornerVH r 5=f→balM cornerVB 3 cornerVH r=vec [a,b,c,d,e,f]:=by
  intro r a b c d e f h0 h1 h2 h3 h4 h5
  funext i
  match i with
  |0=>rw[h0];rfl
  |1=>rw[h1];rfl
  |2=>rw[h2];rfl
  |3=>rw[h3];rfl
  |4=>rw[h4];rfl
  |5=>rw[h5];rfl
  |n+6=>rw[hb r (n+6) (by omega),hv]
 show [balM cornerVB 3 cornerVH 0,balM cornerVB 3 cornerVH 1,balM cornerVB 3 cornerVH 2,balM cornerVB 3 cornerVH 3,balM cornerVB 3 cornerVH 4,balM cornerVB 3 cornerVH 5]=cornerM
 rw[key 0 1 0 0 1 0 0 (by decide +kernel) (by decide +kernel) (by decide +kernel) (by decide +kernel) (by decide +kernel) (by decide +kernel),
  key 1 0 0 1 0 1 0 (by decide +kernel) (by decide +kernel) (by decide +kernel) (by decide +kernel) (by decide +kernel) (by decide +kernel),
  key 2 (-1) (-1) 0 0 0 0 (by decide +kernel) (by decide +kernel) (by decide +kernel) (by decide +kernel) (by decide +kernel) (by decide +kernel),
  key 3 0 1 0 0 0 1 (by decide +kernel) (by decide +kernel) (by decide +kernel) (by decide +kernel) (by decide +kernel) (by decide +kernel),
  key 4 0 1 0 0 0 0 (by decide +kernel) (by decide +kernel) (by decide +kernel) (by decide +kernel) (by decide +kernel) (by decide +kernel),
  key 5 0 (-1) (-1) 0 0 0 (by decide +kernel) (by decide +kernel) (by decide +kernel) (by decide +kernel) (by decide +kernel) (by decide +kernel)]
 rfl
theorem Qdz:FrameFault cornerJ cornerB cornerH 0 0:=by
 refine .inr (.inr ⟨by rintro(h|h|h|h)<;>exact absurd h (by decide),?_,.inr ⟨?_,rfl,rfl⟩⟩)
 ·
  intro i x hx
  match i,hx with
  |0,hx=>
   cases hx
   exact .inr ⟨⟨by decide,by decide⟩,⟨by decide,by decide⟩,_,_,rfl,rfl,0,0,1,0,1,-1,2,q0_of,q0_of,q1_of,q0_of,q1_of,qm_of,q2_of,by decide +kernel⟩
  |1,hx=>
   cases hx
   exact .inr ⟨⟨by decide,by decide⟩,⟨by decide,by decide⟩,_,_,rfl,rfl,1,0,0,1,1,-1,2,q1_of,q0_of,q0_of,q1_of,q1_of,qm_of,q2_of,by decide +kernel⟩
  |2,hx=>
   cases hx
   exact .inr ⟨⟨by decide,by decide⟩,⟨by decide,by decide⟩,_,_,rfl,rfl,0,1,0,0,1,-1,2,q0_of,q1_of,q0_of,q0_of,q1_of,qm_of,q2_of,by decide +kernel⟩
  |n+3,hx=>cases hx
 ·
  intro i x hx
  match i,hx with
  |0,hx=>cases hx;decide
  |1,hx=>cases hx;decide
  |2,hx=>cases hx;decide
  |n+3,hx=>cases hx
def cornerL:List L3:=[⟨2,tx1,tx0⟩]
def cornerVS:List (Nat × Rat × Rat):=[(2,1,0)]
theorem Qjq:∀(i:Nat) (l:L3) (p:Nat × Rat × Rat),cornerL[i]?=some l→cornerVS[i]?=some p→LoadV 3 l p:=by
 intro i l p hl hp
 match i,hl,hp with
 |0,hl,hp=>
  cases hl
  cases hp
  exact⟨rfl,by decide,q1_of,q0_of,by decide,by decide⟩
 |n+1,hl,hp=>cases hl
theorem Qjr:(List.range 6).map (agn cornerVS)= [0,0,0,0,-1,0]:=by decide +kernel
theorem Qct{q:Rat}(h:q=0∨q=1∨q= -1):Fits q 1:=by
 rcases h with rfl|rfl|rfl<;>exact⟨by decide +kernel,by decide +kernel⟩
theorem Qjs(k i:Nat):Fits (agn (cornerVS.take k) i) 1:=by
 match k with
 |0=>exact Fits.zero
 |k+1=>
  have e:cornerVS.take (k+1)=cornerVS:=by simp[cornerVS]
  rw[e]
  have e2:agn cornerVS=agnStep (fun _=>0) (2,1,0):=rfl
  rw[e2]
  by_cases h4:i=4
  · subst h4
    exact Qct (by decide +kernel)
  ·
   by_cases h5:i=5
   · subst h5
     exact Qct (by decide +kernel)
   · rw[Qi4 (by simpa using h4) (by simpa using h5)]
     exact Fits.zero
theorem Qjt{l:List Rat}(h:∀q,q∈ l→q=0∨q=1∨q= -1):Short 1 (vec l):=fun i=>by
 unfold vec
 rcases hq:l[i]? with _|q
 · simp[List.getD,hq]
   exact Fits.zero
 · simp[List.getD,hq]
   exact Qct (h q (List.mem_of_getElem? hq))
theorem Qfv:∀r,r∈ cornerM→Short 1 r:=by
 intro r hr
 simp only[cornerM,List.mem_cons,List.not_mem_nil,or_false] at hr
 rcases hr with rfl|rfl|rfl|rfl|rfl|rfl<;>exact Qjt (by decide +kernel)
theorem Qfw:∀r,r∈ cornerM→∀i,6≤i→r i=0:=by
 intro r hr i hi
 simp only[cornerM,List.mem_cons,List.not_mem_nil,or_false] at hr
 obtain⟨n,rfl⟩:∃n,i=n+6:=⟨i - 6,by omega⟩
 rcases hr with rfl|rfl|rfl|rfl|rfl|rfl<;>simp[vec]
def cornerW:List Vec:=List.zipWith (wider 6) cornerM [0,0,0,0,-1,0]
theorem Qfx:∀r,r∈ cornerW→Short 1 r∧∀i,7≤i→r i=0:=by
 intro r hr
 have hmem:∃m v,m∈ cornerM∧(v=0∨v=1∨v= -1)∧r=wider 6 m v:=by
  simp only[cornerW,cornerM,List.zipWith_cons_cons,List.zipWith_nil_left,List.mem_cons,List.not_mem_nil,or_false] at hr
  rcases hr with rfl|rfl|rfl|rfl|rfl|rfl
  · exact⟨_,_,by simp[cornerM],.inl rfl,rfl⟩
  · exact⟨_,_,by simp[cornerM],.inl rfl,rfl⟩
  · exact⟨_,_,by simp[cornerM],.inl rfl,rfl⟩
  · exact⟨_,_,by simp[cornerM],.inl rfl,rfl⟩
  · exact⟨_,_,by simp[cornerM],.inr (.inr rfl),rfl⟩
  · exact⟨_,_,by simp[cornerM],.inl rfl,rfl⟩
 obtain⟨m,v,hm,hv,rfl⟩:=hmem
 refine⟨fun i=>?_,fun i hi=>?_⟩
 ·
  unfold wider
  split
  · exact Qct hv
  · exact Qfv m hm i
 ·
  unfold wider
  rw[if_neg (by omega)]
  exact Qfw m hm i (by omega)
def cornerK:Nat:=cb 21845 6
theorem cornerK_big:21845≤cornerK∧cornerK<17000000000:=by decide
theorem Qju{L S:List Vec}{hh:List Nat}(h:NI 6 6 1 cornerM 6 L S hh):S.length=6:=by
 obtain⟨h1,h2,_,_⟩:=h.done
 rw[h1.len]
 exact h1.full (fun x hx c hc=>Qk0 x ((h2 x).2 hx) c hc)
theorem Qjv{L S:List Vec}{hh:List Nat}(h:NI 7 6 1 cornerW 7 L S hh):Ech 0 7 S hh∧(∀x,Null 7 cornerW x↔Null 7 S x)∧clnFits cornerK S hh:=by
 obtain⟨h1,h2,h3,h4⟩:=h.done
 rw[corner_bounds.1] at h3
 exact⟨h1,h2,(Qhe (by decide) h1.len h3 (Qmw 21845 h4)).1⟩
theorem qt1:QText tx1.data.toList 1:=⟨[49],⟨[49],.inr ⟨by decide,[1],⟨fun d hd=>by simp at hd;omega,.inr (by simp),by simp[val]⟩,by decide⟩,by decide⟩,.inl ⟨by decide,rfl⟩⟩
theorem qtm:QText (⟨#[45,49]⟩:ByteArray).data.toList (-1):=⟨[45,49],⟨[49],.inr ⟨by decide,[1],⟨fun d hd=>by simp at hd;omega,.inr (by simp),by simp[val]⟩,by decide⟩,by decide⟩,.inl ⟨by decide,rfl⟩⟩
def TLst(w:World)(a:Option Addr)(l:List ByteArray):Prop:=∀(i:Nat) (s:ByteArray),l[i]?=some s→∃b off,a=some ⟨b,off,none⟩∧b<w.heap.size∧w.cell? ⟨b,off+i,none⟩=some (.string s)
theorem TLst.below{w w':World}{a:Option Addr}{l:List ByteArray}(h:TLst w a l)(hb:Below w.heap.size w w'):TLst w' a l:=fun i s hi=>by
 obtain⟨b,off,h1,h2,h3⟩:=h i s hi
 exact⟨b,off,h1,Nat.lt_of_lt_of_le h2 hb.size,(hb.cell (p:=⟨b,off+i,none⟩) h2).trans h3⟩
theorem SB.texts{w:World}{g:Nat}{t:TypeId}{l:List ByteArray}(h:SB w g t (textsV l).toArray):TLst w (some ⟨g,0,none⟩) l:=fun i s hi=>⟨g,0,rfl,h.lt,by
 rw[Nat.zero_add,h.cell]
 simp[textsV,hi]⟩
set_option maxRecDepth 100000 in
theorem Qfy(a b:Option Addr)(c d:Nat)(l:List ByteArray)(w:World)(hu:TLst w a l)(hv:TLst w b l)(hs:l.length≤1000000):
 Calls Tryz.prog 127 #[.slice a l.length c,.slice b l.length d] w fun e w'=>e=.returned (.bool true)∧Below w.heap.size w w':=by
 have HC:=Hi hu
 have HD:=Hi hv
 clear hu hv
 go_enter Tryz.func127,Tryz.ntmps127
 go_wp2_with fail
 go_loopw [13] (fun iv wr=>∃i:Nat,i≤l.length∧iv=.int .i64 i∧Below w.heap.size w wr) (fun iv _=>l.length - (intOf iv).toNat)
 case atStart=>exact⟨0,by omega,rfl,Below.refl _ _⟩
 case round=>
  obtain⟨i,hi,rfl,hb⟩:=hrel
  have HB:=Hi hb
  by_cases hie:i<l.length
  ·
   obtain⟨f,hf⟩:∃f,l[i]?=some f:=⟨l[i],List.getElem?_eq_getElem hie⟩
   obtain⟨b1,o1,rfl,h1,d1⟩:=HC.out i f hf
   obtain⟨b2,o2,rfl,h2,d2⟩:=HD.out i f hf
   have d1':wr.cell? ⟨b1,o1+i,none⟩=some (.string f):=(hb.cell (p:=⟨b1,o1+i,none⟩) h1).trans d1
   have d2':wr.cell? ⟨b2,o2+i,none⟩=some (.string f):=(hb.cell (p:=⟨b2,o2+i,none⟩) h2).trans d2
   have q3:((i:Int)<(l.length:Int)):=by omega
   clear hf d1 d2 hb h1 h2
   go_wp2_with fail
   go_region
   go_wp2
   go_roundw
   case rel=>exact⟨i+1,by omega,by go_num,HB.out.drew⟩
   case measure=>simp[intOf];omega
  ·
   obtain rfl:i=l.length:=by omega
   clear hb
   go_wp2
   go_ret
   exact⟨rfl,HB.out⟩
set_option maxRecDepth 100000 in
set_option maxHeartbeats 1000000 in
theorem Qjw(a b a' b':Option Addr)(c d c' d':Nat)(x y:List ByteArray)(w:World)(hx:TLst w a x)(hy:TLst w b y)(hx':TLst w a' x)(hy':TLst w b' y)(lx:x.length≤1000000)(ly:y.length≤1000000):
 Calls Tryz.prog 45 #[.agg #[.slice a x.length c,.slice b y.length d],.agg #[.slice a' x.length c',.slice b' y.length d']] w fun e w'=>e=.returned (.bool true)∧Below w.heap.size w w':=by
 obtain⟨V,hV⟩:∃V,(w.alloc (.cells #[.slice a x.length c,.slice b y.length d] 90)).alloc (.cells #[.slice a' x.length c',.slice b' y.length d'] 90)=V:=⟨_,rfl⟩
 obtain⟨B0,hB0⟩:∃B0,w.heap.size=B0:=⟨_,rfl⟩
 have hbV:Below w.heap.size w V:=by rw[←hV];exact Below.new2 w _ _
 have s1:SB V B0 90 #[.slice a x.length c,.slice b y.length d]:=by rw[←hV,←hB0];exact(SB.new w _ _).alloc _
 have s2:SB V (B0+1) 90 #[.slice a' x.length c',.slice b' y.length d']:=by rw[←hV,←hB0];exact Qax w _ _ _
 have HE1:=Hi (Qfy a a' c c' x V (hx.below hbV) (hx'.below hbV) lx)
 have HY:=Hi (⟨hy.below hbV,hy'.below hbV⟩:TLst V b y∧TLst V b' y)
 have k0:V.cell? ⟨B0,0,none⟩=some (.slice a x.length c):=s1.cell 0
 have k1:V.cell? ⟨B0+1,0,none⟩=some (.slice a' x.length c'):=s2.cell 0
 have HS1:=Hi s1
 have HS2:=Hi s2
 have HBV:=Hi hbV
 rw[←hV,←hB0] at k0 k1
 have HV:=Hi hV
 have HB0:=Hi hB0
 clear hV hB0 hbV s1 s2 hx hx' hy hy'
 go_enter Tryz.func45,Tryz.ntmps45
 go_wp2_with fail
 rw[HV.out,HB0.out]
 go_fit HE1.out
 rintro e w1 ⟨rfl,hb1⟩
 have HB1:=Hi (HBV.out.trans (hb1.mono HBV.out.size))
 have HE2:=Hi (Qfy b b' d d' y w1 (HY.out.1.below hb1) (HY.out.2.below hb1) ly)
 have m0:w1.cell? ⟨B0,1,none⟩=some (.slice b y.length d):=(HS1.out.below hb1 HS1.out.lt).cell 1
 have m1:w1.cell? ⟨B0+1,1,none⟩=some (.slice b' y.length d'):=(HS2.out.below hb1 HS2.out.lt).cell 1
 clear hb1 k0 k1
 go_wp2_with fail
 go_fit HE2.out
 rintro e w2 ⟨rfl,hb2⟩
 have HB2:=Hi (HB1.out.trans (hb2.mono HB1.out.size))
 clear hb2 m0 m1
 go_wp2
 go_ret
 exact⟨rfl,HB2.out⟩
theorem Qjx{w w':World}{e:Ending}(h:CarrySays 3 3 cornerM [0,0,0,0,-1,0] w e w'):
 ∃g1 g2,e=.returned (.tuple #[.agg #[.slice (some ⟨g1,0,none⟩) 3 3,.slice (some ⟨g2,0,none⟩) 3 3],.agg #[.int .i64 0,.int .i64 0]])∧TLst w' (some ⟨g1,0,none⟩) [⟨#[49]⟩,⟨#[45,49]⟩,⟨#[49]⟩]∧TLst w' (some ⟨g2,0,none⟩) [⟨#[45,49]⟩,⟨#[45,49]⟩,⟨#[49]⟩]∧Below w.heap.size w w':=by
 have hsol:Sol 6 cornerM [0,0,0,0,-1,0] (vec [1,-1,1,-1,-1,1]):=(Qd5 _).2 (by decide +kernel)
 obtain⟨h,hb⟩:=h
 rcases h with ⟨_,h⟩|⟨_,x,y,h1,h2,c,hc,hne⟩|⟨g1,g2,x,y,us,rfl,hx,hy,htx,hty,hul,hone⟩
 · exact absurd hsol (h _)
 ·
  exfalso
  obtain⟨a0,a1,a2,a3,a4,a5⟩:=(Qd5 x).1 h1
  obtain⟨b0,b1,b2,b3,b4,b5⟩:=(Qd5 y).1 h2
  have e:c=0∨c=1∨c=2∨c=3∨c=4∨c=5:=by omega
  rcases e with rfl|rfl|rfl|rfl|rfl|rfl
  · exact hne (a0.trans b0.symm)
  · exact hne (a1.trans b1.symm)
  · exact hne (a2.trans b2.symm)
  · exact hne (a3.trans b3.symm)
  · exact hne (a4.trans b4.symm)
  · exact hne (a5.trans b5.symm)
 ·
  have hq:=(hone _).1 hsol
  have text:∀(s t:ByteArray) (q:Rat),QText s.data.toList q→QText t.data.toList q→s=t:=fun s t q h1 h2=>by
   have:=h1.inj h2
   cases s
   cases t
   congr 1
   exact Array.toList_inj.1 this
  have hin:∀(i:Nat),i<6→∃t,us[i]?=some t∧vec [1,-1,1,-1,-1,1] i=t.q:=fun i hi=>⟨us[i]'(by omega),List.getElem?_eq_getElem (by omega),hq i _ (List.getElem?_eq_getElem (by omega))⟩
  have hX:x= [⟨#[49]⟩,⟨#[45,49]⟩,⟨#[49]⟩]:=by
   have hl:x.length=3:=by rw[htx.1,List.length_take];omega
   have at_:∀i s,i<3→x[i]?=some s→QText s.data.toList (vec [1,-1,1,-1,-1,1] i):=fun i s hi hs=>by
    obtain⟨t,ht,e⟩:=hin i (by omega)
    rw[e]
    exact htx.2 i t s (by rw[List.getElem?_take_of_lt hi];exact ht) hs
   match x,hl,at_ with
   | [s0,s1,s2],_,at_=>
     rw[text s0 ⟨#[49]⟩ 1 (at_ 0 s0 (by decide) rfl) qt1,text s1 ⟨#[45,49]⟩ (-1) (at_ 1 s1 (by decide) rfl) qtm,text s2 ⟨#[49]⟩ 1 (at_ 2 s2 (by decide) rfl) qt1]
  have hY:y= [⟨#[45,49]⟩,⟨#[45,49]⟩,⟨#[49]⟩]:=by
   have hl:y.length=3:=by rw[hty.1,List.length_drop];omega
   have at_:∀i s,i<3→y[i]?=some s→QText s.data.toList (vec [1,-1,1,-1,-1,1] (3+i)):=fun i s hi hs=>by
    obtain⟨t,ht,e⟩:=hin (3+i) (by omega)
    rw[e]
    exact hty.2 i t s (by rw[List.getElem?_drop];exact ht) hs
   match y,hl,at_ with
   | [s0,s1,s2],_,at_=>
     rw[text s0 ⟨#[45,49]⟩ (-1) (at_ 0 s0 (by decide) rfl) qtm,text s1 ⟨#[45,49]⟩ (-1) (at_ 1 s1 (by decide) rfl) qtm,text s2 ⟨#[49]⟩ 1 (at_ 2 s2 (by decide) rfl) qt1]
  subst hX
  subst hY
  exact⟨g1,g2,rfl,hx.texts,hy.texts,hb⟩
end Go.Proofs.YtgnmjaponiclhaaGreatDoor
