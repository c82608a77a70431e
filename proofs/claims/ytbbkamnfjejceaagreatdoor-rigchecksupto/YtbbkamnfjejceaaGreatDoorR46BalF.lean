/- package rig: CheckLoads. -/
import Derived.Test.YtbbkamnfjejceaaGreatDoorR45BalC
import Derived.Test.YtbbkamnfjejceaaGreatDoorR43RowsR
namespace Go.Proofs.YtbbkamnfjejceaaGreatDoor
open Go.RowKit
set_option linter.unusedVariables false
set_option linter.unusedSimpArgs false
theorem Qjv{P:Program}{fn:Func}{p u v x:Tmp}{ty:TypeId}(h:fn.results=#[.tmp u,.tmp v,.tmp x,.cell p ty])(tmps:Array Value)(w:World)(g:Nat)(t:TypeId)(cs:Array Value)(fr:Nat × Nat)(d:TypeDesc)
 (hp:tmps.getD p undef=.pointer (some ⟨g,0,none⟩)) (hg:w.heap[g]?=some (.cells cs t fr))
 (hu:P.underlying ty=some d) (hd:(match d with| .struct _| .array _ _=>true|_=>false)=true) (hi:(P.info? ty).map (·.size)=some cs.size):
 (results fn tmps).run P w=.ok (.tuple #[tmps.getD u undef,tmps.getD v undef,tmps.getD x undef,.agg cs]) w:=by
 have hp':tmps[p]?.getD undef=.pointer (some ⟨g,0,none⟩):=by simpa using hp
 simp[results,h,hp',asAddr,run_loadVar_row w g t ty cs fr d hg hu hd hi]
theorem GM.rows{w u:World}{B G W K:Nat}{gs:List Nat}{M:Nat→Nat→Rat}(h:GM w u B G W K gs M)(hz:∀r c,W≤c→M r c=0):
 ∃rs:List MR,rs.length=gs.length∧QMat u (some ⟨G,0,none⟩) gs.length W rs∧Oks u W K rs∧(∀r,r∈ rs→∀t,t∈ r.ts→t.k≤K)∧rs.map MR.q=(List.range gs.length).map M:=by
 have hex:∀r:Nat,∃m:MR,∀g,gs[r]?=some g→m.a=some ⟨g,0,none⟩∧m.cap=W∧m.ts.length=W∧QBlk u g m.ts∧∀(c:Nat) (t:FE),m.ts[c]?=some t→t.q=M r c∧t.k≤K:=fun r=>by
  rcases hr:gs[r]? with _|g
  · exact⟨MR.none,fun g hg=>by cases hg⟩
  · obtain⟨us,h1,h2,h3⟩:=h.row r g hr
    exact⟨⟨some ⟨g,0,none⟩,W,us⟩,fun g' hg'=>by cases hg';exact⟨rfl,rfl,h2,h1,h3⟩⟩
 obtain⟨f,hf⟩:=Classical.axiomOfChoice hex;have hat:∀r,r<gs.length→∃g,gs[r]?=some g∧(f r).a=some ⟨g,0,none⟩∧(f r).cap=W∧(f r).ts.length=W∧QBlk u g (f r).ts∧∀(c:Nat) (t:FE),(f r).ts[c]?=some t→t.q=M r c∧t.k≤K:=fun r hr=>⟨gs[r],List.getElem?_eq_getElem hr,hf r _ (List.getElem?_eq_getElem hr)⟩
 have hmem:∀m,m∈ (List.range gs.length).map f→∃r,r<gs.length∧f r=m:=fun m hm=>by
  obtain⟨r,hr,rfl⟩:=List.mem_map.1 hm;exact⟨r,List.mem_range.1 hr,rfl⟩
 have hcells:(gs.map (slRow W)).toArray.toList=((List.range gs.length).map f).flatMap MR.cells:=by
  rw[Qdx,List.map_map];apply List.ext_getElem?;intro i;simp only[List.getElem?_map,Function.comp];rcases Nat.lt_or_ge i gs.length with hi|hi
  ·
   obtain⟨g,h1,h2,h3,h4,_⟩:=hat i hi;rw[h1,List.getElem?_range hi];simp[slRow,MR.val,h2,h3,h4]
  · rw[List.getElem?_eq_none hi,List.getElem?_eq_none (by simpa using hi)]
    rfl
 have hrow:∀m,m∈ (List.range gs.length).map f→QRow u m.a m.cap m.ts∧m.ts.length=W∧∀t,t∈ m.ts→t.k≤K:=fun m hm=>by
  obtain⟨r,hr,rfl⟩:=hmem m hm;obtain⟨g,h1,h2,h3,h4,h5,h6⟩:=hat r hr;refine⟨?_,h4,fun t ht=>?_⟩
  · rw[h2,h3,←h4]
    exact h5.row
  · obtain⟨i,hi,he⟩:=List.getElem_of_mem ht
    exact(h6 i t (by rw[←he];exact List.getElem?_eq_getElem hi)).2
 refine⟨(List.range gs.length).map f,by simp,⟨h.out.arow hcells (by simp),fun m hm=>⟨(hrow m hm).1,(hrow m hm).2.1⟩⟩,fun m hm=>⟨(hrow m hm).1,(hrow m hm).2.1,(hrow m hm).2.2⟩,fun m hm=>(hrow m hm).2.2,?_⟩;rw[List.map_map];apply List.map_congr_left;intro r hr;obtain⟨g,h1,h2,h3,h4,h5,h6⟩:=hat r (List.mem_range.1 hr);funext c
 show (f r).q c=M r c
 rcases Nat.lt_or_ge c W with hc|hc
 ·
  obtain⟨t,ht⟩:∃t,(f r).ts[c]?=some t:=⟨(f r).ts[c]'(by omega),List.getElem?_eq_getElem (by omega)⟩;rw[MR.q_at ht];exact(h6 c t ht).1
 · rw[MR.q_beyond (by omega),hz r c hc]
theorem Qcw{vb:List (Nat × Nat × Rat × Rat)}{vh:List Nat}{nb nh:Nat}(h1:vb.length=nb)(h2:vh.length=nh):∀r c,nb+nh≤c→balM vb nb vh r c=0:=by
 intro r c hc;have e1:vb[c]?=none:=List.getElem?_eq_none (by omega);have e2:vh[c - nb]?=none:=List.getElem?_eq_none (by omega);simp only[balM,e1,e2]
theorem Qf1(a1 a2 a3:Option Addr)(c1 c2 c3:Nat)(js:List S2)(bs:List B6)(hs:List H3)(w:World)(hg:Glob w)(hf:FrRow w a1 a2 a3 c1 c2 c3 js bs hs)(hz:FrSized js bs hs)(hok:FrameFault js bs hs 0 0):
 Calls Tryz.prog 26 #[.agg #[.slice a1 js.length c1,.slice a2 bs.length c2,.slice a3 hs.length c3]] w fun e w'=>e=.returned (.agg #[.int .i64 0,.int .i64 0])∧Below w.heap.size w w':=by
 refine(Qdu a1 a2 a3 c1 c2 c3 js bs hs w hg hf hz).mono ?_;rintro e w' ⟨c,at_,rfl,hff,hb⟩;obtain⟨rfl,rfl⟩:=hff.inj hok;exact⟨rfl,hb⟩
structure FrV (n:Nat) (js:List S2) (bs:List B6) (hs:List H3) (vb:List (Nat × Nat × Rat × Rat)) (vh:List Nat):Prop where
 j:js.length≤10
 b:bs.length≤24
 h:hs.length≤20
 lb:vb.length=bs.length
 lh:vh.length=hs.length
 vb:∀(i:Nat) (b:B6) (p:Nat × Nat × Rat × Rat),bs[i]?=some b→vb[i]?=some p→BarV n js b p
 vh:∀(i:Nat) (h:H3) (r:Nat),hs[i]?=some h→vh[i]?=some r→HoldV js.length h r
 n:n≤1048576
def balRows(nj:Nat)(vb:List (Nat × Nat × Rat × Rat))(nb:Nat)(vh:List Nat):List Vec:=(List.range (2*nj)).map (balM vb nb vh)
theorem Qf2(a1 a2 a3:Option Addr)(c1 c2 c3 n K:Nat)(js:List S2)(bs:List B6)(hs:List H3)(vb:List (Nat × Nat × Rat × Rat))(vh:List Nat)(w:World)(hg:Glob w)(hf:FrRow w a1 a2 a3 c1 c2 c3 js bs hs)(hv:FrV n js bs hs vb vh)(hK:4*n+1+(4*n+1)+1≤K):
 Calls Tryz.prog 75 #[.agg #[.slice a1 js.length c1,.slice a2 bs.length c2,.slice a3 hs.length c3]] w fun e w'=>∃(N G:Nat) (rs:List MR),N=2*js.length∧e=.returned (.slice (some ⟨G,0,none⟩) N N)∧rs.length=N∧QMat w' (some ⟨G,0,none⟩) N (bs.length+hs.length) rs∧Oks w' (bs.length+hs.length) K rs∧(∀r,r∈ rs→∀t,t∈ r.ts→t.k≤K)∧rs.map MR.q=balRows js.length vb bs.length vh∧Below w.heap.size w w':=by
 refine(Qju a1 a2 a3 c1 c2 c3 n K js bs hs vb vh w hg hf hv.j hv.b hv.h hv.lb hv.lh hv.vb hv.vh hv.n hK).mono ?_;rintro e w' ⟨N,W,G,gs,rfl,rfl,rfl,hgl,hbm⟩;obtain⟨rs,h1,h2,h3,h4,h5⟩:=hbm.rows (Qcw hv.lb hv.lh);rw[hgl] at h1 h2 h5;exact⟨_,G,rs,rfl,rfl,h1,h2,h3,h4,h5,hbm.base⟩
set_option maxRecDepth 100000 in
set_option maxHeartbeats 8000000 in
theorem Qjw(a1 a2 a3:Option Addr)(c1 c2 c3 n K:Nat)(js:List S2)(bs:List B6)(hs:List H3)(vb:List (Nat × Nat × Rat × Rat))(vh:List Nat)(w:World)(hg:Glob w)(hf:FrRow w a1 a2 a3 c1 c2 c3 js bs hs)(hz:FrSized js bs hs)(hok:FrameFault js bs hs 0 0)(hv:FrV n js bs hs vb vh)(hK:4*n+1+(4*n+1)+1≤K)(hK4:4*K+1<68719476000)
 (I:Nat→List Vec→List Vec→List Nat→Prop) (hI:Going K I) (h0:I 0 (balRows js.length vb bs.length vh) [] []):
 Calls Tryz.prog 29 #[.agg #[.slice a1 js.length c1,.slice a2 bs.length c2,.slice a3 hs.length c3]] w fun e w'=>(∃(L S:List Vec) (hh:List Nat),e=.returned (.tuple #[.int .i64 (S.length:Nat),.int .i64 ((bs.length:Int)+(hs.length:Int) - (S.length:Nat)),.int .i64 (2*(js.length:Int) - (S.length:Nat)),.agg #[.int .i64 0,.int .i64 0]])∧S.length≤bs.length+hs.length∧I (bs.length+hs.length) L S hh)∧Below w.heap.size w w':=by
 have HG:=Hi hg;have HF:=Hi hf;have HZ:=Hi hz;have HOK:=Hi hok;have HV:=Hi hv;have HI:=Hi hI;have H0:=Hi h0;have n1:=hv.j;have n2:=hv.b;have n3:=hv.h;clear hg hf hz hok hv hI h0;obtain⟨B0,hB0⟩:∃B0,w.heap.size=B0:=⟨_,rfl⟩;obtain⟨V0,hV0⟩:∃V0,(w.alloc (.cells #[.slice a1 js.length c1,.slice a2 bs.length c2,.slice a3 hs.length c3] 54)).alloc (.cells #[.int .i64 0,.int .i64 0] 57)=V0:=⟨_,rfl⟩;have HBV0:Hid (Below w.heap.size w V0):=Hi (by rw[←hV0];exact Below.new2 w _ _);have HS0:Hid (SB V0 B0 54 #[.slice a1 js.length c1,.slice a2 bs.length c2,.slice a3 hs.length c3]):=Hi (by rw[←hV0,←hB0];exact(SB.new w _ _).alloc _);have HS1:Hid (SB V0 (B0+1) 57 #[.int .i64 0,.int .i64 0]):=Hi (by rw[←hV0,←hB0];exact SB.new2 w _ _ _ _);have HVE:=Hi hV0;have HB0:=Hi hB0;have HCK:=Hi (Qf1 a1 a2 a3 c1 c2 c3 js bs hs V0 (HG.out.below HBV0.out) (HF.out.below HBV0.out) HZ.out HOK.out);clear hV0 hB0
 go_enter Tryz.func29,Tryz.ntmps29;go_wp2_with fail;rw[HVE.out,HB0.out];clear HVE;go_fit HCK.out;rintro e w1 ⟨rfl,hb1⟩;have hs0:=HS0.out.below hb1 HS0.out.lt;have hs1:=HS1.out.below hb1 HS1.out.lt;obtain⟨V,hV⟩:∃V,(w1.setCell ⟨B0+1,0,none⟩ (.int .i64 0)).setCell ⟨B0+1,1,none⟩ (.int .i64 0)=V:=⟨_,rfl⟩;have ho:Only (B0+1) w1 V:=by rw[←hV];exact((Only.refl _ _).setCell _ _).setCell _ _
 have HX0:Hid (SB V B0 54 #[.slice a1 js.length c1,.slice a2 bs.length c2,.slice a3 hs.length c3]):=Hi (hs0.only ho (by omega));have HX1:Hid (SB V (B0+1) 57 #[.int .i64 0,.int .i64 0]):=Hi (by rw[←hV];exact(hs1.set 0 _).set 1 _);have HBV:Hid (Below w.heap.size w V):=Hi ((HBV0.out.trans (hb1.mono HBV0.out.size)).trans (ho.below (by have:=HB0.out;omega) (HBV0.out.trans (hb1.mono HBV0.out.size)).size));have z0:w1.cell? ⟨B0+1,0,none⟩=some (.int .i64 0):=hs1.cell 0;have z1:w1.cell? ⟨B0+1,1,none⟩=some (.int .i64 0):=hs1.cell 1;have f0:=hs1.free 0;have f1:=hs1.free 1;have k0:V.cell? ⟨B0+1,0,none⟩=some (.int .i64 0):=HX1.out.cell 0;have k1:V.cell? ⟨B0+1,1,none⟩=some (.int .i64 0):=HX1.out.cell 1;have HVV:=Hi hV;rw[←hV] at k0 k1;clear hb1 hs0 hs1 ho HS0 HS1 HCK hV;go_wp2_with fail;rw[HVV.out];have HBX:=HX0;have x0:V.cell? ⟨B0,0,none⟩=some (.slice a1 js.length c1):=by
  have h:=HBX.out.cell 0
  simpa using h
 have x1:V.cell? ⟨B0,1,none⟩=some (.slice a2 bs.length c2):=by
  have h:=HBX.out.cell 1
  simpa using h
 have x2:V.cell? ⟨B0,2,none⟩=some (.slice a3 hs.length c3):=by
  have h:=HBX.out.cell 2
  simpa using h
 clear z0 z1 f0 f1 k0 k1;have HU0:Hid (Below V.heap.size V V):=Hi (Below.refl _ _);have HOF:=Hi (fun u (hu:Below V.heap.size V u)=>Qf2 a1 a2 a3 c1 c2 c3 n K js bs hs vb vh u (HG.out.below (HBV.out.trans (hu.mono HBV.out.size))) (HF.out.below (HBV.out.trans (hu.mono HBV.out.size))) HV.out hK);have HPT:=Hi (fun u=>Qfr a1 a2 a3 c1 c2 c3 js.length bs.length hs.length u n2 n3);have HWY:=Hi (fun u=>Qfs a1 a2 a3 c1 c2 c3 js.length bs.length hs.length u n1);obtain⟨W,hW⟩:∃W,bs.length+hs.length=W:=⟨_,rfl⟩;obtain⟨N0,hN0⟩:∃N0,2*js.length=N0:=⟨_,rfl⟩;have eW:(bs.length:Int)+(hs.length:Int)=(W:Int):=by omega
 have eN:2*(js.length:Int)=(N0:Int):=by omega
 simp only[eW] at HPT;simp only[eN] at HWY;rw[hW] at HOF;have HWE:=Hi hW;have HNE:=Hi hN0;have HWI:=Hi eW;have HNI:=Hi eN;have hW100:W≤100:=by omega
 have hN100:N0≤100:=by omega
 have hK0:0<K:=by omega
 clear eW eN hW hN0;go_region_held3 (fun v=>v.cell? ⟨B0,0,none⟩=some (.slice a1 js.length c1)∧v.cell? ⟨B0,1,none⟩=some (.slice a2 bs.length c2)∧v.cell? ⟨B0,2,none⟩=some (.slice a3 hs.length c3)) ((first|(simp [*];done)|go_keep)) (first
  |(
   go_at_call 75;apply Calls.mono;apply HOF.out;(first|exact HU0.out|exact HU0.out.drew);rintro e v1 ⟨N,G,rs,hN,rfl,hrl,hqm,hoks,_,hq,hb1⟩;obtain rfl:N0=N:=by rw[hN];exact HNE.out.symm
   have HRL:=Hi hrl;have HQM:=Hi hqm.row;have HOKS:=Hi hoks;have HQ:=Hi hq;clear hN hrl hqm hoks hq;have HU1:Hid (Below V.heap.size V v1):=Hi ((by first|exact HU0.out|exact HU0.out.drew:Below V.heap.size V _).trans (hb1.mono (by first|exact HU0.out.size|exact HU0.out.drew.size)));clear hb1 HU0 x0 x1 x2 HBX;have HBX:=Hi (HX0.out.below HU1.out HX0.out.lt);have x0:v1.cell? ⟨B0,0,none⟩=some (.slice a1 js.length c1):=by
    have h:=HBX.out.cell 0
    simpa using h
   have x1:v1.cell? ⟨B0,1,none⟩=some (.slice a2 bs.length c2):=by
    have h:=HBX.out.cell 1
    simpa using h
   have x2:v1.cell? ⟨B0,2,none⟩=some (.slice a3 hs.length c3):=by
    have h:=HBX.out.cell 2
    simpa using h
   skip)
  |(
   go_at_call 76;apply Calls.mono;apply HPT.out;rintro e v2 ⟨rfl,hb2⟩;(first
     |have HB12:Hid (Below v1.heap.size v1 v2):=Hi hb2
     |have HB12:Hid (Below v1.heap.size v1 v2):=Hi ((Below.refl _ _).drew.trans hb2))
   have HU2:Hid (Below V.heap.size V v2):=Hi ((by first|exact HU1.out|exact HU1.out.drew:Below V.heap.size V _).trans (hb2.mono (by first|exact HU1.out.size|exact HU1.out.drew.size)));clear hb2 HU1 x0 x1 x2 HBX;have HBX:=Hi (HX0.out.below HU2.out HX0.out.lt);have x0:v2.cell? ⟨B0,0,none⟩=some (.slice a1 js.length c1):=by
    have h:=HBX.out.cell 0
    simpa using h
   have x1:v2.cell? ⟨B0,1,none⟩=some (.slice a2 bs.length c2):=by
    have h:=HBX.out.cell 1
    simpa using h
   have x2:v2.cell? ⟨B0,2,none⟩=some (.slice a3 hs.length c3):=by
    have h:=HBX.out.cell 2
    simpa using h
   skip)
  |(
   go_at_call 74;apply Calls.mono
   (have HRK:=Qre (some ⟨G,0,none⟩) N0 W K rs v2 I HI.out (HQM.out.below HB12.out) (HOKS.out.fr (Fr.of_below HB12.out)) (by rw[HRL.out];omega) (by omega) hK0 hK4 (by rw[HQ.out];exact H0.out)
    rw[HRL.out] at HRK
    exact HRK)
   rintro e v3 ⟨⟨L,S,hh,rfl,hSl,hi⟩,hb3⟩;have HJ:=Hi hi;clear hi;have HU3:Hid (Below V.heap.size V v3):=Hi ((by first|exact HU2.out|exact HU2.out.drew:Below V.heap.size V _).trans (hb3.mono (by first|exact HU2.out.size|exact HU2.out.drew.size)));clear hb3 HU2 x0 x1 x2 HBX;have HBX:=Hi (HX0.out.below HU3.out HX0.out.lt);have x0:v3.cell? ⟨B0,0,none⟩=some (.slice a1 js.length c1):=by
    have h:=HBX.out.cell 0
    simpa using h
   have x1:v3.cell? ⟨B0,1,none⟩=some (.slice a2 bs.length c2):=by
    have h:=HBX.out.cell 1
    simpa using h
   have x2:v3.cell? ⟨B0,2,none⟩=some (.slice a3 hs.length c3):=by
    have h:=HBX.out.cell 2
    simpa using h
   skip)
  |fail)
 have hWI:IntKind.i64.wrap ((W:Int) - (S.length:Int))=(W:Int) - (S.length:Int):=wrap_i64 _ (by omega) (by omega);have hNI:IntKind.i64.wrap ((N0:Int) - (S.length:Int))=(N0:Int) - (S.length:Int):=wrap_i64 _ (by omega) (by omega);have HY1:=Hi (HX1.out.below HU3.out HX1.out.lt);clear HQM HOKS HQ HB12 HOF;go_wp2_with fail;go_region_held3 (fun v=>v.cell? ⟨B0,0,none⟩=some (.slice a1 js.length c1)∧v.cell? ⟨B0,1,none⟩=some (.slice a2 bs.length c2)∧v.cell? ⟨B0,2,none⟩=some (.slice a3 hs.length c3)) ((first|(simp [*];done)|go_keep)) (first
  |(
   go_at_call 76;apply Calls.mono;apply HPT.out;rintro e v4 ⟨rfl,hb4⟩;have HU4:Hid (Below V.heap.size V v4):=Hi ((by first|exact HU3.out|exact HU3.out.drew:Below V.heap.size V _).trans (hb4.mono (by first|exact HU3.out.size|exact HU3.out.drew.size)));clear hb4 HU3 x0 x1 x2 HBX;have HBX:=Hi (HX0.out.below HU4.out HX0.out.lt);have x0:v4.cell? ⟨B0,0,none⟩=some (.slice a1 js.length c1):=by
    have h:=HBX.out.cell 0
    simpa using h
   have x1:v4.cell? ⟨B0,1,none⟩=some (.slice a2 bs.length c2):=by
    have h:=HBX.out.cell 1
    simpa using h
   have x2:v4.cell? ⟨B0,2,none⟩=some (.slice a3 hs.length c3):=by
    have h:=HBX.out.cell 2
    simpa using h
   skip)
  |(
   go_at_call 77;apply Calls.mono;apply HWY.out;rintro e v5 ⟨rfl,hb5⟩;have HU5:Hid (Below V.heap.size V v5):=Hi ((by first|exact HU4.out|exact HU4.out.drew:Below V.heap.size V _).trans (hb5.mono (by first|exact HU4.out.size|exact HU4.out.drew.size)));clear hb5 HU4 x0 x1 x2 HBX;have HBX:=Hi (HX0.out.below HU5.out HX0.out.lt);have x0:v5.cell? ⟨B0,0,none⟩=some (.slice a1 js.length c1):=by
    have h:=HBX.out.cell 0
    simpa using h
   have x1:v5.cell? ⟨B0,1,none⟩=some (.slice a2 bs.length c2):=by
    have h:=HBX.out.cell 1
    simpa using h
   have x2:v5.cell? ⟨B0,2,none⟩=some (.slice a3 hs.length c3):=by
    have h:=HBX.out.cell 2
    simpa using h
   have y0:v5.cell? ⟨B0+1,0,none⟩=some (.int .i64 0):=(HX1.out.below HU5.out HX1.out.lt).cell 0;have y1:v5.cell? ⟨B0+1,1,none⟩=some (.int .i64 0):=(HX1.out.below HU5.out HX1.out.lt).cell 1;have g0:=(HX1.out.below HU5.out HX1.out.lt).free 0;have g1:=(HX1.out.below HU5.out HX1.out.lt).free 1
   skip)
  |fail)
 have HY5:=Hi (HX1.out.below HU5.out HX1.out.lt);have HBE:=Hi (HBV.out.trans (HU5.out.mono HBV.out.size));have hle:w.heap.size≤B0+1:=by have:=HB0.out;omega
 clear x0 x1 x2 y0 y1 g0 g1 hWI hNI;go_wp2;refine bodyPost_ret (Qjv rfl _ _ (B0+1) 57 #[.int .i64 0,.int .i64 0] (0,0) _ rfl ((HY5.out.set 0 _).set 1 _) Tryz.underlying57 rfl Tryz.faultInfo) rfl ?_;exact⟨⟨L,S,hh,by rw[HWI.out,HNI.out];rfl,by rw[HWE.out];exact hSl,by rw[HWE.out];exact HJ.out⟩,(HBE.out.setCell (p:=⟨B0+1,0,none⟩) hle _).setCell (p:=⟨B0+1,1,none⟩) hle _⟩
def LoadsFault(nj en:Nat)(ls:List L3)(c at_:Int):Prop:=
 (20<ls.length∧c=2∧at_=(en:Nat))∨
 (ls.length≤20∧((∃(k:Nat) (l:L3),ls[k]?=some l∧(∀(i:Nat) (x:L3),i<k→ls[i]?=some x→IsJ nj x.j)∧¬IsJ nj l.j∧c=4∧at_=(en:Nat)+(k:Nat))∨
 ((∀(i:Nat) (x:L3),ls[i]?=some x→IsJ nj x.j)∧c=0∧at_=0)))
set_option maxRecDepth 100000 in
set_option maxHeartbeats 4000000 in
theorem Qjx(a1 a2 a3 al:Option Addr)(c1 c2 c3 cl nj nb nh:Nat)(ls:List L3)(w:World)(hl:ARow L3.cells w al cl ls)(n1:nj≤10)(n2:nb≤24)(n3:nh≤20)(hll:ls.length≤9223372036854775807):
 Calls Tryz.prog 121 #[.agg #[.slice a1 nj c1,.slice a2 nb c2,.slice a3 nh c3],.slice al ls.length cl] w fun e w'=>∃c at_,e=.returned (.agg #[.int .i64 c,.int .i64 at_])∧LoadsFault nj (nb+nh) ls c at_∧Below w.heap.size w w':=by
 have HL:=Hi hl;clear hl;obtain⟨B0,hB0⟩:∃B0,w.heap.size=B0:=⟨_,rfl⟩;obtain⟨V,hV⟩:∃V,(w.alloc (.cells #[.slice a1 nj c1,.slice a2 nb c2,.slice a3 nh c3] 54)).alloc (.cells #[.int .i64 0,.int .i64 0] 57)=V:=⟨_,rfl⟩;have HBV:Hid (Below w.heap.size w V):=Hi (by rw[←hV];exact Below.new2 w _ _);have HS0:Hid (SB V B0 54 #[.slice a1 nj c1,.slice a2 nb c2,.slice a3 nh c3]):=Hi (by rw[←hV,←hB0];exact(SB.new w _ _).alloc _);have HS1:Hid (SB V (B0+1) 57 #[.int .i64 0,.int .i64 0]):=Hi (by rw[←hV,←hB0];exact SB.new2 w _ _ _ _);obtain⟨en,hen⟩:∃en,nb+nh=en:=⟨_,rfl⟩;have ei:(nb:Int)+(nh:Int)=(en:Int):=by omega
 have x1:V.cell? ⟨B0,1,none⟩=some (.slice a2 nb c2):=HS0.out.cell 1;have x2:V.cell? ⟨B0,2,none⟩=some (.slice a3 nh c3):=HS0.out.cell 2;have y0:V.cell? ⟨B0+1,0,none⟩=some (.int .i64 0):=HS1.out.cell 0;have y1:V.cell? ⟨B0+1,1,none⟩=some (.int .i64 0):=HS1.out.cell 1;have g0:=HS1.out.free 0;have g1:=HS1.out.free 1;rw[←hV,←hB0] at x1 x2 y0 y1 g0 g1;have HVE:=Hi hV;have HB0:=Hi hB0;have HEN:=Hi hen;have hle:w.heap.size≤B0+1:=by omega
 have hen44:en≤44:=by omega
 clear hV hB0 hen;go_enter Tryz.func121,Tryz.ntmps121;by_cases h20:20<ls.length
 ·
  have q20:(20:Int)<(ls.length:Int):=by omega
  go_wp2;simp only[HVE.out,HB0.out,ei];refine bodyPost_ret (results_cell_row rfl _ _ (B0+1) 57 #[.int .i64 2,.int .i64 (en:Int)] (0,0) _ rfl (by rw[←HB0.out];exact Qax w _ _ _) Tryz.underlying57 rfl Tryz.faultInfo) rfl ?_;exact⟨2,(en:Nat),rfl,.inl ⟨h20,rfl,by rw[HEN.out]⟩,(by have:=HB0.out;subst this;exact Below.new2 _ _ _)⟩
 ·
  have q20:¬((20:Int)<(ls.length:Int)):=by omega
  go_wp2_with fail;simp only[HVE.out,HB0.out,ei];clear x1 x2 y0 y1 g0 g1;go_loopw [21] (fun iv wr=>∃k:Nat,k≤ls.length∧iv=.int .i64 k∧(∀(i:Nat) (x:L3),i<k→ls[i]?=some x→IsJ nj x.j)∧Below V.heap.size V wr) (fun iv _=>ls.length - (intOf iv).toNat)
  case atStart=>exact⟨0,by omega,rfl,fun i x hi=>by omega,Below.refl _ _⟩
  case round=>
   obtain⟨k,hk,rfl,hall,hb⟩:=hrel;have HA:=Hi hall;have HB:=Hi hb;have HX:=Hi (HS0.out.below hb HS0.out.lt);have HE1:=Hi (HS1.out.below hb HS1.out.lt);clear hall hb;by_cases hlt:k<ls.length
   ·
    obtain⟨l,hl⟩:∃l,ls[k]?=some l:=⟨ls[k],List.getElem?_eq_getElem hlt⟩;obtain⟨lb,lo,rfl,hlb,d0,d1,d2⟩:=(HL.out.below (HBV.out.trans (HB.out.mono HBV.out.size))).load hl;have x0:wr.cell? ⟨B0,0,none⟩=some (.slice a1 nj c1):=HX.out.cell 0;have q1:((k:Int)<(ls.length:Int)):=by omega
    have HLK:=Hi hl;have wE:IntKind.i64.wrap ((en:Int)+(k:Int))=(en:Int)+(k:Int):=wrap_i64 _ (by omega) (by omega);clear hl;by_cases hj:IsJ nj l.j
    ·
     have HJ:=Hi (fun u=>Qa2 a1 nj c1 l.j u hj);have HJJ:=Hi hj;clear hj;go_wp2_with fail;go_region_held3 (fun v=>v.cell? ⟨B0,0,none⟩=some (.slice a1 nj c1)∧v.cell? ⟨lb,lo+k*3,none⟩=some (.int .i64 l.j)) ((first|(simp [*];done)|go_keep)) (first
      |(
       go_at_call 126;apply Calls.mono;apply HJ.out
       rintro e v1 ⟨rfl,rfl⟩)
      |fail)
     go_wp2;go_roundw
     case rel=>
      refine⟨k+1,by omega,by go_num,fun i x hi hx=>?_,HB.out.drew⟩;rcases Nat.lt_or_ge i k with h|h
      · exact HA.out i x h hx
      ·
       obtain rfl:i=k:=by omega
       rw[←Option.some.inj (HLK.out.symm.trans hx)];exact HJJ.out
     case measure=>simp[intOf];omega
    ·
     have HJ:=Hi (fun u=>Qdt a1 nj c1 l.j u hj);have HJJ:=Hi hj;have y0:wr.cell? ⟨B0+1,0,none⟩=some (.int .i64 0):=HE1.out.cell 0;have y1:wr.cell? ⟨B0+1,1,none⟩=some (.int .i64 0):=HE1.out.cell 1;have g0:wr.frozen? ⟨B0+1,0,none⟩=false:=HE1.out.free 0;have g1:wr.frozen? ⟨B0+1,1,none⟩=false:=HE1.out.free 1;clear hj;go_wp2_with fail;go_region_held3 (fun v=>v.cell? ⟨B0,0,none⟩=some (.slice a1 nj c1)∧v.cell? ⟨lb,lo+k*3,none⟩=some (.int .i64 l.j)) ((first|(simp [*];done)|go_keep)) (first
      |(
       go_at_call 126;apply Calls.mono;apply HJ.out
       rintro e v1 ⟨rfl,rfl⟩)
      |fail)
     go_wp2;refine bodyPost_ret (results_cell_row rfl _ _ (B0+1) 57 #[.int .i64 (4),.int .i64 ((en:Int)+(k:Int))] (0,0) _ rfl ((HE1.out.set 0 _).set 1 _) Tryz.underlying57 rfl Tryz.faultInfo) rfl ?_;exact⟨4,_,rfl,.inr ⟨by omega,.inl ⟨k,l,HLK.out,HA.out,HJJ.out,rfl,by rw[HEN.out]⟩⟩,(((HBV.out.trans (HB.out.mono HBV.out.size)).setCell (p:=⟨B0+1,0,none⟩) hle _).setCell (p:=⟨B0+1,1,none⟩) hle _).drew⟩
   ·
    obtain rfl:k=ls.length:=by omega
    have y0:wr.cell? ⟨B0+1,0,none⟩=some (.int .i64 0):=HE1.out.cell 0;have y1:wr.cell? ⟨B0+1,1,none⟩=some (.int .i64 0):=HE1.out.cell 1;have g0:=HE1.out.free 0;have g1:=HE1.out.free 1;go_wp2;refine bodyPost_ret (results_cell_row rfl _ _ (B0+1) 57 #[.int .i64 (0),.int .i64 (0)] (0,0) _ rfl ((HE1.out.set 0 _).set 1 _) Tryz.underlying57 rfl Tryz.faultInfo) rfl ?_;exact⟨0,0,rfl,.inr ⟨by omega,.inr ⟨fun i x hx=>HA.out i x (List.getElem?_eq_some_iff.1 hx).1 hx,rfl,rfl⟩⟩,((HBV.out.trans (HB.out.mono HBV.out.size)).setCell (p:=⟨B0+1,0,none⟩) hle _).setCell (p:=⟨B0+1,1,none⟩) hle _⟩
end Go.Proofs.YtbbkamnfjejceaaGreatDoor
