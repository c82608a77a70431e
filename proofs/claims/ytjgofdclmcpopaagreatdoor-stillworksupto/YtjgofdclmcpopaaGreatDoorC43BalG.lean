import Derived.Test.YtjgofdclmcpopaaGreatDoorC42BalC
import Derived.Test.YtjgofdclmcpopaaGreatDoorC40RowsR
namespace Go.Proofs.YtjgofdclmcpopaaGreatDoor
open Go.RowKit
open Go.Proofs.Tryz
set_option linter.unusedSimpArgs false
set_option linter.unusedVariables false
set_option maxHeartbeats 8000000
set_option maxRecDepth 1000000
theorem Qlz{P:Program}{fn:Func}{p u v x:Tmp}{ty:TypeId}(h:fn.results=#[.tmp u,.tmp v,.tmp x,.cell p ty])(tmps:Array Value)(w:World)(g:Nat)(t:TypeId)(cs:Array Value)(fr:Nat × Nat)(d:TypeDesc)
 (hp:tmps.getD p undef=.pointer (some ⟨g,0,none⟩)) (hg:w.heap[g]?=some (.cells cs t fr))
 (hu:P.underlying ty=some d) (hd:(match d with| .struct _| .array _ _=>true|_=>false)=true) (hi:(P.info? ty).map (·.size)=some cs.size):
 (results fn tmps).run P w=.ok (.tuple #[tmps.getD u undef,tmps.getD v undef,tmps.getD x undef,.agg cs]) w:=by
 have hp':tmps[p]?.getD undef=.pointer (some ⟨g,0,none⟩):=by simpa using hp
 simp[results,h,hp',asAddr,run_loadVar_row w g t ty cs fr d hg hu hd hi]
theorem GM.rows{w u:World}{B G W K:Nat}{gs:List Nat}{M:Nat->Nat->Rat}(h:GM w u B G W K gs M)(hz:∀r c,W<=c->M r c=0):
 ∃rs:List MR,rs.length=gs.length/\QMat u (some ⟨G,0,none⟩) gs.length W rs/\Oks u W K rs/\(∀r,r∈ rs->∀t,t∈ r.ts->t.k<=K)/\rs.map MR.q=(List.range gs.length).map M:=by
 have hex:∀r:Nat,∃m:MR,∀g,gs[r]?=some g->m.a=some ⟨g,0,none⟩/\m.cap=W/\m.ts.length=W/\QBlk u g m.ts/\∀(c:Nat) (t:FE),m.ts[c]?=some t->t.q=M r c/\t.k<=K:=fun r=>by
  rcases hr:gs[r]? with _|g
  . exact⟨MR.none,fun g hg=>by cases hg⟩
  . obtain⟨us,h1,h2,h3⟩:=h.row r g hr
    exact⟨⟨some ⟨g,0,none⟩,W,us⟩,fun g' hg'=>by cases hg';exact⟨rfl,rfl,h2,h1,h3⟩⟩
 obtain⟨f,hf⟩:=Classical.axiomOfChoice hex;have hat:∀r,r<gs.length->∃g,gs[r]?=some g/\(f r).a=some ⟨g,0,none⟩/\(f r).cap=W/\(f r).ts.length=W/\QBlk u g (f r).ts/\∀(c:Nat) (t:FE),(f r).ts[c]?=some t->t.q=M r c/\t.k<=K:=fun r hr=>⟨gs[r],gE hr,hf r _ (gE hr)⟩
 have hmem:∀m,m∈ (List.range gs.length).map f->∃r,r<gs.length/\f r=m:=fun m hm=>by
  obtain⟨r,hr,rfl⟩:=List.mem_map.1 hm;exact⟨r,List.mem_range.1 hr,rfl⟩
 have hcells:(gs.map (slRow W)).toArray.toList=((List.range gs.length).map f).flatMap MR.cells:=by
  rw[Qef,List.map_map];apply List.ext_getElem?;intro i;simp only[List.getElem?_map,Function.comp];rcases Nat.lt_or_ge i gs.length with hi|hi
  .
   obtain⟨g,h1,h2,h3,h4,_⟩:=hat i hi;rw[h1,List.getElem?_range hi];simp[slRow,MR.val,h2,h3,h4]
  . rw[List.getElem?_eq_none hi,List.getElem?_eq_none (by simpa using hi)]
    rfl
 have hrow:∀m,m∈ (List.range gs.length).map f->QRow u m.a m.cap m.ts/\m.ts.length=W/\∀t,t∈ m.ts->t.k<=K:=fun m hm=>by
  obtain⟨r,hr,rfl⟩:=hmem m hm;obtain⟨g,h1,h2,h3,h4,h5,h6⟩:=hat r hr;refine⟨?_,h4,fun t ht=>?_⟩
  . rw[h2,h3,<-h4]
    exact h5.row
  . obtain⟨i,hi,he⟩:=List.getElem_of_mem ht
    exact(h6 i t (by rw[<-he];exact gE hi)).2
 refine⟨(List.range gs.length).map f,by simp,⟨h.o.arow hcells (by simp),fun m hm=>⟨(hrow m hm).1,(hrow m hm).2.1⟩⟩,fun m hm=>⟨(hrow m hm).1,(hrow m hm).2.1,(hrow m hm).2.2⟩,fun m hm=>(hrow m hm).2.2,?_⟩;rw[List.map_map];apply List.map_congr_left;intro r hr;obtain⟨g,h1,h2,h3,h4,h5,h6⟩:=hat r (List.mem_range.1 hr);funext c
 show (f r).q c=M r c
 rcases Nat.lt_or_ge c W with hc|hc
 .
  obtain⟨t,ht⟩:∃t,(f r).ts[c]?=some t:=⟨(f r).ts[c]'(by omega),gE (by omega)⟩;rw[MR.q_at ht];exact(h6 c t ht).1
 . rw[MR.q_beyond (by omega),hz r c hc]
theorem Qbv{vb:List (Nat × Nat × Rat × Rat)}{vh:List Nat}{nb nh:Nat}(h1:vb.length=nb)(h2:vh.length=nh):∀r c,nb+nh<=c->balM vb nb vh r c=0:=by
 intro r c hc;have e1:vb[c]?=none:=List.getElem?_eq_none (by omega);have e2:vh[c - nb]?=none:=List.getElem?_eq_none (by omega);simp only[balM,e1,e2]
theorem Qeo(a1 a2 a3:Option Addr)(c1 c2 c3:Nat)(js:List S2)(bs:List B6)(hs:List H3)(w:World)(hg:Glob w)(hf:FrRow w a1 a2 a3 c1 c2 c3 js bs hs)(hz:FrSized js bs hs)(hok:FrameFault js bs hs 0 0):
 Calls prog 30 #[.agg #[.slice a1 js.length c1,.slice a2 bs.length c2,.slice a3 hs.length c3]] w fun e w'=>e=.returned (.agg #[.int .i64 0,.int .i64 0])/\Below w.heap.size w w':=by
 refine(Qkb a1 a2 a3 c1 c2 c3 js bs hs w hg hf hz).mono ?_;rintro e w' ⟨c,at_,rfl,hff,hb⟩;obtain⟨rfl,rfl⟩:=hff.inj hok;exact⟨rfl,hb⟩
structure FrV (n:Nat) (js:List S2) (bs:List B6) (hs:List H3) (vb:List (Nat × Nat × Rat × Rat)) (vh:List Nat):Prop where
 j:js.length<=10
 b:bs.length<=24
 h:hs.length<=20
 lb:vb.length=bs.length
 lh:vh.length=hs.length
 vb:∀(i:Nat) (b:B6) (p:Nat × Nat × Rat × Rat),bs[i]?=some b->vb[i]?=some p->BarV n js b p
 vh:∀(i:Nat) (h:H3) (r:Nat),hs[i]?=some h->vh[i]?=some r->HoldV js.length h r
 n:n<=1048576
def balRows(nj:Nat)(vb:List (Nat × Nat × Rat × Rat))(nb:Nat)(vh:List Nat):List Vec:=(List.range (2*nj)).map (balM vb nb vh)
theorem Qep(a1 a2 a3:Option Addr)(c1 c2 c3 n K:Nat)(js:List S2)(bs:List B6)(hs:List H3)(vb:List (Nat × Nat × Rat × Rat))(vh:List Nat)(w:World)(hg:Glob w)(hf:FrRow w a1 a2 a3 c1 c2 c3 js bs hs)(hv:FrV n js bs hs vb vh)(hK:4*n+1+(4*n+1)+1<=K):
 Calls prog 117 #[.agg #[.slice a1 js.length c1,.slice a2 bs.length c2,.slice a3 hs.length c3]] w fun e w'=>∃(N G:Nat) (rs:List MR),N=2*js.length/\e=.returned (.slice (some ⟨G,0,none⟩) N N)/\rs.length=N/\QMat w' (some ⟨G,0,none⟩) N (bs.length+hs.length) rs/\Oks w' (bs.length+hs.length) K rs/\(∀r,r∈ rs->∀t,t∈ r.ts->t.k<=K)/\rs.map MR.q=balRows js.length vb bs.length vh/\Below w.heap.size w w':=by
 refine(Qly a1 a2 a3 c1 c2 c3 n K js bs hs vb vh w hg hf hv.j hv.b hv.h hv.lb hv.lh hv.vb hv.vh hv.n hK).mono ?_;rintro e w' ⟨N,W,G,gs,rfl,rfl,rfl,hgl,hbm⟩;obtain⟨rs,h1,h2,h3,h4,h5⟩:=hbm.rows (Qbv hv.lb hv.lh);rw[hgl] at h1 h2 h5;exact⟨_,G,rs,rfl,rfl,h1,h2,h3,h4,h5,hbm.base⟩
theorem Qgw(a1 a2 a3:Option Addr)(c1 c2 c3 n K:Nat)(js:List S2)(bs:List B6)(hs:List H3)(vb:List (Nat × Nat × Rat × Rat))(vh:List Nat)(w:World)(hg:Glob w)(hf:FrRow w a1 a2 a3 c1 c2 c3 js bs hs)(hz:FrSized js bs hs)(hok:FrameFault js bs hs 0 0)(hv:FrV n js bs hs vb vh)(hK:4*n+1+(4*n+1)+1<=K)(hK4:4*K+1<68719476000)
 (I:Nat->List Vec->List Vec->List Nat->Prop) (hI:Going K I) (h0:I 0 (balRows js.length vb bs.length vh) [] []):
 Calls prog 39 #[.agg #[.slice a1 js.length c1,.slice a2 bs.length c2,.slice a3 hs.length c3]] w fun e w'=>(∃(L S:List Vec) (hh:List Nat),e=.returned (.tuple #[.int .i64 (S.length:Nat),.int .i64 ((bs.length:Int)+(hs.length:Int) - (S.length:Nat)),.int .i64 (2*(js.length:Int) - (S.length:Nat)),.agg #[.int .i64 0,.int .i64 0]])/\S.length<=bs.length+hs.length/\I (bs.length+hs.length) L S hh)/\Below w.heap.size w w':=by
 obtain⟨HG,HF,HZ,HOK,HV,HI,H0⟩:=If hg hf hz hok hv hI h0;have n1:=hv.j;have n2:=hv.b;have n3:=hv.h;clear hg hf hz hok hv hI h0;obtain⟨B0,hB0⟩:=nm w.heap.size;obtain⟨V0,hV0⟩:=nm ((w.alloc (.cells #[.slice a1 js.length c1,.slice a2 bs.length c2,.slice a3 hs.length c3] 54)).alloc (.cells #[.int .i64 0,.int .i64 0] 57));have HBV0:=Ub hV0;have HS0:=Ug hV0 hB0;have HS1:=Uh hV0 hB0;obtain⟨HVE,HB0,HCK⟩:=Ib hV0 hB0 (Qeo a1 a2 a3 c1 c2 c3 js bs hs V0 (HG.o.below HBV0.o) (HF.o.below HBV0.o) HZ.o HOK.o);clear hV0 hB0
 go_enter func39,ntmps39;go_wp2_with fail;rw[HVE.o,HB0.o];clear HVE;go_fit HCK.o;rintro e w1 ⟨rfl,hb1⟩;have hs0:=HS0.o.below hb1 HS0.o.lt;have hs1:=HS1.o.below hb1 HS1.o.lt;obtain⟨V,hV⟩:=nm ((w1.setCell ⟨B0+1,0,none⟩ (.int .i64 0)).setCell ⟨B0+1,1,none⟩ (.int .i64 0));have ho:Only (B0+1) w1 V:=by rw[<-hV];exact((Only.refl _ _).setCell _ _).setCell _ _
 have HX0:O (SB V B0 54 #[.slice a1 js.length c1,.slice a2 bs.length c2,.slice a3 hs.length c3]):=Hi (hs0.only ho (by omega));have HX1:O (SB V (B0+1) 57 #[.int .i64 0,.int .i64 0]):=Hi (by rw[<-hV];exact(hs1.set 0 _).set 1 _);have HBV:O (Below w.heap.size w V):=Hi ((HBV0.o.trans (hb1.mono HBV0.o.size)).trans (ho.below (by have:=HB0.o;omega) (HBV0.o.trans (hb1.mono HBV0.o.size)).size));obtain⟨z0,z1,-⟩:=zc hs1;have f0:=hs1.free 0;have f1:=hs1.free 1;obtain⟨k0,k1,-⟩:=zc HX1.o;have HVV:=Hi hV;rw[<-hV] at k0 k1;clear hb1 hs0 hs1 ho HS0 HS1 HCK hV;go_wp2_with fail;rw[HVV.o];have HBX:=HX0;have x0:V.cell? ⟨B0,0,none⟩=some (.slice a1 js.length c1):=by
  have h:=HBX.o.cell 0
  simpa using h
 have x1:V.cell? ⟨B0,1,none⟩=some (.slice a2 bs.length c2):=by
  have h:=HBX.o.cell 1
  simpa using h
 have x2:V.cell? ⟨B0,2,none⟩=some (.slice a3 hs.length c3):=by
  have h:=HBX.o.cell 2
  simpa using h
 clear z0 z1 f0 f1 k0 k1;have HU0:O (Below V.heap.size V V):=Hi bR;obtain⟨HOF,HPT,HWY⟩:=Ib (fun u (hu:Below V.heap.size V u)=>Qep a1 a2 a3 c1 c2 c3 n K js bs hs vb vh u (HG.o.below (HBV.o.trans (hu.mono HBV.o.size))) (HF.o.below (HBV.o.trans (hu.mono HBV.o.size))) HV.o hK) (fun u=>Qei a1 a2 a3 c1 c2 c3 js.length bs.length hs.length u n2 n3) (fun u=>Qej a1 a2 a3 c1 c2 c3 js.length bs.length hs.length u n1);obtain⟨W,hW⟩:=nm (bs.length+hs.length);obtain⟨N0,hN0⟩:=nm (2*js.length);have eW:(bs.length:Int)+(hs.length:Int)=(W:Int):=by omega
 have eN:2*(js.length:Int)=(N0:Int):=by omega
 simp only[eW] at HPT;simp only[eN] at HWY;rw[hW] at HOF;obtain⟨HWE,HNE,HWI,HNI⟩:=Ic hW hN0 eW eN;have hW100:W<=100:=by omega
 have hN100:N0<=100:=by omega
 have hK0:0<K:=by omega
 clear eW eN hW hN0;go_region_held3 (fun v=>v.cell? ⟨B0,0,none⟩=some (.slice a1 js.length c1)/\v.cell? ⟨B0,1,none⟩=some (.slice a2 bs.length c2)/\v.cell? ⟨B0,2,none⟩=some (.slice a3 hs.length c3)) ((first|(simp [*];done)|go_keep)) (first
  |(
   go_at_call 117;apply cM;apply HOF.o;(first|exact HU0.o|exact HU0.o.drew);rintro e v1 ⟨N,G,rs,hN,rfl,hrl,hqm,hoks,_,hq,hb1⟩;obtain rfl:N0=N:=by rw[hN];exact HNE.o.symm
   obtain⟨HRL,HQM,HOKS,HQ⟩:=Ic hrl hqm.row hoks hq;clear hN hrl hqm hoks hq;have HU1:O (Below V.heap.size V v1):=Hi ((by first|exact HU0.o|exact HU0.o.drew:Below V.heap.size V _).trans (hb1.mono (by first|exact HU0.o.size|exact HU0.o.drew.size)));clear hb1 HU0 x0 x1 x2 HBX;have HBX:=Hi (HX0.o.below HU1.o HX0.o.lt);have x0:v1.cell? ⟨B0,0,none⟩=some (.slice a1 js.length c1):=by
    have h:=HBX.o.cell 0
    simpa using h
   have x1:v1.cell? ⟨B0,1,none⟩=some (.slice a2 bs.length c2):=by
    have h:=HBX.o.cell 1
    simpa using h
   have x2:v1.cell? ⟨B0,2,none⟩=some (.slice a3 hs.length c3):=by
    have h:=HBX.o.cell 2
    simpa using h
   skip)
  |(
   go_at_call 118;apply cM;apply HPT.o;rintro e v2 ⟨rfl,hb2⟩;(first
     |have HB12:O (Below v1.heap.size v1 v2):=Hi hb2
     |have HB12:O (Below v1.heap.size v1 v2):=Hi (bR.drew.trans hb2))
   have HU2:O (Below V.heap.size V v2):=Hi ((by first|exact HU1.o|exact HU1.o.drew:Below V.heap.size V _).trans (hb2.mono (by first|exact HU1.o.size|exact HU1.o.drew.size)));clear hb2 HU1 x0 x1 x2 HBX;have HBX:=Hi (HX0.o.below HU2.o HX0.o.lt);have x0:v2.cell? ⟨B0,0,none⟩=some (.slice a1 js.length c1):=by
    have h:=HBX.o.cell 0
    simpa using h
   have x1:v2.cell? ⟨B0,1,none⟩=some (.slice a2 bs.length c2):=by
    have h:=HBX.o.cell 1
    simpa using h
   have x2:v2.cell? ⟨B0,2,none⟩=some (.slice a3 hs.length c3):=by
    have h:=HBX.o.cell 2
    simpa using h
   skip)
  |(
   go_at_call 116;apply cM
   (have HRK:=Qt9 (some ⟨G,0,none⟩) N0 W K rs v2 I HI.o (HQM.o.below HB12.o) (HOKS.o.fr (Fr.of_below HB12.o)) (by rw[HRL.o];omega) (by omega) hK0 hK4 (by rw[HQ.o];exact H0.o)
    rw[HRL.o] at HRK
    exact HRK)
   rintro e v3 ⟨⟨L,S,hh,rfl,hSl,hi⟩,hb3⟩;have HJ:=Hi hi;clear hi;have HU3:O (Below V.heap.size V v3):=Hi ((by first|exact HU2.o|exact HU2.o.drew:Below V.heap.size V _).trans (hb3.mono (by first|exact HU2.o.size|exact HU2.o.drew.size)));clear hb3 HU2 x0 x1 x2 HBX;have HBX:=Hi (HX0.o.below HU3.o HX0.o.lt);have x0:v3.cell? ⟨B0,0,none⟩=some (.slice a1 js.length c1):=by
    have h:=HBX.o.cell 0
    simpa using h
   have x1:v3.cell? ⟨B0,1,none⟩=some (.slice a2 bs.length c2):=by
    have h:=HBX.o.cell 1
    simpa using h
   have x2:v3.cell? ⟨B0,2,none⟩=some (.slice a3 hs.length c3):=by
    have h:=HBX.o.cell 2
    simpa using h
   skip)
  |fail)
 have hWI:IntKind.i64.wrap ((W:Int) - (S.length:Int))=(W:Int) - (S.length:Int):=Qac _ (by omega) (by omega);have hNI:IntKind.i64.wrap ((N0:Int) - (S.length:Int))=(N0:Int) - (S.length:Int):=Qac _ (by omega) (by omega);have HY1:=Hi (HX1.o.below HU3.o HX1.o.lt);clear HQM HOKS HQ HB12 HOF;go_wp2_with fail;go_region_held3 (fun v=>v.cell? ⟨B0,0,none⟩=some (.slice a1 js.length c1)/\v.cell? ⟨B0,1,none⟩=some (.slice a2 bs.length c2)/\v.cell? ⟨B0,2,none⟩=some (.slice a3 hs.length c3)) ((first|(simp [*];done)|go_keep)) (first
  |(
   go_at_call 118;apply cM;apply HPT.o;rintro e v4 ⟨rfl,hb4⟩;have HU4:O (Below V.heap.size V v4):=Hi ((by first|exact HU3.o|exact HU3.o.drew:Below V.heap.size V _).trans (hb4.mono (by first|exact HU3.o.size|exact HU3.o.drew.size)));clear hb4 HU3 x0 x1 x2 HBX;have HBX:=Hi (HX0.o.below HU4.o HX0.o.lt);have x0:v4.cell? ⟨B0,0,none⟩=some (.slice a1 js.length c1):=by
    have h:=HBX.o.cell 0
    simpa using h
   have x1:v4.cell? ⟨B0,1,none⟩=some (.slice a2 bs.length c2):=by
    have h:=HBX.o.cell 1
    simpa using h
   have x2:v4.cell? ⟨B0,2,none⟩=some (.slice a3 hs.length c3):=by
    have h:=HBX.o.cell 2
    simpa using h
   skip)
  |(
   go_at_call 119;apply cM;apply HWY.o;rintro e v5 ⟨rfl,hb5⟩;have HU5:O (Below V.heap.size V v5):=Hi ((by first|exact HU4.o|exact HU4.o.drew:Below V.heap.size V _).trans (hb5.mono (by first|exact HU4.o.size|exact HU4.o.drew.size)));clear hb5 HU4 x0 x1 x2 HBX;have HBX:=Hi (HX0.o.below HU5.o HX0.o.lt);have x0:v5.cell? ⟨B0,0,none⟩=some (.slice a1 js.length c1):=by
    have h:=HBX.o.cell 0
    simpa using h
   have x1:v5.cell? ⟨B0,1,none⟩=some (.slice a2 bs.length c2):=by
    have h:=HBX.o.cell 1
    simpa using h
   have x2:v5.cell? ⟨B0,2,none⟩=some (.slice a3 hs.length c3):=by
    have h:=HBX.o.cell 2
    simpa using h
   obtain⟨y0,y1,-⟩:=zc (HX1.o.below HU5.o HX1.o.lt);have g0:=(HX1.o.below HU5.o HX1.o.lt).free 0;have g1:=(HX1.o.below HU5.o HX1.o.lt).free 1
   skip)
  |fail)
 obtain⟨HY5,HBE⟩:=Ia (HX1.o.below HU5.o HX1.o.lt) (HBV.o.trans (HU5.o.mono HBV.o.size));have hle:w.heap.size<=B0+1:=by have:=HB0.o;omega
 clear x0 x1 x2 y0 y1 g0 g1 hWI hNI;go_wp2;refine bodyPost_ret (Qlz rfl _ _ (B0+1) 57 #[.int .i64 0,.int .i64 0] (0,0) _ rfl ((HY5.o.set 0 _).set 1 _) underlying57 rfl Tryz.faultInfo) rfl ?_;exact⟨⟨L,S,hh,by rw[HWI.o,HNI.o];rfl,by rw[HWE.o];exact hSl,by rw[HWE.o];exact HJ.o⟩,(HBE.o.setCell (p:=⟨B0+1,0,none⟩) hle _).setCell (p:=⟨B0+1,1,none⟩) hle _⟩
def LoadsFault(nj en:Nat)(ls:List L3)(c at_:Int):Prop:=
 (20<ls.length/\c=2/\at_=(en:Nat))∨
 (ls.length<=20/\((∃(k:Nat) (l:L3),ls[k]?=some l/\(∀(i:Nat) (x:L3),i<k->ls[i]?=some x->IsJ nj x.j)/\¬IsJ nj l.j/\c=4/\at_=(en:Nat)+(k:Nat))∨
 ((∀(i:Nat) (x:L3),ls[i]?=some x->IsJ nj x.j)/\c=0/\at_=0)))
theorem Ql0(a1 a2 a3 al:Option Addr)(c1 c2 c3 cl nj nb nh:Nat)(ls:List L3)(w:World)(hl:ARow L3.cells w al cl ls)(n1:nj<=10)(n2:nb<=24)(n3:nh<=20)(hll:ls.length<=9223372036854775807):
 Calls prog 131 #[.agg #[.slice a1 nj c1,.slice a2 nb c2,.slice a3 nh c3],.slice al ls.length cl] w fun e w'=>∃c at_,e=.returned (.agg #[.int .i64 c,.int .i64 at_])/\LoadsFault nj (nb+nh) ls c at_/\Below w.heap.size w w':=by
 have HL:=Hi hl;clear hl;obtain⟨B0,hB0⟩:=nm w.heap.size;obtain⟨V,hV⟩:=nm ((w.alloc (.cells #[.slice a1 nj c1,.slice a2 nb c2,.slice a3 nh c3] 54)).alloc (.cells #[.int .i64 0,.int .i64 0] 57));have HBV:=Ub hV;have HS0:=Ug hV hB0;have HS1:=Uh hV hB0;obtain⟨en,hen⟩:=nm (nb+nh);have ei:(nb:Int)+(nh:Int)=(en:Int):=by omega
 obtain⟨-,x1,x2,-⟩:=zc HS0.o;obtain⟨y0,y1,-⟩:=zc HS1.o;have g0:=HS1.o.free 0;have g1:=HS1.o.free 1;rw[<-hV,<-hB0] at x1 x2 y0 y1 g0 g1;obtain⟨HVE,HB0,HEN⟩:=Ib hV hB0 hen;have hle:w.heap.size<=B0+1:=by omega
 have hen44:en<=44:=by omega
 clear hV hB0 hen;go_enter func131,ntmps131;by_cases h20:20<ls.length
 .
  have q20:(20:Int)<(ls.length:Int):=by omega
  go_wp2;simp only[HVE.o,HB0.o,ei];refine bodyPost_ret (results_cell_row rfl _ _ (B0+1) 57 #[.int .i64 2,.int .i64 (en:Int)] (0,0) _ rfl (by rw[<-HB0.o];exact Qax w _ _ _) underlying57 rfl Tryz.faultInfo) rfl ?_;exact⟨2,(en:Nat),rfl,.inl ⟨h20,rfl,by rw[HEN.o]⟩,(by have:=HB0.o;subst this;exact Below.new2 _ _ _)⟩
 .
  have q20:¬((20:Int)<(ls.length:Int)):=by omega
  go_wp2_with fail;simp only[HVE.o,HB0.o,ei];clear x1 x2 y0 y1 g0 g1;go_loopw [21] (fun iv wr=>∃k:Nat,k<=ls.length/\iv=.int .i64 k/\(∀(i:Nat) (x:L3),i<k->ls[i]?=some x->IsJ nj x.j)/\Below V.heap.size V wr) (fun iv _=>ls.length - (intOf iv).toNat)
  case atStart=>exact⟨0,by omega,rfl,fun i x hi=>by omega,Below.refl _ _⟩
  case round=>
   obtain⟨k,hk,rfl,hall,hb⟩:=hrel;obtain⟨HA,HB,HX,HE1⟩:=Ic hall hb (HS0.o.below hb HS0.o.lt) (HS1.o.below hb HS1.o.lt);clear hall hb;by_cases hlt:k<ls.length
   .
    obtain⟨l,hl⟩:∃l,ls[k]?=some l:=⟨ls[k],gE hlt⟩;obtain⟨lb,lo,rfl,hlb,d0,d1,d2⟩:=(HL.o.below (HBV.o.trans (HB.o.mono HBV.o.size))).load hl;obtain⟨x0,-⟩:=zc HX.o;have q1:((k:Int)<(ls.length:Int)):=by omega
    have HLK:=Hi hl;have wE:IntKind.i64.wrap ((en:Int)+(k:Int))=(en:Int)+(k:Int):=Qac _ (by omega) (by omega);clear hl;by_cases hj:IsJ nj l.j
    .
     obtain⟨HJ,HJJ⟩:=Ia (fun u=>Qam a1 nj c1 l.j u hj) hj;clear hj;go_wp2_with fail;go_region_held3 (fun v=>v.cell? ⟨B0,0,none⟩=some (.slice a1 nj c1)/\v.cell? ⟨lb,lo+k*3,none⟩=some (.int .i64 l.j)) ((first|(simp [*];done)|go_keep)) (first
      |(
       go_at_call 180;apply cM;apply HJ.o
       rintro e v1 ⟨rfl,rfl⟩)
      |fail)
     go_wp2;go_roundw
     case rel=>
      refine⟨k+1,by omega,by go_num,fun i x hi hx=>?_,HB.o.drew⟩;rcases Nat.lt_or_ge i k with h|h
      . exact HA.o i x h hx
      .
       obtain rfl:i=k:=by omega
       rw[<-Option.some.inj (HLK.o.symm.trans hx)];exact HJJ.o
     case measure=>simp[intOf];omega
    .
     obtain⟨HJ,HJJ⟩:=Ia (fun u=>Qea a1 nj c1 l.j u hj) hj;obtain⟨y0,y1,-⟩:=zc HE1.o;have g0:wr.frozen? ⟨B0+1,0,none⟩=false:=HE1.o.free 0;have g1:wr.frozen? ⟨B0+1,1,none⟩=false:=HE1.o.free 1;clear hj;go_wp2_with fail;go_region_held3 (fun v=>v.cell? ⟨B0,0,none⟩=some (.slice a1 nj c1)/\v.cell? ⟨lb,lo+k*3,none⟩=some (.int .i64 l.j)) ((first|(simp [*];done)|go_keep)) (first
      |(
       go_at_call 180;apply cM;apply HJ.o
       rintro e v1 ⟨rfl,rfl⟩)
      |fail)
     go_wp2;refine bodyPost_ret (results_cell_row rfl _ _ (B0+1) 57 #[.int .i64 (4),.int .i64 ((en:Int)+(k:Int))] (0,0) _ rfl ((HE1.o.set 0 _).set 1 _) underlying57 rfl Tryz.faultInfo) rfl ?_;exact⟨4,_,rfl,.inr ⟨by omega,.inl ⟨k,l,HLK.o,HA.o,HJJ.o,rfl,by rw[HEN.o]⟩⟩,(((HBV.o.trans (HB.o.mono HBV.o.size)).setCell (p:=⟨B0+1,0,none⟩) hle _).setCell (p:=⟨B0+1,1,none⟩) hle _).drew⟩
   .
    obtain rfl:k=ls.length:=by omega
    obtain⟨y0,y1,-⟩:=zc HE1.o;have g0:=HE1.o.free 0;have g1:=HE1.o.free 1;go_wp2;refine bodyPost_ret (results_cell_row rfl _ _ (B0+1) 57 #[.int .i64 (0),.int .i64 (0)] (0,0) _ rfl ((HE1.o.set 0 _).set 1 _) underlying57 rfl Tryz.faultInfo) rfl ?_;exact⟨0,0,rfl,.inr ⟨by omega,.inr ⟨fun i x hx=>HA.o i x (gZ hx).1 hx,rfl,rfl⟩⟩,((HBV.o.trans (HB.o.mono HBV.o.size)).setCell (p:=⟨B0+1,0,none⟩) hle _).setCell (p:=⟨B0+1,1,none⟩) hle _⟩
theorem Qeq{P:Program}{fn:Func}{p u:Tmp}{ty ty':TypeId}(h:fn.results=#[.cell p ty,.cell u ty'])(tmps:Array Value)(w:World)(g g':Nat)(t t':TypeId)(cs cs':Array Value)(fr fr':Nat × Nat)(d d':TypeDesc)
 (hp:tmps.getD p undef=.pointer (some ⟨g,0,none⟩)) (hg:w.heap[g]?=some (.cells cs t fr)) (hp':tmps.getD u undef=.pointer (some ⟨g',0,none⟩)) (hg':w.heap[g']?=some (.cells cs' t' fr'))
 (hu:P.underlying ty=some d) (hd:(match d with| .struct _| .array _ _=>true|_=>false)=true) (hi:(P.info? ty).map (·.size)=some cs.size) (hu':P.underlying ty'=some d') (hd':(match d' with| .struct _| .array _ _=>true|_=>false)=true) (hi':(P.info? ty').map (·.size)=some cs'.size):
 (results fn tmps).run P w=.ok (.tuple #[.agg cs,.agg cs']) w:=by
 have e1:tmps[p]?.getD undef=.pointer (some ⟨g,0,none⟩):=by simpa using hp
 have e2:tmps[u]?.getD undef=.pointer (some ⟨g',0,none⟩):=by simpa using hp'
 simp[results,h,e1,e2,asAddr,run_loadVar_row w g t ty cs fr d hg hu hd hi,run_loadVar_row w g' t' ty' cs' fr' d' hg' hu' hd' hi']
def CarrySays(nb nh:Nat)(M:List Vec)(b:List Rat)(w:World)(e:Ending)(w':World):Prop:=
 ((e=.returned (.tuple #[.agg #[.slice none 0 0,.slice none 0 0],.agg #[.int .i64 8,.int .i64 0]])/\∀x,¬Sol (nb+nh) M b x)∨
  (e=.returned (.tuple #[.agg #[.slice none 0 0,.slice none 0 0],.agg #[.int .i64 9,.int .i64 0]])/\∃x y,Sol (nb+nh) M b x/\Sol (nb+nh) M b y/\∃c,c<nb+nh/\x c≠y c)∨
  (∃(g1 g2:Nat) (x y:List ByteArray) (us:List FE),e=.returned (.tuple #[.agg #[.slice (some ⟨g1,0,none⟩) nb nb,.slice (some ⟨g2,0,none⟩) nh nh],.agg #[.int .i64 0,.int .i64 0]])/\SB w' g1 23 (textsV x).toArray/\SB w' g2 23 (textsV y).toArray/\Told (us.take nb) x/\Told (us.drop nb) y/\us.length=nb+nh/\∀y,Sol (nb+nh) M b y↔∀(i:Nat) (t:FE),us[i]?=some t->y i=t.q))/\Below w.heap.size w w'
theorem Ql1{W K:Nat}{M:List Vec}{b:List Rat}{w w':World}{e:Ending}(h:Solved W K M b w e w'):∃(ra:Option Addr) (rn rc:Nat) (ev:Int),e=.returned (.tuple #[.slice ra rn rc,.int .i64 ev])/\Below w.heap.size w w'/\
 ((ev=8/\∀x,¬Sol W M b x)∨(ev=9/\∃x y,Sol W M b x/\Sol W M b y/\∃c,c<W/\x c≠y c)∨(ev=0/\∃(g:Nat) (us:List FE),ra=some ⟨g,0,none⟩/\rn=W/\rc=W/\QBlk w' g us/\us.length=W/\(∀t,t∈ us->t.k<=K)/\∀y,Sol W M b y↔∀(i:Nat) (t:FE),us[i]?=some t->y i=t.q)):=by
 obtain⟨h,hb⟩:=h;rcases h with ⟨rfl,h⟩|⟨rfl,h⟩|⟨g,us,rfl,h⟩
 . exact⟨_,_,_,_,rfl,hb,.inl ⟨rfl,h⟩⟩
 . exact⟨_,_,_,_,rfl,hb,.inr (.inl ⟨rfl,h⟩)⟩
 . exact⟨_,_,_,_,rfl,hb,.inr (.inr ⟨rfl,g,us,rfl,rfl,rfl,h⟩)⟩
theorem Qer{u:World}{g g':Nat}{x1 x2 y1 y2 z1 z2 k1 k2:Value}(hne:g≠g')(s:SB u g 90 #[z1,z2])(s':SB u g' 57 #[k1,k2]):
 SB ((((u.setCell ⟨g,0,none⟩ x1).setCell ⟨g,1,none⟩ x2).setCell ⟨g',0,none⟩ y1).setCell ⟨g',1,none⟩ y2) g 90 #[x1,x2]/\SB ((((u.setCell ⟨g,0,none⟩ x1).setCell ⟨g,1,none⟩ x2).setCell ⟨g',0,none⟩ y1).setCell ⟨g',1,none⟩ y2) g' 57 #[y1,y2]/\
  (∀(b:Nat) (t:TypeId) (C:Array Value),SB u b t C->b≠g->b≠g'->SB ((((u.setCell ⟨g,0,none⟩ x1).setCell ⟨g,1,none⟩ x2).setCell ⟨g',0,none⟩ y1).setCell ⟨g',1,none⟩ y2) b t C):=by
 refine⟨?_,?_,fun b t C hb h1 h2=>(((hb.other h1 0 x1).other h1 1 x2).other h2 0 y1).other h2 1 y2⟩
 . have:=(((s.set 0 x1).set 1 x2).other hne 0 y1).other hne 1 y2
   simpa using this
 . have:=(((s'.other hne.symm 0 x1).other hne.symm 1 x2).set 0 y1).set 1 y2
   simpa using this
theorem Qgx(a1 a2 a3 al:Option Addr)(c1 c2 c3 cl n K:Nat)(js:List S2)(bs:List B6)(hs:List H3)(vb:List (Nat × Nat × Rat × Rat))(vh:List Nat)(ls:List L3)(vs:List (Nat × Rat × Rat))(w:World)(hg:Glob w)(hf:FrRow w a1 a2 a3 c1 c2 c3 js bs hs)(hz:FrSized js bs hs)(hok:FrameFault js bs hs 0 0)(hv:FrV n js bs hs vb vh)
 (hl:ARow L3.cells w al cl ls) (hll:ls.length<=20) (hvl:vs.length=ls.length) (hlv:∀(i:Nat) (l:L3) (p:Nat × Rat × Rat),ls[i]?=some l->vs[i]?=some p->LoadV js.length l p) (hfit:∀k i,Fits (agn (vs.take k) i) K)
 (hK:4*n+1+(4*n+1)+1<=K) (hK4:4*K+1<68719476000)
 (I:Nat->List Vec->List Vec->List Nat->Prop) (hI:Going K I) (h0:I 0 (List.zipWith (wider (bs.length+hs.length)) (balRows js.length vb bs.length vh) ((List.range (2*js.length)).map (agn vs))) [] [])
 (hfin:∀L S hh,I (bs.length+hs.length+1) L S hh->Ech 0 (bs.length+hs.length+1) S hh/\(∀x,Null (bs.length+hs.length+1) (List.zipWith (wider (bs.length+hs.length)) (balRows js.length vb bs.length vh) ((List.range (2*js.length)).map (agn vs))) x↔Null (bs.length+hs.length+1) S x)/\clnFits K S hh):
 Calls prog 53 #[.agg #[.slice a1 js.length c1,.slice a2 bs.length c2,.slice a3 hs.length c3],.slice al ls.length cl] w (CarrySays bs.length hs.length (balRows js.length vb bs.length vh) ((List.range (2*js.length)).map (agn vs)) w):=by
 obtain⟨HG,HF,HZ,HOK,HV,HI,H0,HFIN,HL⟩:=Ih hg hf hz hok hv hI h0 hfin hl;obtain⟨HVL,HLV,HFIT⟩:=Ib hvl hlv hfit;have n1:=hv.j;have n2:=hv.b;have n3:=hv.h;clear hg hf hz hok hv hI h0 hfin hl hvl hlv hfit;obtain⟨B0,hB0⟩:=nm w.heap.size;obtain⟨V0,hV0⟩:=nm (((w.alloc (.cells #[.slice a1 js.length c1,.slice a2 bs.length c2,.slice a3 hs.length c3] 54)).alloc (.cells #[.slice none 0 0,.slice none 0 0] 90)).alloc (.cells #[.int .i64 0,.int .i64 0] 57));have HBV0:O (Below w.heap.size w V0):=Hi (by rw[<-hV0];exact(Below.new2 w _ _).alloc (by simp;omega) _);have HS0:O (SB V0 B0 54 #[.slice a1 js.length c1,.slice a2 bs.length c2,.slice a3 hs.length c3]):=Hi (by rw[<-hV0,<-hB0];exact((SB.new w _ _).alloc _).alloc _)
 have HS1:O (SB V0 (B0+1) 90 #[.slice none 0 0,.slice none 0 0]):=Hi (by rw[<-hV0,<-hB0];exact(Qax w _ _ _).alloc _);have HS2:O (SB V0 (B0+1+1) 57 #[.int .i64 0,.int .i64 0]):=Hi (by
  rw[<-hV0,<-hB0];have h:=Qax (w.alloc (.cells #[.slice a1 js.length c1,.slice a2 bs.length c2,.slice a3 hs.length c3] 54)) (.cells #[.slice none 0 0,.slice none 0 0] 90) 57 #[.int .i64 0,.int .i64 0];rw[World.size_alloc] at h
  exact h)
 obtain⟨HVE,HB0,HCK⟩:=Ib hV0 hB0 (Qeo a1 a2 a3 c1 c2 c3 js bs hs V0 (HG.o.below HBV0.o) (HF.o.below HBV0.o) HZ.o HOK.o);have hle:w.heap.size<=B0+1:=by omega
 clear hV0 hB0;go_enter func53,ntmps53;go_wp2_with fail;rw[HVE.o,HB0.o];clear HVE;go_fit HCK.o;rintro e w1 ⟨rfl,hb1⟩;obtain⟨V1,hV1⟩:=nm (w1.alloc (.cells #[.int .i64 0,.int .i64 0] 57));have hbV1:Below V0.heap.size V0 V1:=by rw[<-hV1];exact hb1.alloc hb1.size _
 have HBX:=Hi (HS0.o.below hbV1 HS0.o.lt);have x0:V1.cell? ⟨B0,0,none⟩=some (.slice a1 js.length c1):=by
  have h:=HBX.o.cell 0
  simpa using h
 have x1:V1.cell? ⟨B0,1,none⟩=some (.slice a2 bs.length c2):=by
  have h:=HBX.o.cell 1
  simpa using h
 have x2:V1.cell? ⟨B0,2,none⟩=some (.slice a3 hs.length c3):=by
  have h:=HBX.o.cell 2
  simpa using h
 have k0:V1.cell? ⟨w1.heap.size,0,none⟩=some (.int .i64 0):=by rw[<-hV1];exact(SB.new w1 _ _).cell 0
 rw[<-hV1] at x0 x1 x2 k0;obtain⟨HB1,HBV1⟩:=Ia (HBV0.o.trans (hbV1.mono HBV0.o.size)) hbV1;obtain⟨HCL,HV1⟩:=Ia (Ql0 a1 a2 a3 al c1 c2 c3 cl js.length bs.length hs.length ls V1 (HL.o.below HB1.o) n1 n2 n3 (by omega)) hV1;clear hV1 hbV1 hb1 HBX;go_wp2_with fail;rw[HV1.o];go_fit HCL.o;rintro e w2 ⟨c,at_,rfl,hlf,hb2⟩;obtain⟨rfl,rfl⟩:c=0/\at_=0:=by
  rcases hlf with ⟨h,_⟩|⟨_,⟨k,l,hk,_,hj,_⟩|⟨_,h1,h2⟩⟩
  . omega
  .
   obtain⟨p,hp⟩:∃p,vs[k]?=some p:=⟨vs[k]'(by have:=(gZ hk).1;have:=HVL.o;omega),gE _⟩;have h:=HLV.o k l p hk hp;exact absurd ⟨by rw[h.j];omega,by rw[h.j];have:=h.lt;omega⟩ hj
  . exact⟨h1,h2⟩
 obtain⟨V,hV⟩:=nm (w2.alloc (.cells #[.int .i64 0,.int .i64 0] 57));have hbV:Below V0.heap.size V0 V:=HBV1.o.trans ((show Below V1.heap.size V1 V by rw[<-hV];exact hb2.alloc hb2.size _).mono HBV1.o.size);obtain⟨HX0,HX1,HX2,HBV⟩:=Ic (HS0.o.below hbV HS0.o.lt) (HS1.o.below hbV HS1.o.lt) (HS2.o.below hbV HS2.o.lt) (HBV0.o.trans (hbV.mono HBV0.o.size));have HBX:=HX0;clear x0 x1 x2 k0;have x0:V.cell? ⟨B0,0,none⟩=some (.slice a1 js.length c1):=by
  have h:=HBX.o.cell 0
  simpa using h
 have x1:V.cell? ⟨B0,1,none⟩=some (.slice a2 bs.length c2):=by
  have h:=HBX.o.cell 1
  simpa using h
 have x2:V.cell? ⟨B0,2,none⟩=some (.slice a3 hs.length c3):=by
  have h:=HBX.o.cell 2
  simpa using h
 have k0:V.cell? ⟨w2.heap.size,0,none⟩=some (.int .i64 0):=by rw[<-hV];exact(SB.new w2 _ _).cell 0
 have HVV:=Hi hV;rw[<-hV] at x0 x1 x2 k0;clear hlf hb2 hV hbV HS0 HS1 HS2 HCK HCL HB1 HBV1 HV1;go_wp2_with fail;rw[HVV.o] at x0 x1 x2 ⊢;clear k0;have HU0:O (Below V.heap.size V V):=Hi bR;obtain⟨HOF,HPT,HAG⟩:=Ib (fun u (hu:Below V.heap.size V u)=>Qep a1 a2 a3 c1 c2 c3 n K js bs hs vb vh u (HG.o.below (HBV.o.trans (hu.mono HBV.o.size))) (HF.o.below (HBV.o.trans (hu.mono HBV.o.size))) HV.o hK) (fun u=>Qei a1 a2 a3 c1 c2 c3 js.length bs.length hs.length u n2 n3) (fun u (hu:Below V.heap.size V u)=>Qum a1 a2 a3 al c1 c2 c3 cl js.length bs.length hs.length K ls vs u (HG.o.below (HBV.o.trans (hu.mono HBV.o.size))) (HL.o.below (HBV.o.trans (hu.mono HBV.o.size))) (by omega) n1 HVL.o HLV.o (by omega) (by omega) HFIT.o);obtain⟨W,hW⟩:=nm (bs.length+hs.length);obtain⟨N0,hN0⟩:=nm (2*js.length)
 have eW:(bs.length:Int)+(hs.length:Int)=(W:Int):=by omega
 simp only[eW] at HPT;rw[hW] at HOF H0 HFIN;rw[hN0] at H0 HFIN;obtain⟨HWE,HNE⟩:=Ia hW hN0;have hW100:W<=100:=by omega
 have hN100:N0<=100:=by omega
 have hK0:0<K:=by omega
 clear eW hW hN0;go_region_held3 (fun v=>v.cell? ⟨B0,0,none⟩=some (.slice a1 js.length c1)/\v.cell? ⟨B0,1,none⟩=some (.slice a2 bs.length c2)/\v.cell? ⟨B0,2,none⟩=some (.slice a3 hs.length c3)) ((first|(simp [*];done)|go_keep)) (first
  |(
   go_at_call 117;apply cM;apply HOF.o;(first|exact HU0.o|exact HU0.o.drew);rintro e v1 ⟨N,G,rs,hN,rfl,hrl,hqm,hoks,hrk,hq,hb1⟩;obtain rfl:N0=N:=by rw[hN];exact HNE.o.symm
   obtain⟨HRL,HQM,HRK,HQ⟩:=Ic hrl hqm hrk hq;clear hN hrl hqm hoks hrk hq;have HU1:O (Below V.heap.size V v1):=Hi ((by first|exact HU0.o|exact HU0.o.drew:Below V.heap.size V _).trans (hb1.mono (by first|exact HU0.o.size|exact HU0.o.drew.size)));clear hb1 HU0 x0 x1 x2 HBX;have HBX:=Hi (HX0.o.below HU1.o HX0.o.lt);have x0:v1.cell? ⟨B0,0,none⟩=some (.slice a1 js.length c1):=by
    have h:=HBX.o.cell 0
    simpa using h
   have x1:v1.cell? ⟨B0,1,none⟩=some (.slice a2 bs.length c2):=by
    have h:=HBX.o.cell 1
    simpa using h
   have x2:v1.cell? ⟨B0,2,none⟩=some (.slice a3 hs.length c3):=by
    have h:=HBX.o.cell 2
    simpa using h
   skip)
  |(
   go_at_call 118;apply cM;apply HPT.o;rintro e v2 ⟨rfl,hb2⟩;(first
     |have HB12:O (Below v1.heap.size v1 v2):=Hi hb2
     |have HB12:O (Below v1.heap.size v1 v2):=Hi (bR.drew.trans hb2))
   have HU2:O (Below V.heap.size V v2):=Hi ((by first|exact HU1.o|exact HU1.o.drew:Below V.heap.size V _).trans (hb2.mono (by first|exact HU1.o.size|exact HU1.o.drew.size)));clear hb2 HU1 x0 x1 x2 HBX;have HBX:=Hi (HX0.o.below HU2.o HX0.o.lt);have x0:v2.cell? ⟨B0,0,none⟩=some (.slice a1 js.length c1):=by
    have h:=HBX.o.cell 0
    simpa using h
   have x1:v2.cell? ⟨B0,1,none⟩=some (.slice a2 bs.length c2):=by
    have h:=HBX.o.cell 1
    simpa using h
   have x2:v2.cell? ⟨B0,2,none⟩=some (.slice a3 hs.length c3):=by
    have h:=HBX.o.cell 2
    simpa using h
   skip)
  |(
   go_at_call 133;apply cM;apply HAG.o;(first|exact HU2.o|exact HU2.o.drew);rintro e v3 ⟨⟨ga,Na,ua,hNa,rfl,hqa,hla,hua⟩,hb3⟩;obtain rfl:N0=Na:=by rw[hNa];exact HNE.o.symm
   (first
     |have HB13:O (Below v1.heap.size v1 v3):=Hi (HB12.o.trans (hb3.mono HB12.o.size))
     |have HB13:O (Below v1.heap.size v1 v3):=Hi (HB12.o.trans (((bR.drew).trans hb3).mono HB12.o.size)))
   obtain⟨HQA,HLA,HUA⟩:=Ib hqa hla hua;clear hNa hqa hla hua;have HU3:O (Below V.heap.size V v3):=Hi ((by first|exact HU2.o|exact HU2.o.drew:Below V.heap.size V _).trans (hb3.mono (by first|exact HU2.o.size|exact HU2.o.drew.size)));clear hb3 HU2 x0 x1 x2 HBX;have HBX:=Hi (HX0.o.below HU3.o HX0.o.lt);have x0:v3.cell? ⟨B0,0,none⟩=some (.slice a1 js.length c1):=by
    have h:=HBX.o.cell 0
    simpa using h
   have x1:v3.cell? ⟨B0,1,none⟩=some (.slice a2 bs.length c2):=by
    have h:=HBX.o.cell 1
    simpa using h
   have x2:v3.cell? ⟨B0,2,none⟩=some (.slice a3 hs.length c3):=by
    have h:=HBX.o.cell 2
    simpa using h
   skip)
  |(
   go_at_call 132;apply cM
   (have hua:ua.map (·.q)=(List.range N0).map (agn vs):=by
     apply List.ext_getElem?;intro i;simp only[List.getElem?_map];rcases Nat.lt_or_ge i N0 with hi|hi
     .
      obtain⟨t,ht⟩:∃t,ua[i]?=some t:=⟨ua[i]'(by rw[HLA.o];exact hi),gE _⟩;rw[ht,List.getElem?_range hi];simp[(HUA.o i t ht).1]
     . rw[List.getElem?_eq_none (by rw[HLA.o];exact hi),List.getElem?_eq_none (by simpa using hi)]
       rfl
    have HSV:=Qua (some ⟨G,0,none⟩) (some ⟨ga,0,none⟩) N0 N0 W K rs ua v3 I HI.o (HQM.o.below HB13.o) HRK.o (by have h:=HQA.o.row;rw[HLA.o] at h;exact h) (fun t ht=>by obtain⟨i,hi,he⟩:=List.getElem_of_mem ht;exact(HUA.o i t (by rw[<-he];exact gE hi)).2) (by rw[HLA.o,HRL.o]) (by rw[HRL.o];omega) (by omega) hK0 hK4 (by rw[HQ.o,hua];exact H0.o) (by rw[HQ.o,hua];exact HFIN.o);rw[HRL.o,HQ.o,hua] at HSV
    exact HSV)
   rintro e v4 hres4;obtain⟨ra,rn,rc,ev,rfl,hb4,hres⟩:=Ql1 hres4;have HRES:=Hi hres;clear hres hres4;have HU4:O (Below V.heap.size V v4):=Hi ((by first|exact HU3.o|exact HU3.o.drew:Below V.heap.size V _).trans (hb4.mono (by first|exact HU3.o.size|exact HU3.o.drew.size)));clear hb4 HU3 x0 x1 x2 HBX;have HBX:=Hi (HX0.o.below HU4.o HX0.o.lt);have x0:v4.cell? ⟨B0,0,none⟩=some (.slice a1 js.length c1):=by
    have h:=HBX.o.cell 0
    simpa using h
   have x1:v4.cell? ⟨B0,1,none⟩=some (.slice a2 bs.length c2):=by
    have h:=HBX.o.cell 1
    simpa using h
   have x2:v4.cell? ⟨B0,2,none⟩=some (.slice a3 hs.length c3):=by
    have h:=HBX.o.cell 2
    simpa using h
   skip)
  |fail)
 clear HQM HRK HQ HQA HLA HUA HB12 HB13 HOF HPT HAG;rcases HRES.o with ⟨rfl,hno⟩|⟨rfl,hmany⟩|⟨rfl,g,us,hra,hrn,hrc,hqb,hul,huk,hone⟩
 .
  obtain⟨HY1,HY2⟩:=Ia (HX1.o.below HU4.o HX1.o.lt) (HX2.o.below HU4.o HX2.o.lt);obtain⟨y0,y1,-⟩:=zc HY1.o;obtain⟨y2,y3,-⟩:=zc HY2.o;have fz0:v4.frozen? ⟨B0+1,0,none⟩=false:=HY1.o.free 0;have fz1:v4.frozen? ⟨B0+1,1,none⟩=false:=HY1.o.free 1;have fz2:v4.frozen? ⟨B0+1+1,0,none⟩=false:=HY2.o.free 0;have fz3:v4.frozen? ⟨B0+1+1,1,none⟩=false:=HY2.o.free 1;have HBE:=Hi (HBV.o.trans ((HU4.o).mono HBV.o.size));go_wp2;have hLD:=Qer (x1:=.slice none 0 0) (x2:=.slice none 0 0) (y1:=.int .i64 8) (y2:=.int .i64 0) (by omega:B0+1≠B0+1+1) HY1.o HY2.o
  refine bodyPost_ret (Qeq rfl _ _ (B0+1) (B0+1+1) 90 57 #[.slice none 0 0,.slice none 0 0] #[.int .i64 8,.int .i64 0] (0,0) (0,0) _ _ rfl hLD.1 rfl hLD.2.1 underlying90 rfl Tryz.stressInfo underlying57 rfl Tryz.faultInfo) rfl ?_;have HLAST:=(((HBE.o.setCell (p:=⟨B0+1,0,none⟩) hle (.slice none 0 0)).setCell (p:=⟨B0+1,1,none⟩) hle (.slice none 0 0)).setCell (p:=⟨B0+1+1,0,none⟩) (Nat.le_succ_of_le hle) (.int .i64 8)).setCell (p:=⟨B0+1+1,1,none⟩) (Nat.le_succ_of_le hle) (.int .i64 0);exact⟨.inl ⟨rfl,by rw[HWE.o,HNE.o];exact hno⟩,HLAST⟩
 .
  obtain⟨HY1,HY2⟩:=Ia (HX1.o.below HU4.o HX1.o.lt) (HX2.o.below HU4.o HX2.o.lt);obtain⟨y0,y1,-⟩:=zc HY1.o;obtain⟨y2,y3,-⟩:=zc HY2.o;have fz0:v4.frozen? ⟨B0+1,0,none⟩=false:=HY1.o.free 0;have fz1:v4.frozen? ⟨B0+1,1,none⟩=false:=HY1.o.free 1;have fz2:v4.frozen? ⟨B0+1+1,0,none⟩=false:=HY2.o.free 0;have fz3:v4.frozen? ⟨B0+1+1,1,none⟩=false:=HY2.o.free 1;have HBE:=Hi (HBV.o.trans ((HU4.o).mono HBV.o.size));go_wp2;have hLD:=Qer (x1:=.slice none 0 0) (x2:=.slice none 0 0) (y1:=.int .i64 9) (y2:=.int .i64 0) (by omega:B0+1≠B0+1+1) HY1.o HY2.o
  refine bodyPost_ret (Qeq rfl _ _ (B0+1) (B0+1+1) 90 57 #[.slice none 0 0,.slice none 0 0] #[.int .i64 9,.int .i64 0] (0,0) (0,0) _ _ rfl hLD.1 rfl hLD.2.1 underlying90 rfl Tryz.stressInfo underlying57 rfl Tryz.faultInfo) rfl ?_;have HLAST:=(((HBE.o.setCell (p:=⟨B0+1,0,none⟩) hle (.slice none 0 0)).setCell (p:=⟨B0+1,1,none⟩) hle (.slice none 0 0)).setCell (p:=⟨B0+1+1,0,none⟩) (Nat.le_succ_of_le hle) (.int .i64 9)).setCell (p:=⟨B0+1+1,1,none⟩) (Nat.le_succ_of_le hle) (.int .i64 0);exact⟨.inr (.inl ⟨rfl,by rw[HWE.o,HNE.o];exact hmany⟩),HLAST⟩
 .
  subst hra;have hrn':=hrn.symm;subst hrn';have hrc':=hrc.symm;subst hrc';have hK5:K<=274877906944:=by omega
  have HST:=Qul (.slice a1 js.length c1) (.slice a3 hs.length c3) a2 c2 bs.length g 0 us.length K us v4 (HG.o.below (HBV.o.trans (HU4.o.mono HBV.o.size))) hqb.row huk hK5 (by omega) (by have:=HWE.o;omega) (by omega) rfl rfl;rw[hul] at HST;obtain⟨HST,HONE,HUL⟩:=Ib HST hone hul;clear hqb hul huk hone;go_wp2_with fail;go_fit HST.o;rintro e v5 ⟨⟨g1,g2,x,y,rfl,hx,hy,htx,hty⟩,hb5⟩;obtain⟨nh,hnh⟩:=nm (W - bs.length);rw[hnh];have HU5:=Hi (HU4.o.trans (hb5.mono HU4.o.size));obtain⟨HY1,HY2⟩:=Ia (HX1.o.below HU5.o HX1.o.lt) (HX2.o.below HU5.o HX2.o.lt);obtain⟨y0,y1,-⟩:=zc HY1.o;obtain⟨y2,y3,-⟩:=zc HY2.o
  have fz0:v5.frozen? ⟨B0+1,0,none⟩=false:=HY1.o.free 0;have fz1:v5.frozen? ⟨B0+1,1,none⟩=false:=HY1.o.free 1;have fz2:v5.frozen? ⟨B0+1+1,0,none⟩=false:=HY2.o.free 0;have fz3:v5.frozen? ⟨B0+1+1,1,none⟩=false:=HY2.o.free 1;obtain⟨HBE,HNH,HGX,HGY,HTX,HTY⟩:=Ie (HBV.o.trans ((HU5.o).mono HBV.o.size)) hnh hx hy htx hty;clear hx hy htx hty hb5 hnh HST x0 x1 x2;go_wp2;have hLD:=Qer (x1:=.slice (some ⟨g1,0,none⟩) bs.length bs.length) (x2:=.slice (some ⟨g2,0,none⟩) nh nh) (y1:=.int .i64 0) (y2:=.int .i64 0) (by omega:B0+1≠B0+1+1) HY1.o HY2.o;refine bodyPost_ret (Qeq rfl _ _ (B0+1) (B0+1+1) 90 57 #[.slice (some ⟨g1,0,none⟩) bs.length bs.length,.slice (some ⟨g2,0,none⟩) nh nh] #[.int .i64 0,.int .i64 0] (0,0) (0,0) _ _ rfl hLD.1 rfl hLD.2.1 underlying90 rfl Tryz.stressInfo underlying57 rfl Tryz.faultInfo) rfl ?_
  have HLAST:=(((HBE.o.setCell (p:=⟨B0+1,0,none⟩) hle (.slice (some ⟨g1,0,none⟩) bs.length bs.length)).setCell (p:=⟨B0+1,1,none⟩) hle (.slice (some ⟨g2,0,none⟩) nh nh)).setCell (p:=⟨B0+1+1,0,none⟩) (Nat.le_succ_of_le hle) (.int .i64 0)).setCell (p:=⟨B0+1+1,1,none⟩) (Nat.le_succ_of_le hle) (.int .i64 0);have hnh:nh=hs.length:=by
   have h1:=HWE.o;have h2:=HNH.o;omega
  subst hnh;refine⟨.inr (.inr ⟨g1,g2,x,y,us,rfl,hLD.2.2 _ _ _ HGX.o (HGX.o.unlike HY1.o (by decide)) (HGX.o.unlike HY2.o (by decide)),hLD.2.2 _ _ _ HGY.o (HGY.o.unlike HY1.o (by decide)) (HGY.o.unlike HY2.o (by decide)),HTX.o,HTY.o,by rw[HWE.o];exact HUL.o,by rw[HWE.o,HNE.o];exact HONE.o⟩),HLAST⟩
end Go.Proofs.YtjgofdclmcpopaaGreatDoor
