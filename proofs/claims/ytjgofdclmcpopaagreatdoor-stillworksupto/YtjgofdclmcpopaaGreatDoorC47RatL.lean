import Derived.Test.YtjgofdclmcpopaaGreatDoorC46BalY
import Derived.Test.YtjgofdclmcpopaaGreatDoorC45RowsT
namespace Go.Proofs.YtjgofdclmcpopaaGreatDoor
open Go.RowKit
open Go.Proofs.Tryz
set_option linter.unusedSimpArgs false
set_option linter.unusedVariables false
set_option maxHeartbeats 8000000
set_option maxRecDepth 1000000
structure SL where
 g:Nat
 ss:List S2
def SL.val(n:Nat)(m:SL):Value:=.slice (some ⟨m.g,0,none⟩) n n
structure SLat (w:World) (n:Nat) (m:SL):Prop where
 blk:SB w m.g 25 (m.ss.flatMap S2.cells).toArray
 len:m.ss.length=n
theorem SLat.below{w w':World}{n:Nat}{m:SL}(h:SLat w n m)(hb:Below w.heap.size w w'):SLat w' n m:=⟨h.blk.below hb h.blk.lt,h.len⟩
structure MotsAt (w:World) (B n:Nat) (v:Value) (ms:List SL) (xs:List Vec):Prop where
 list:Grow w B 50 1 IsSl v ms.length (ms.map (SL.val n))
 each:∀m,m∈ ms->SLat w n m
 len:ms.length=xs.length
 told:∀(i:Nat) (m:SL) (x:Vec),ms[i]?=some m->xs[i]?=some x->SpotsTold x m.ss
theorem MotsAt.below{w w':World}{B n:Nat}{v:Value}{ms:List SL}{xs:List Vec}(h:MotsAt w B n v ms xs)(hb:Below w.heap.size w w'):MotsAt w' B n v ms xs:=⟨h.list.below hb,fun m hm=>(h.each m hm).below hb,h.len,h.told⟩
theorem Qpc:(prog.info? 50).map (fun i=>(i.zero,i.size,i.bytes))=some (some (.slice .none 0 0),1,24):=by kernel_rfl
theorem Qpd:50≠25:=by decide
theorem MotsAt.app{w:World}{B n nb c:Nat}{v:Value}{ms:List SL}{xs:List Vec}{m:SL}{x:Vec}(h:MotsAt w B n v ms xs)(hc:w.cell? ⟨nb,0,none⟩=some (m.val n))(hm:SLat w n m)(hx:SpotsTold x m.ss)(hn:ms.length<=1000)(hB:B<=w.heap.size)(ty:TypeId):
 ∃v' w',appR prog 80 ty v (.slice (some ⟨nb,0,none⟩) 1 c) w=.ok v' w'/\MotsAt w' B n v' (ms++ [m]) (xs++ [x])/\Below B w w':=by
 obtain⟨i,hi,hz⟩:=Option.map_eq_some_iff.1 Qpc;injection hz with z1 z2
 injection z2 with z2 z3
 obtain⟨v',w',h1,h2,h3,_⟩:=h.list.app (P:=prog) (t:=80) (ty:=ty) underlying80 hi z1 z2 z3 rfl (by decide) (fun u hu=>⟨none,0,0,by simpa [Value.cells] using hu⟩) ⟨nb,0,none⟩ 1 c [m.val n] rfl (fun j u hj=>by
  match j,hj with
  |0,hj=>
   obtain rfl:=Option.some.inj hj
   exact hc) (fun u hu=>by obtain rfl:=List.mem_singleton.1 hu;rfl) (fun u hu=>by obtain rfl:=List.mem_singleton.1 hu;exact⟨_,_,_,rfl⟩) (by omega) (by decide) hB
 have hst:∀m,SLat w n m->SLat w' n m:=fun m hm=>by
  refine⟨?_,hm.len⟩;have hb:=h3.block m.g hm.blk.lt (fun e=>by
   obtain⟨C,hC,_⟩:=h.list.sb e.symm
   exact hC.unlike hm.blk Qpd rfl)
  have:=hm.blk;unfold SB at this ⊢;rw[hb];exact this
 refine⟨v',w',h1,⟨?_,fun t ht=>?_,?_,fun j t y ht hy=>?_⟩,Qgl h3 (fun g hg=>(h.list.lt hg).1) hB⟩
 . rw[List.length_append,List.length_singleton,List.map_append]
   exact h2
 .
  rcases List.mem_append.1 ht with ht|ht
  . exact hst t (h.each t ht)
  . obtain rfl:=List.mem_singleton.1 ht
    exact hst t hm
 . rw[List.length_append,List.length_append,h.len];rfl
 .
  by_cases hj:j<ms.length
  .
   rw[List.getElem?_append_left hj] at ht;rw[List.getElem?_append_left (by rw[<-h.len];exact hj)] at hy;exact h.told j t y ht hy
  .
   have hj':j=ms.length:=by
    have:=(gZ ht).1;simp at this;omega
   subst hj';rw[List.getElem?_append_right lZ,Nat.sub_self] at ht;rw[List.getElem?_append_right (by rw[h.len];exact Nat.le_refl _),<-h.len,Nat.sub_self] at hy;cases ht;cases hy;exact hx
theorem Qpe(a1 a2 a3:Option Addr)(c1 c2 c3 P b:Nat)(js:List S2)(bs:List B6)(hs:List H3)(vb:List (Nat × Nat × Rat × Rat))(vh:List Nat)(w:World)(hg:Glob w)(hf:FrRow w a1 a2 a3 c1 c2 c3 js bs hs)(hz:FrSized js bs hs)(hok:FrameFault js bs hs 0 0)(hv:FrV 1048576 js bs hs vb vh)(hp:FrP P b vb)(hb1:1000000<=b)(hb2:b<=16000000):
 Calls prog 41 #[.agg #[.slice a1 js.length c1,.slice a2 bs.length c2,.slice a3 hs.length c3]] w fun e w'=>∃(L S:List Vec) (hh:List Nat) (v:Value) (ms:List SL),e=.returned (.tuple #[v,.agg #[.int .i64 0,.int .i64 0]])/\MJ (2*js.length) 20 (kC b) (balCols js.length vb bs.length vh hs.length) (2*js.length) L S hh/\MotsAt w' w.heap.size js.length v ms ((freeTo hh (2*js.length)).map (fun c=>nullF c (cln S hh) hh hh.length))/\Below w.heap.size w w':=by
 obtain⟨HG,HF,HZ,HOK,HV⟩:=Id hg hf hz hok hv;obtain⟨hgo,hst,hen⟩:=hp.cols hv;obtain⟨HGO,HST,HEN⟩:=Ib (hgo.mono (K':=kW b) (by simp only[kE,kW,kC];omega)) hst hen;have n1:=hv.j;have n2:=hv.b;have n3:=hv.h;clear hg hf hz hok hv hgo hst hen;obtain⟨K,hK⟩:=nm (kW b);have hKE:=hK;simp only[kW,kC] at hKE;have hK0:1<K:=by omega
 have hK4:4*K+1<68719476000:=by omega
 have hKF:4*1048576+1+(4*1048576+1)+1<=K:=by omega
 rw[hK] at HGO HEN;clear hKE;obtain⟨I,hI⟩:=nm (MJ (2*js.length) 20 (kC b) (balCols js.length vb bs.length vh hs.length));rw[hI] at HGO HST HEN ⊢;have HIE:=Hi hI;clear hI hK;obtain⟨B0,hB0⟩:=nm w.heap.size;obtain⟨V0,hV0⟩:=nm ((w.alloc (.cells #[.slice a1 js.length c1,.slice a2 bs.length c2,.slice a3 hs.length c3] 54)).alloc (.cells #[.int .i64 0,.int .i64 0] 57));have HBV0:=Ub hV0;have HS0:=Ug hV0 hB0;have HS1:=Uh hV0 hB0;obtain⟨HVE,HB0,HCK⟩:=Ib hV0 hB0 (Qeo a1 a2 a3 c1 c2 c3 js bs hs V0 (HG.o.below HBV0.o) (HF.o.below HBV0.o) HZ.o HOK.o);clear hV0 hB0
 go_enter func41,ntmps41;go_wp2_with fail;rw[HVE.o,HB0.o];clear HVE;go_fit HCK.o;rintro e w1 ⟨rfl,hb1'⟩;obtain⟨V,hV⟩:=nm (w1.alloc (.cells #[.int .i64 0,.int .i64 0] 57));obtain⟨B2,hB2⟩:=nm w1.heap.size;have hbV:Below V0.heap.size V0 V:=by rw[<-hV];exact hb1'.alloc hb1'.size _
 obtain⟨HX0,HX1⟩:=Ia (HS0.o.below hbV HS0.o.lt) (HS1.o.below hbV HS1.o.lt);have HX2:=Uf hV hB2;have HBV:=Hi (HBV0.o.trans (hbV.mono HBV0.o.size));obtain⟨k0,-⟩:=zc HX2.o;obtain⟨HVV,HB2⟩:=Ia hV hB2;rw[<-hV,<-hB2] at k0;clear hb1' hbV HS0 HS1 HCK hV hB2;go_wp2_with fail;rw[HVV.o,HB2.o];clear k0;have HBX:=HX0;obtain⟨x0,x1,x2,-⟩:=zc HBX.o;have HU0:O (Below V.heap.size V V):=Hi bR
 obtain⟨HOF,HPT,HWY⟩:=Ib (fun u (hu:Below V.heap.size V u)=>Qep a1 a2 a3 c1 c2 c3 1048576 K js bs hs vb vh u (HG.o.below (HBV.o.trans (hu.mono HBV.o.size))) (HF.o.below (HBV.o.trans (hu.mono HBV.o.size))) HV.o hKF) (fun u=>Qei a1 a2 a3 c1 c2 c3 js.length bs.length hs.length u n2 n3) (fun u=>Qej a1 a2 a3 c1 c2 c3 js.length bs.length hs.length u n1);obtain⟨W,hW⟩:=nm (bs.length+hs.length);obtain⟨N0,hN0⟩:=nm (2*js.length);have eW:(bs.length:Int)+(hs.length:Int)=(W:Int):=by omega
 have eN:2*(js.length:Int)=(N0:Int):=by omega
 simp only[eW] at HPT;simp only[eN] at HWY;rw[hW] at HOF;obtain⟨HWE,HNE⟩:=Ia hW hN0;have hW100:W<=100:=by omega
 have hN100:N0<=20:=by omega
 clear eW eN hW hN0;go_region_held3 (fun v=>v.cell? ⟨B0,0,none⟩=some (.slice a1 js.length c1)/\v.cell? ⟨B0,1,none⟩=some (.slice a2 bs.length c2)/\v.cell? ⟨B0,2,none⟩=some (.slice a3 hs.length c3)) ((first|(simp [*];done)|go_keep)) (first
  |(
   go_at_call 117;apply cM;apply HOF.o;(first|exact HU0.o|exact HU0.o.drew);rintro e v1 ⟨N,G,rs,hN,rfl,hrl,hqm,hoks,hks,hq,hb1⟩;obtain rfl:N0=N:=by rw[hN];exact HNE.o.symm
   obtain⟨HRL,HQM,HKS,HQ⟩:=Ic hrl hqm hks hq;clear hN hrl hqm hoks hq hks;have HU1:O (Below V.heap.size V v1):=Hi ((by first|exact HU0.o|exact HU0.o.drew:Below V.heap.size V _).trans (hb1.mono (by first|exact HU0.o.size|exact HU0.o.drew.size)));clear hb1 HU0 x0 x1 x2 HBX;have HBX:=Hi (HX0.o.below HU1.o HX0.o.lt);obtain⟨x0,x1,x2,-⟩:=zc HBX.o
   skip)
  |(
   go_at_call 118;apply cM;apply HPT.o;rintro e v2 ⟨rfl,hb2⟩;(first
     |have HB12:O (Below v1.heap.size v1 v2):=Hi hb2
     |have HB12:O (Below v1.heap.size v1 v2):=Hi (bR.drew.trans hb2))
   have HU2:O (Below V.heap.size V v2):=Hi ((by first|exact HU1.o|exact HU1.o.drew:Below V.heap.size V _).trans (hb2.mono (by first|exact HU1.o.size|exact HU1.o.drew.size)));clear hb2 HU1 x0 x1 x2 HBX;have HBX:=Hi (HX0.o.below HU2.o HX0.o.lt);obtain⟨x0,x1,x2,-⟩:=zc HBX.o
   skip)
  |(
   go_at_call 122;apply cM
   (have HTN:=Que (some ⟨G,0,none⟩) N0 W K rs v2 (HQM.o.below HB12.o) HKS.o (by rw[HRL.o];omega) (by omega) (by omega)
    rw[HRL.o] at HTN
    exact HTN)
   rintro e v3 ⟨GT,ts,rfl,htl,hqt,hot,htq,hb3⟩;obtain⟨HTL,HQT,HOT,HTQ⟩:=Ic htl hqt.row hot htq;clear htl hqt hot htq;have HU3:O (Below V.heap.size V v3):=Hi ((by first|exact HU2.o|exact HU2.o.drew:Below V.heap.size V _).trans (hb3.mono (by first|exact HU2.o.size|exact HU2.o.drew.size)));clear hb3 HU2 x0 x1 x2 HBX;have HBX:=Hi (HX0.o.below HU3.o HX0.o.lt);obtain⟨x0,x1,x2,-⟩:=zc HBX.o
   skip)
  |(
   go_at_call 119;apply cM;apply HWY.o;rintro e v4 ⟨rfl,hb4⟩;(first
     |have HB34:O (Below v3.heap.size v3 v4):=Hi hb4
     |have HB34:O (Below v3.heap.size v3 v4):=Hi (bR.drew.trans hb4))
   have HU4:O (Below V.heap.size V v4):=Hi ((by first|exact HU3.o|exact HU3.o.drew:Below V.heap.size V _).trans (hb4.mono (by first|exact HU3.o.size|exact HU3.o.drew.size)));clear hb4 HU3 x0 x1 x2 HBX;have HBX:=Hi (HX0.o.below HU4.o HX0.o.lt);obtain⟨x0,x1,x2,-⟩:=zc HBX.o
   skip)
  |(
   go_at_call 120;apply cM
   (have HNL:=Qud (some ⟨GT,0,none⟩) W N0 K ts v4 (HG.o.below (HBV.o.trans (HU4.o.mono HBV.o.size))) I HGO.o (HQT.o.below HB34.o) (HOT.o.fr (Fr.of_below HB34.o)) (by rw[HTL.o];omega) (by omega) hK0 hK4
     (by
       have e:=HTQ.o;have e2:=Qmi (nh:=hs.length) HQ.o;rw[HWE.o,List.length_map,HRL.o] at e2;rw[e,e2]
       exact HST.o)
     (fun L S hs hi=>by
       rw[<-HNE.o] at hi ⊢
       exact⟨(HEN.o L S hs hi).1.1,(HEN.o L S hs hi).2.1⟩)
    rw[HTL.o] at HNL
    exact HNL)
   rintro e v5 ⟨L,S,hh,nv,ns,rfl,hi,hna⟩;obtain⟨na,nc,rfl,_,_,_⟩:=hna.list.slice;obtain⟨HNA,HJ⟩:=Ia hna hi;have hb5:=hna.base;clear hi hna;have HU5:O (Below V.heap.size V v5):=Hi ((by first|exact HU4.o|exact HU4.o.drew:Below V.heap.size V _).trans (hb5.mono (by first|exact HU4.o.size|exact HU4.o.drew.size)));clear hb5 HU4 x0 x1 x2 HBX;have HBX:=Hi (HX0.o.below HU5.o HX0.o.lt);obtain⟨x0,x1,x2,-⟩:=zc HBX.o
   skip)
  |fail)
 obtain⟨xs,hxs⟩:=nm ((freeTo hh N0).map (fun c=>nullF c (cln S hh) hh hh.length));have HXS:=Hi hxs;rw[hxs] at HNA;have HNL:O (ns.length<=20):=Hi (by
  have h1:=congrArg List.length HNA.o.q;rw[<-hxs,List.length_map,List.length_map] at h1;have h2:=Qjd hh N0
  omega)
 have hnl:=HNL.o;have hG5:=Hi (HG.o.below (HBV.o.trans (HU5.o.mono HBV.o.size)));clear hxs HQM HKS HQ HB12 HTL HQT HOT HTQ HB34 HOF HPT HWY x0 x1 x2 HBX;go_wp2_with fail;go_loopw [23,5] (fun iv lv wr=>∃(k:Nat) (ms:List SL),k<=ns.length/\iv=.int .i64 k/\MotsAt wr v5.heap.size js.length lv ms (xs.take k)/\Below v5.heap.size v5 wr) (fun iv _ _=>ns.length - (intOf iv).toNat)
 case atStart=>exact⟨0,[],Nat.zero_le _,rfl,⟨Grow.nil _ _ _ _ _,(fun m hm=>by cases hm),rfl,fun i m x hm=>by simp at hm⟩,Below.refl _ _⟩
 case round=>
  obtain⟨k,ms,hk,rfl,hma,hbw⟩:=hrel;obtain⟨HMA,HBW⟩:=Ia hma hbw;clear hma hbw;by_cases hkn:k<ns.length
  .
   obtain⟨r,hr⟩:∃r,ns[k]?=some r:=⟨ns[k],gE hkn⟩;have hrok:=(HNA.o.ok.fr (Fr.of_below HBW.o)) r (mO hr);obtain⟨gb,go,rfl,hgb,d0⟩:=(HNA.o.list.below HBW.o).crow.cell k r.val (by rw[List.getElem?_map,hr];rfl);rw[MR.val,hrok.len] at d0;have q1:((k:Int)<(ns.length:Int)):=by omega
   have hmo:=Qpb r.a r.cap js.length K r wr (hG5.o.below HBW.o) (by rw[HNE.o];exact hrok) rfl rfl (by omega) n1;rw[HNE.o] at hmo;have HMO:=Hi hmo;have HXK:O (xs.take (k+1)=xs.take k++ [r.q]):=Hi (by
    have h1:xs[k]?=some r.q:=by rw[<-HNA.o.q,List.getElem?_map,hr];rfl
    rw[List.take_add_one,h1]
    rfl)
   clear hmo hrok hr;go_wp2_with fail;go_fit HMO.o;rintro e w6 ⟨⟨g,ss,rfl,hsl,hsb,htd⟩,hb6⟩;obtain⟨X,hX⟩:=nm (w6.alloc (.cells #[.slice (some ⟨g,0,none⟩) js.length js.length] 50));have hbX:Below w6.heap.size w6 X:=by rw[<-hX];exact(Below.refl _ _).alloc lZ _
   have hbwX:Below wr.heap.size wr X:=hb6.trans (hbX.mono hb6.size);have hcX:X.cell? ⟨w6.heap.size,0,none⟩=some (SL.val js.length ⟨g,ss⟩):=by rw[<-hX];exact Qbh w6 _ _
   have hmX:=HMA.o.below hbwX;have h5X:v5.heap.size<=X.heap.size:=by have h1:=HBW.o.size;have h2:=hbwX.size;omega
   obtain⟨v7,w7,happ,hm7,hb7⟩:=hmX.app (m:=⟨g,ss⟩) (x:=r.q) (c:=1) hcX (SLat.below ⟨hsb,hsl⟩ hbX) htd (by rw[HMA.o.len,List.length_take];omega) h5X 80;have HM7:O (MotsAt w7 v5.heap.size js.length v7 (ms++ [⟨g,ss⟩]) (xs.take (k+1))):=Hi (by rw[HXK.o];exact hm7);have HB7:O (Below v5.heap.size v5 w7):=Hi ((HBW.o.trans (hbwX.mono HBW.o.size)).trans hb7);have happ':appR prog 80 80 u5 (.slice (some ⟨w6.heap.size,0,none⟩) 1 1) (w6.alloc (.cells #[.slice (some ⟨g,0,none⟩) js.length js.length] 50))=.ok v7 w7:=by rw[hX];exact happ
   clear hsl hsb htd hb6 hX hbX hbwX hcX hmX h5X happ hm7 hb7 d0;go_wp2;go_roundw
   case rel=>exact⟨k+1,_,by omega,by go_num,HM7.o,HB7.o⟩
   case measure=>simp[intOf];omega
  .
   obtain rfl:k=ns.length:=by omega
   have hbV:Below V.heap.size V wr:=HU5.o.trans (HBW.o.mono HU5.o.size);have hs1:=HX1.o.below hbV HX1.o.lt;obtain⟨z0,z1,-⟩:=zc hs1;have f0:=hs1.free 0;have f1:=hs1.free 1;have HY1:=Hi hs1;have hle:w.heap.size<=B0+1:=by have:=HB0.o;omega
   have HBE:O (Below w.heap.size w ((wr.setCell ⟨B0+1,0,none⟩ (.int .i64 0)).setCell ⟨B0+1,1,none⟩ (.int .i64 0))):=Hi (((HBV.o.trans (hbV.mono HBV.o.size)).setCell (p:=⟨B0+1,0,none⟩) hle _).setCell (p:=⟨B0+1,1,none⟩) hle _);have HME:O (MotsAt ((wr.setCell ⟨B0+1,0,none⟩ (.int .i64 0)).setCell ⟨B0+1,1,none⟩ (.int .i64 0)) w.heap.size js.length u5 ms xs):=Hi (by
    have h1:=HMA.o;have hlx:xs.length=ns.length:=by rw[<-HNA.o.q,List.length_map]
    rw[<-hlx,List.take_length] at h1;have ho:Only (B0+1) wr ((wr.setCell ⟨B0+1,0,none⟩ (.int .i64 0)).setCell ⟨B0+1,1,none⟩ (.int .i64 0)):=((Only.refl _ _).setCell _ _).setCell _ _;refine⟨(h1.list.keep fun g hg=>ho.block g (h1.list.lt hg).2 (fun e=>?_)).mono (Nat.le_trans HBV.o.size HU5.o.size),fun m hm=>⟨(h1.each m hm).blk.only ho ?_,(h1.each m hm).len⟩,h1.len,h1.told⟩
    .
     have a1:=(h1.list.lt hg).1;have a2:=HX1.o.lt;have a3:=HU5.o.size;omega
    . exact(h1.each m hm).blk.unlike hs1 (by decide))
   clear hs1 hbV;go_wp2;refine bodyPost_ret (Qa3 rfl _ _ (B0+1) 57 #[.int .i64 0,.int .i64 0] (0,0) _ rfl ((HY1.o.set 0 _).set 1 _) underlying57 rfl Tryz.faultInfo) rfl ?_;refine⟨L,S,hh,_,ms,rfl,?_,?_,HBE.o⟩
   . rw[HNE.o];exact HJ.o
   . rw[HNE.o,HXS.o];exact HME.o
def lW:List L3->Nat
 | []=>0
 |s :: l=>s.x.size+s.y.size+lW l
theorem Qew:∀{l:List L3} {s:L3},s∈ l->s.x.size<=lW l/\s.y.size<=lW l
 |t :: l,s,h=>by
  rcases List.mem_cons.1 h with rfl|h
  . simp only[lW];omega
  . have:=Qew h;simp only[lW];omega
theorem Qg5:∀ls:List L3,∃l:List (Rat × Nat),(∀p,p∈ l->Fits p.1 p.2)/\(l.map (·.2)).sum=4*lW ls+2*ls.length/\∀s,s∈ ls->∀x y,QOf s.x.data.toList x->QOf s.y.data.toList y->x∈ l.map (·.1)/\y∈ l.map (·.1)
 | []=>⟨[],(fun p hp=>by cases hp),rfl,(fun s hs=>by cases hs)⟩
 |s :: js=>by
  obtain⟨l,h1,h2,h3⟩:=Qg5 js;obtain⟨x,hx⟩:=QOf.ex s.x.data.toList;obtain⟨y,hy⟩:=QOf.ex s.y.data.toList;refine⟨(x,4*s.x.size+1) :: (y,4*s.y.size+1) :: l,fun p hp=>?_,?_,fun t ht u v hu hv=>?_⟩
  .
   rcases List.mem_cons.1 hp with rfl|hp
   . exact hx.fits' lZ
   .
    rcases List.mem_cons.1 hp with rfl|hp
    . exact hy.fits' lZ
    . exact h1 p hp
  . simp only[List.map_cons,List.sum_cons,h2,lW,List.length_cons]
    omega
  .
   rcases List.mem_cons.1 ht with rfl|ht
   . rw[hu.inj hx,hv.inj hy]
     simp
   . obtain⟨k1,k2⟩:=h3 t ht u v hu hv
     exact⟨List.mem_cons_of_mem _ (List.mem_cons_of_mem _ k1),List.mem_cons_of_mem _ (List.mem_cons_of_mem _ k2)⟩
def WhN(P b a:Nat)(q:Rat):Prop:=∃z:Int,q*(P:Rat)=(z:Rat)/\z.natAbs<=a*2 ^ b
theorem WhN.sub{P b a:Nat}{p q:Rat}(h:WhN P b a p)(k:Wh P b q):WhN P b (a+1) (p - q):=by
 obtain⟨y,e,hy⟩:=h;obtain⟨z,f,hz⟩:=k;refine⟨y - z,?_,?_⟩
 . rw[Rat.intCast_sub,<-e,<-f]
   grind
 . rw[Nat.add_mul,Nat.one_mul]
   omega
theorem WhN.mono{P b a c:Nat}{q:Rat}(h:WhN P b a q)(hac:a<=c):WhN P b c q:=by
 obtain⟨z,e,hz⟩:=h;exact⟨z,e,Nat.le_trans hz (Nat.mul_le_mul_right _ hac)⟩
theorem Qex{P b:Nat}:∀(k:Nat) (vs:List (Nat × Rat × Rat)),(∀p,p∈ vs->Wh P b p.2.1/\Wh P b p.2.2)->∀i,WhN P b k (agn (vs.take k) i)
 |0,vs,h,i=>⟨0,by simp[agn,Rat.zero_mul],by simp⟩
 |k+1,vs,h,i=>by
  cases hp:vs[k]? with
  |none=>
   have e:vs.take (k+1)=vs.take k:=by rw[List.take_add_one,hp];simp
   rw[e];exact(Qex k vs h i).mono (by omega)
  |some p=>
   rw[Qc8 hp];have ih:=Qex k vs h;obtain⟨w1,w2⟩:=h p (mO hp);by_cases h1:i=2*p.1
   . rw[h1,agn_x];exact(ih _).sub w1
   .
    by_cases h2:i=2*p.1+1
    . rw[h2,agn_y];exact(ih _).sub w2
    .
     have:agnStep (agn (vs.take k)) p i=agn (vs.take k) i:=by
      unfold agnStep;rw[Qaj _ _ h2,Qaj _ _ h1]
     rw[this];exact(ih i).mono (by omega)
theorem Wh.fits{P b:Nat}{q:Rat}(h:Wh P b q)(hP:0<P)(hPb:P<=2 ^ b):Fits q (b+1):=by
 obtain⟨z,e,hz⟩:=h;have h2:2 ^ b<2 ^ (b+1):=Nat.pow_lt_pow_right (by decide) (by omega);refine Qfv (Z:=z) (y:=1) (d:=P) (by decide) hP ?_ (by omega) (by simp;omega) (by omega);rw[<-e]
 show q*(((1:Int):Rat)*(P:Rat))=q*(P:Rat)
 rw[show ((1:Int):Rat)=1 from rfl,Rat.one_mul]
structure FrLP (P b:Nat) (vb:List (Nat × Nat × Rat × Rat)) (vs:List (Nat × Rat × Rat)):Prop extends FrP P b vb where
 agn:∀k i,Wh P b (agn (vs.take k) i)
theorem FrV.overL{n T:Nat}{js:List S2}{bs:List B6}{hs:List H3}{vb:List (Nat × Nat × Rat × Rat)}{vh:List Nat}{ls:List L3}{vs:List (Nat × Rat × Rat)}(hv:FrV n js bs hs vb vh)(hll:ls.length<=20)(hvl:vs.length=ls.length)(hlv:∀(i:Nat) (l:L3) (p:Nat × Rat × Rat),ls[i]?=some l->vs[i]?=some p->LoadV js.length l p)(hT:jW js+lW ls<=T):∃P,FrLP P (8*T+70) vb vs:=by
 obtain⟨l,h1,h2,h3⟩:=Qg4 js;obtain⟨l',k1,k2,k3⟩:=Qg5 ls;obtain⟨m,hm⟩:=nm (l++l');have hj:=hv.j;have hP:denP (m.map (·.1))<=2 ^ (4*T+60):=by
  refine Nat.le_trans (Qhg m (fun p hp=>?_)) (Nat.pow_le_pow_right (by decide) ?_)
  .
   rw[<-hm] at hp;rcases List.mem_append.1 hp with hp|hp
   . exact h1 p hp
   . exact k1 p hp
  . rw[<-hm,List.map_append,List.sum_append]
    omega
 have inl:∀q,q∈ l.map (·.1)->q∈ m.map (·.1):=fun q hq=>by rw[<-hm,List.map_append];exact List.mem_append.2 (.inl hq)
 have inr:∀q,q∈ l'.map (·.1)->q∈ m.map (·.1):=fun q hq=>by rw[<-hm,List.map_append];exact List.mem_append.2 (.inr hq)
 have w:∀q:Rat,q∈ m.map (·.1)->Fits q (4*T+1)->Wh (denP (m.map (·.1))) (8*T+61) q:=fun q hq hf=>(Wh.of_mem hq hf hP).mono (by omega)
 refine⟨denP (m.map (·.1)),⟨Qhf _,Nat.le_trans hP (Nat.pow_le_pow_right (by decide) (by omega)),fun p hp=>?_⟩,fun k i=>?_⟩
 .
  obtain⟨i,hi,rfl⟩:=List.getElem_of_mem hp;have hib:i<bs.length:=by have:=hv.lb;omega
  obtain⟨s,t,x1,y1,x2,y2,e1,e2,_,_,_,_,u1,u2,u3,u4,e3,e4⟩:=(hv.vb i bs[i] vb[i] (gE hib) (gE hi)).ex;have ms:=mO e1;have mt:=mO e2;have js1:=Qev ms;have js2:=Qev mt;have q1:=h3 s ms x1 y1 u1 u2;have q2:=h3 t mt x2 y2 u3 u4;rw[e3,e4];exact⟨((w x2 (inl _ q2.1) (u3.fits' (by omega))).sub (w x1 (inl _ q1.1) (u1.fits' (by omega)))).mono (by omega),((w y2 (inl _ q2.2) (u4.fits' (by omega))).sub (w y1 (inl _ q1.2) (u2.fits' (by omega)))).mono (by omega)⟩
 .
  have hw:∀p,p∈ vs->Wh (denP (m.map (·.1))) (8*T+61) p.2.1/\Wh (denP (m.map (·.1))) (8*T+61) p.2.2:=fun p hp=>by
   obtain⟨j,hj,rfl⟩:=List.getElem_of_mem hp;have hjl:j<ls.length:=by omega
   have hL:=hlv j ls[j] vs[j] (gE hjl) (gE hj);have hm2:ls[j]∈ ls:=List.getElem_mem _;have j1:=Qew hm2;have q1:=k3 _ hm2 _ _ hL.x hL.y;exact⟨w _ (inr _ q1.1) (hL.x.fits' (by omega)),w _ (inr _ q1.2) (hL.y.fits' (by omega))⟩
  have hmin:vs.take k=vs.take (min k vs.length):=by
   rcases Nat.le_total k vs.length with h|h
   . rw[Nat.min_eq_left h]
   . rw[Nat.min_eq_right h,List.take_length,List.take_of_length_le h]
  rw[hmin];obtain⟨z,e,hz⟩:=Qex (min k vs.length) vs hw i;refine⟨z,e,Nat.le_trans hz ?_⟩;have h9:(2:Nat) ^ 9=512:=by decide
  have hle:=Nat.min_le_right k vs.length;have:min k vs.length*2 ^ (8*T+61)<=2 ^ 9*2 ^ (8*T+61):=Nat.mul_le_mul_right _ (by omega);rw[<-Nat.pow_add] at this;exact Nat.le_trans this (Nat.pow_le_pow_right (by decide) (by omega))
theorem Qck{α β γ:Type}{f:α->β->γ}:∀{l:List α} {m:List β} {r:γ},r∈ List.zipWith f l m->∃a,a∈ l/\∃b,b∈ m/\r=f a b
 |a :: l,b :: m,r,h=>by
  rw[List.zipWith_cons_cons] at h;rcases List.mem_cons.1 h with rfl|h
  . exact⟨a,by simp,b,by simp,rfl⟩
  . obtain⟨a',ha,b',hb,e⟩:=Qck h
    exact⟨a',by simp[ha],b',by simp[hb],e⟩
 | [],m,r,h=>by simp at h
 |a :: l,[],r,h=>by simp at h
theorem Qmj(a1 a2 a3 al:Option Addr)(c1 c2 c3 cl P b:Nat)(js:List S2)(bs:List B6)(hs:List H3)(vb:List (Nat × Nat × Rat × Rat))(vh:List Nat)(ls:List L3)(vs:List (Nat × Rat × Rat))(w:World)(hg:Glob w)(hf:FrRow w a1 a2 a3 c1 c2 c3 js bs hs)(hz:FrSized js bs hs)(hok:FrameFault js bs hs 0 0)(hv:FrV 1048576 js bs hs vb vh)
 (hl:ARow L3.cells w al cl ls) (hll:ls.length<=20) (hvl:vs.length=ls.length) (hlv:∀(i:Nat) (l:L3) (p:Nat × Rat × Rat),ls[i]?=some l->vs[i]?=some p->LoadV js.length l p) (hp:FrLP P b vb vs) (hb1:1000000<=b) (hb2:b<=16000000):
 Calls prog 53 #[.agg #[.slice a1 js.length c1,.slice a2 bs.length c2,.slice a3 hs.length c3],.slice al ls.length cl] w (CarrySays bs.length hs.length (balRows js.length vb bs.length vh) ((List.range (2*js.length)).map (agn vs)) w):=by
 have hag:∀i,Wh P b (agn vs i):=fun i=>by
  have:=hp.agn vs.length i;rw[List.take_length] at this;exact this
 obtain⟨hgo,hst,hen⟩:=Qdf (W:=bs.length+hs.length+1) (M:=List.zipWith (wider (bs.length+hs.length)) (balRows js.length vb bs.length vh) ((List.range (2*js.length)).map (agn vs))) hp.pos hp.le (fun r hr j=>by
  obtain⟨m,hm,v,hv',rfl⟩:=Qck hr;obtain⟨k,_,rfl⟩:=List.mem_map.1 hm;obtain⟨i,_,rfl⟩:=List.mem_map.1 hv';unfold wider
  split
  . exact hag _
  . exact hp.at _ _) (fun r hr i hi=>by
  obtain⟨m,hm,v,hv',rfl⟩:=Qck hr;obtain⟨k,_,rfl⟩:=List.mem_map.1 hm;unfold wider;rw[if_neg (by omega)]
  exact Qbv hv.lb hv.lh _ i (by omega)) (.inl (by
  have:=hv.j;simp only[List.length_zipWith,balRows,List.length_map,List.length_range]
  omega))
 refine Qgx a1 a2 a3 al c1 c2 c3 cl 1048576 (kW b) js bs hs vb vh ls vs w hg hf hz hok hv hl hll hvl hlv (fun k i=>((hp.agn k i).fits hp.pos hp.le).mono (by simp only[kW,kC];omega)) (by simp only[kW,kC];omega) (by simp only[kW,kC];omega) _ (hgo.mono (by simp only[kE,kW,kC];omega)) hst (fun L S hh hi=>?_);obtain⟨⟨e1,e2⟩,e3,_⟩:=hen L S hh hi;exact⟨e1,e2,e3⟩
abbrev RT:=Nat × Rat × Nat
def ptrV(t:RT):Value:=.pointer (some ⟨t.1,0,none⟩)
def IsPt(u:Value):Prop:=∃p,u=Value.pointer p
theorem Qgd(ts:List RT):∀u,u∈ ts.map ptrV->IsPt u:=fun u hu=>by
 obtain⟨t,_,rfl⟩:=List.mem_map.1 hu;exact⟨_,rfl⟩
theorem Qrf(ts:List RT):∀u,u∈ ts.map ptrV->u.oneCell'=true:=fun u hu=>by
 obtain⟨t,_,rfl⟩:=List.mem_map.1 hu;rfl
structure Fp (w w':World):Prop where
 size:w.heap.size<=w'.heap.size
 keep:∀b i u,w.cell? ⟨b,i,none⟩=some u->¬IsPt u->w'.heap[b]?=w.heap[b]?
theorem Fp.of_only{w w':World}{g:Nat}{t:TypeId}{C:Array Value}(ho:Only g w w')(hs:SB w g t C)(hC:∀u,u∈ C.toList->IsPt u):Fp w w':=by
 refine⟨ho.size,fun b i u hu hk=>ho.block b (World.block_lt_of_cell? _ _ hu) ?_⟩;rintro rfl;rw[hs.cell] at hu;exact hk (hC u (mO (by rw[Array.getElem?_toList];exact hu)))
theorem Fp.grown{w w':World}{B n:Nat}{e:TypeId}{v:Value}{xs:List Value}(hg:Grow w B e 1 IsPt v n xs)(h:w.grownBy w' v.ownBlock):Fp w w':=by
 refine⟨h.size,fun b i u hu hk=>h.block b (World.block_lt_of_cell? _ _ hu) (fun e=>?_)⟩;obtain⟨C,hC,hK⟩:=hg.sb e.symm;rw[hC.cell] at hu;exact hk (hK u (mO (by rw[Array.getElem?_toList];exact hu)))
theorem Fp.cell{w w':World}(h:Fp w w'){b i:Nat}{u:Value}(hu:w.cell? ⟨b,i,none⟩=some u)(hk:¬IsPt u)(j:Nat):w'.cell? ⟨b,j,none⟩=w.cell? ⟨b,j,none⟩:=World.cell?_of_block (w:=w) (h.keep b i u hu hk)
theorem Qrg(x:Bool):¬IsPt (.bool x):=fun ⟨p,e⟩=>by cases e
theorem Qrh(k:IntKind)(n:Int):¬IsPt (.int k n):=fun ⟨p,e⟩=>by cases e
theorem Qri(s:ByteArray):¬IsPt (.string s):=fun ⟨p,e⟩=>by cases e
theorem Row.fp{k:IntKind}{w w':World}{a:Option Addr}{cap:Nat}{l:List Nat}(h:Row k w a cap l)(ho:Fp w w'):Row k w' a cap l:=by
 refine⟨h.fit,?_,fun i hi=>?_⟩
 .
  rcases h.shape with h1|⟨b',off,rfl,h2⟩
  . exact .inl h1
  . exact .inr ⟨b',off,rfl,by have:=ho.size;omega⟩
 . obtain⟨b',off,h1,h2,h3⟩:=h.cell i hi
   exact⟨b',off,h1,by have:=ho.size;omega,(ho.cell h3 (Qrh _ _) _).trans h3⟩
theorem SB.fp{w w':World}{b:Nat}{t:TypeId}{C:Array Value}{u:Value}{i:Nat}(h:SB w b t C)(ho:Fp w w')(hi:C[i]?=some u)(hu:¬IsPt u):SB w' b t C:=by
 have e:=ho.keep b i u (by rw[h.cell];exact hi) hu;unfold SB at h ⊢;rw[e];exact h
theorem RatVal.fp{w w':World}{b:Nat}{q:Rat}(h:RatVal w b q)(ho:Fp w w'):RatVal w' b q:=by
 obtain⟨D,a1,c1,l1,a2,c2,l2,h1,h2⟩:=h;exact⟨D,a1,c1,l1,a2,c2,l2,⟨h1.sb.fp ho (i:=0) rfl (Qrg _),⟨h1.num.row.fp ho,h1.num.num,h1.num.short⟩,⟨h1.den.row.fp ho,h1.den.num,h1.den.short⟩⟩,h2⟩
def RVs(w:World)(ts:List RT):Prop:=∀t,t∈ ts->RatVal w t.1 t.2.1/\Fits t.2.1 t.2.2/\0<t.2.2
theorem RVs.below{w w':World}{ts:List RT}(h:RVs w ts)(hb:Below w.heap.size w w'):RVs w' ts:=fun t ht=>⟨(h t ht).1.below hb,(h t ht).2⟩
theorem RVs.fp{w w':World}{ts:List RT}(h:RVs w ts)(ho:Fp w w'):RVs w' ts:=fun t ht=>⟨(h t ht).1.fp ho,(h t ht).2⟩
structure PRow (w:World) (a:Option Addr) (ts:List RT):Prop where
 row:CRow w a (ts.map ptrV)
 vs:RVs w ts
theorem PRow.below{w w':World}{a:Option Addr}{ts:List RT}(h:PRow w a ts)(hb:Below w.heap.size w w'):PRow w' a ts:=⟨h.row.below hb,h.vs.below hb⟩
theorem PRow.at{w:World}{a:Option Addr}{ts:List RT}(h:PRow w a ts){i:Nat}{t:RT}(hi:ts[i]?=some t):∃b off,a=some ⟨b,off,none⟩/\b<w.heap.size/\w.cell? ⟨b,off+i,none⟩=some (.pointer (some ⟨t.1,0,none⟩)):=h.row.cell i (ptrV t) (by rw[List.getElem?_map,hi];rfl)
theorem Qju:(prog.info? 40).map (fun i=>(i.zero,i.size,i.bytes))=some (some (.pointer none),1,8):=by kernel_rfl
structure PGrow (w:World) (B:Nat) (v:Value) (ts:List RT):Prop where
 list:Grow w B 40 1 IsPt v ts.length (ts.map ptrV)
 vs:RVs w ts
theorem PGrow.below{w w':World}{B:Nat}{v:Value}{ts:List RT}(h:PGrow w B v ts)(hb:Below w.heap.size w w'):PGrow w' B v ts:=⟨h.list.below hb,h.vs.below hb⟩
theorem PGrow.alloc{w:World}{B:Nat}{v:Value}{ts:List RT}(h:PGrow w B v ts)(o:Obj):PGrow (w.alloc o) B v ts:=h.below (bR.alloc lZ _)
theorem PGrow.nil(w:World)(B:Nat):PGrow w B (.slice none 0 0) []:=⟨Grow.nil _ _ _ _ _,fun t ht=>by cases ht⟩
theorem PGrow.row{w:World}{B:Nat}{v:Value}{ts:List RT}(h:PGrow w B v ts):∃a cap,v=.slice a ts.length cap/\PRow w a ts:=by
 obtain⟨a,cap,e,_,hr,_⟩:=h.list.slice;exact⟨a,cap,e,hr,h.vs⟩
theorem PGrow.app{w:World}{B nb c m:Nat}{v:Value}{ts us:List RT}(h:PGrow w B v ts)(hu:RVs w us)(hm:us.length=m)(hc:∀j u,(us.map ptrV)[j]?=some u->w.cell? ((⟨nb,0,none⟩:Addr).add j)=some u)(hn:ts.length+m<=1048576)(hB:B<=w.heap.size)(ty:TypeId):
 ∃v' w',appR prog 92 ty v (.slice (some ⟨nb,0,none⟩) m c) w=.ok v' w'/\PGrow w' B v' (ts++us)/\Below B w w'/\Fp w w':=by
 subst hm;obtain⟨i,hi,hz⟩:=Option.map_eq_some_iff.1 Qju;injection hz with z1 z2
 injection z2 with z2 z3
 obtain⟨v',w',h1,h2,h3,_⟩:=h.list.app (P:=prog) (t:=92) (ty:=ty) underlying92 hi z1 z2 z3 rfl (by decide) (fun u hu=>⟨none,by simpa [Value.cells] using hu⟩) ⟨nb,0,none⟩ us.length c (us.map ptrV) (by simp) hc (Qrf us) (Qgd us) hn (by decide) hB;have hf:=Fp.grown h.list h3;refine⟨v',w',h1,⟨?_,fun t ht=>?_⟩,Qgl h3 (fun g hg=>(h.list.lt hg).1) hB,hf⟩
 . rw[List.length_append,List.map_append]
   exact h2
 .
  rcases List.mem_append.1 ht with ht|ht
  . exact(h.vs.fp hf) t ht
  . exact(hu.fp hf) t ht
end Go.Proofs.YtjgofdclmcpopaaGreatDoor
