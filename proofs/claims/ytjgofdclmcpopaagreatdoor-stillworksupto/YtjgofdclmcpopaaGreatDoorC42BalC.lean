import Derived.Test.YtjgofdclmcpopaaGreatDoorC41BalB
namespace Go.Proofs.YtjgofdclmcpopaaGreatDoor
open Go.RowKit
open Go.Proofs.Tryz
set_option linter.unusedSimpArgs false
set_option linter.unusedVariables false
set_option maxHeartbeats 8000000
set_option maxRecDepth 1000000
theorem one_q:QOf (⟨#[49]⟩:ByteArray).data.toList 1:=by
 have e1:Lib.trimPrefix [49] [45]= [49]:=by decide
 have e2:Lib.cut [49] [47]=([49],[],false):=by decide
 refine⟨1,.inl ⟨⟨⟨by rw[e1,e2];simp,?_⟩,?_⟩,?_⟩,?_⟩
 .
  rw[e1,e2];intro d hd;simp at hd;subst hd;decide
 .
  rw[e1,e2];intro h;cases h
 . rw[e1,e2]
   decide
 .
  have e3:Lib.hasPrefix [49] [45]=false:=by decide
  rw[e3];rfl
theorem Fits.one:Fits 1 1:=⟨by decide,by decide⟩
def barAt(p:Nat × Nat × Rat × Rat)(r:Nat):Rat:=if r=2*p.1 then p.2.2.1 else if r=2*p.2.1 then -p.2.2.1 else if r=2*p.1+1 then p.2.2.2 else if r=2*p.2.1+1 then -p.2.2.2 else 0
def balM(vb:List (Nat × Nat × Rat × Rat))(nb:Nat)(vh:List Nat)(r c:Nat):Rat:=match vb[c]? with
 |some p=>barAt p r
 |none=>match vh[c - nb]? with
  |some h=>if nb<=c/\r=h then 1 else 0
  |none=>0
structure BarV (n:Nat) (js:List S2) (b:B6) (p:Nat × Nat × Rat × Rat):Prop where
 a:b.a=(p.1:Nat)
 b:b.b=(p.2.1:Nat)
 ne:p.1≠p.2.1
 ex:∃(s t:S2) (x1 y1 x2 y2:Rat),js[p.1]?=some s/\js[p.2.1]?=some t/\s.x.size<=n/\s.y.size<=n/\t.x.size<=n/\t.y.size<=n/\QOf s.x.data.toList x1/\QOf s.y.data.toList y1/\QOf t.x.data.toList x2/\QOf t.y.data.toList y2/\p.2.2.1=x2 - x1/\p.2.2.2=y2 - y1
structure HoldV (nj:Nat) (h:H3) (r:Nat):Prop where
 ex:∃j:Nat,h.j=(j:Nat)/\j<nj/\r=if h.w=1 then 2*j else 2*j+1
theorem Qlw{vb:List (Nat × Nat × Rat × Rat)}{nb k:Nat}{p:Nat × Nat × Rat × Rat}(hp:vb[k]?=some p)(hne:p.1≠p.2.1):
 ∀r c,updM (updM (updM (updM (balM (vb.take k) nb []) (2*p.1) k p.2.2.1) (2*p.2.1) k (-p.2.2.1)) (2*p.1+1) k p.2.2.2) (2*p.2.1+1) k (-p.2.2.2) r c=balM (vb.take (k+1)) nb [] r c:=by
 intro r c;have hk:=(gZ hp).1;by_cases hc:c=k
 .
  subst hc;have e1:(vb.take (c+1))[c]?=some p:=by rw[List.getElem?_take_of_lt (by omega)];exact hp
  have e2:(vb.take c)[c]?=none:=List.getElem?_eq_none (by rw[List.length_take];omega);simp only[balM,e1,e2,updM,barAt,and_true,List.getElem?_nil]
  repeat' split
  all_goals first|rfl|(exfalso;omega)
 .
  have e1:(vb.take (k+1))[c]?=(vb.take k)[c]?:=by
   rcases Nat.lt_or_ge c k with h|h
   . rw[List.getElem?_take_of_lt (by omega),List.getElem?_take_of_lt h]
   . rw[List.getElem?_eq_none (by rw[List.length_take];omega),List.getElem?_eq_none (by rw[List.length_take];omega)]
  simp only[balM,e1,updM,hc,and_false,if_false]
theorem Qlx{vb:List (Nat × Nat × Rat × Rat)}{vh:List Nat}{nb k h:Nat}(hl:vb.length=nb)(hp:vh[k]?=some h):∀r c,updM (balM vb nb (vh.take k)) h (nb+k) 1 r c=balM vb nb (vh.take (k+1)) r c:=by
 intro r c;have hk:=(gZ hp).1;rcases Nat.lt_or_ge c nb with hc|hc
 .
  obtain⟨p,hpp⟩:∃p,vb[c]?=some p:=⟨vb[c]'(by omega),gE (by omega)⟩;simp only[balM,hpp,updM];rw[if_neg (by omega)]
 .
  have hn:vb[c]?=none:=List.getElem?_eq_none (by omega);by_cases hck:c=nb+k
  .
   subst hck;have e1:(vh.take (k+1))[nb+k - nb]?=some h:=by rw[Nat.add_sub_cancel_left,List.getElem?_take_of_lt (by omega)];exact hp
   have e2:(vh.take k)[nb+k - nb]?=none:=List.getElem?_eq_none (by rw[List.length_take];omega);simp only[balM,hn,e1,e2,updM,and_true];by_cases hr:r=h
   . rw[if_pos hr,if_pos ⟨hc,hr⟩]
   . rw[if_neg hr,if_neg (fun x=>hr x.2)]
  .
   have e1:(vh.take (k+1))[c - nb]?=(vh.take k)[c - nb]?:=by
    rcases Nat.lt_or_ge (c - nb) k with h|h
    . rw[List.getElem?_take_of_lt (by omega),List.getElem?_take_of_lt h]
    . rw[List.getElem?_eq_none (by rw[List.length_take];omega),List.getElem?_eq_none (by rw[List.length_take];omega)]
   simp only[balM,hn,e1,updM,hck,and_false,if_false]
theorem Qly(a1 a2 a3:Option Addr)(c1 c2 c3 n K:Nat)(js:List S2)(bs:List B6)(hs:List H3)(vb:List (Nat × Nat × Rat × Rat))(vh:List Nat)(w:World)(hg:Glob w)(hf:FrRow w a1 a2 a3 c1 c2 c3 js bs hs)
 (hj:js.length<=10) (hb:bs.length<=24) (hh:hs.length<=20) (hvb:vb.length=bs.length) (hvh:vh.length=hs.length) (hbv:∀(i:Nat) (b:B6) (p:Nat × Nat × Rat × Rat),bs[i]?=some b->vb[i]?=some p->BarV n js b p) (hhv:∀(i:Nat) (h:H3) (r:Nat),hs[i]?=some h->vh[i]?=some r->HoldV js.length h r)
 (hn:n<=1048576) (hK:4*n+1+(4*n+1)+1<=K):
 Calls prog 117 #[.agg #[.slice a1 js.length c1,.slice a2 bs.length c2,.slice a3 hs.length c3]] w fun e w'=>∃(N W G:Nat) (gs:List Nat),N=2*js.length/\W=bs.length+hs.length/\e=.returned (.slice (some ⟨G,0,none⟩) N N)/\gs.length=N/\BM w w' #[.slice a1 js.length c1,.slice a2 bs.length c2,.slice a3 hs.length c3] G W K gs (balM vb bs.length vh):=by
 obtain⟨HG,HF,HVB,HVH,HBV,HHV⟩:=Ie hg hf hvb hvh hbv hhv;obtain⟨N,hN⟩:=nm (2*js.length);obtain⟨W,hW⟩:=nm (bs.length+hs.length);have hNi:2*(js.length:Int)=(N:Int):=by omega
 have hWi:(bs.length:Int)+(hs.length:Int)=(W:Int):=by omega
 obtain⟨HWY,HPT⟩:=Ia (fun u=>Qej a1 a2 a3 c1 c2 c3 js.length bs.length hs.length u hj) (fun u=>Qei a1 a2 a3 c1 c2 c3 js.length bs.length hs.length u hb hh);simp only[hNi] at HWY;simp only[hWi] at HPT;obtain⟨HBL,HN,HW⟩:=Ib (fun u=>Qgv N W u (by omega) (by omega)) hN hW;clear hg hf hvb hvh hbv hhv hNi hWi hN hW;obtain⟨F,hF⟩:∃F:Array Value,#[.slice a1 js.length c1,.slice a2 bs.length c2,.slice a3 hs.length c3]=F:=⟨_,rfl⟩;obtain⟨V,hV⟩:=nm (w.alloc (.cells #[.slice a1 js.length c1,.slice a2 bs.length c2,.slice a3 hs.length c3] 54));obtain⟨B0,hB0⟩:=nm w.heap.size;have HBV0:=Ua hV;have HBX:=Uf hV hB0;obtain⟨HV,HB0,HFE⟩:=Ib hV hB0 hF
 clear hV hB0 hF;go_enter func117,ntmps117;go_wp2_with fail;rw[HV.o,HB0.o];clear HV;have x0:V.cell? ⟨B0,0,none⟩=some (.slice a1 js.length c1):=by
  have h:=HBX.o.cell 0
  simpa using h
 have x1:V.cell? ⟨B0,1,none⟩=some (.slice (a2) bs.length c2):=by
  have h:=HBX.o.cell 1
  simpa using h
 have x2:V.cell? ⟨B0,2,none⟩=some (.slice (a3) hs.length c3):=by
  have h:=HBX.o.cell 2
  simpa using h
 have HX0:=HBX;have HBU:O (Below V.heap.size V V):=Hi bR;go_region_held3 (fun v=>v.cell? ⟨B0,0,none⟩=some (.slice a1 js.length c1)/\v.cell? ⟨B0,1,none⟩=some (.slice a2 bs.length c2)/\v.cell? ⟨B0,2,none⟩=some (.slice a3 hs.length c3)) ((first|(simp [*];done)|go_keep)) (first
  |(
   go_at_call 119;apply cM;apply HWY.o;rintro e v1 ⟨rfl,hb1⟩;have HBU1:O (Below V.heap.size V v1):=Hi ((by first|exact HBU.o|exact HBU.o.drew:Below V.heap.size V _).trans (hb1.mono (by first|exact HBU.o.size|exact HBU.o.drew.size)));clear hb1 HBU x0 x1 x2 HBX;have HBX:=Hi (HX0.o.below HBU1.o HX0.o.lt);have x0:v1.cell? ⟨B0,0,none⟩=some (.slice a1 js.length c1):=by
    have h:=HBX.o.cell 0
    simpa using h
   have x1:v1.cell? ⟨B0,1,none⟩=some (.slice (a2) bs.length c2):=by
    have h:=HBX.o.cell 1
    simpa using h
   have x2:v1.cell? ⟨B0,2,none⟩=some (.slice (a3) hs.length c3):=by
    have h:=HBX.o.cell 2
    simpa using h
   skip)
  |(
   go_at_call 118;apply cM;apply HPT.o;rintro e v2 ⟨rfl,hb1⟩;have HBU2:O (Below V.heap.size V v2):=Hi ((by first|exact HBU1.o|exact HBU1.o.drew:Below V.heap.size V _).trans (hb1.mono (by first|exact HBU1.o.size|exact HBU1.o.drew.size)));clear hb1 HBU1 x0 x1 x2 HBX;have HBX:=Hi (HX0.o.below HBU2.o HX0.o.lt);have x0:v2.cell? ⟨B0,0,none⟩=some (.slice a1 js.length c1):=by
    have h:=HBX.o.cell 0
    simpa using h
   have x1:v2.cell? ⟨B0,1,none⟩=some (.slice (a2) bs.length c2):=by
    have h:=HBX.o.cell 1
    simpa using h
   have x2:v2.cell? ⟨B0,2,none⟩=some (.slice (a3) hs.length c3):=by
    have h:=HBX.o.cell 2
    simpa using h
   skip)
  |(
   go_at_call 194;apply cM;apply HBL.o;rintro e v3 ⟨⟨G,gs,rfl,hgl,hgG,hout,hrow,hnd⟩,hb1⟩;have HBU3:O (Below V.heap.size V v3):=Hi ((by first|exact HBU2.o|exact HBU2.o.drew:Below V.heap.size V _).trans (hb1.mono (by first|exact HBU2.o.size|exact HBU2.o.drew.size)));have hGV:V.heap.size<=G:=Nat.le_trans HBU2.o.size hgG;obtain⟨HOUT,HROW,HND,HGL⟩:=Ic hout hrow hnd hgl;clear hb1 HBU2 x0 x1 x2 HBX hout hrow hnd hgl hgG;have HBX:=Hi (HX0.o.below HBU3.o HX0.o.lt);have x0:v3.cell? ⟨B0,0,none⟩=some (.slice a1 js.length c1):=by
    have h:=HBX.o.cell 0
    simpa using h
   have x1:v3.cell? ⟨B0,1,none⟩=some (.slice (a2) bs.length c2):=by
    have h:=HBX.o.cell 1
    simpa using h
   have x2:v3.cell? ⟨B0,2,none⟩=some (.slice (a3) hs.length c3):=by
    have h:=HBX.o.cell 2
    simpa using h
   skip)
  |fail)
 have HBM:O (BM w v3 F G W K gs (balM (vb.take 0) bs.length [])):=Hi (by
  have hVs:V.heap.size=w.heap.size+1∨w.heap.size<V.heap.size:=.inr (by rw[HB0.o];exact HX0.o.lt);have hlt:w.heap.size<V.heap.size:=by omega
  refine⟨⟨HBV0.o.trans (HBU3.o.mono HBV0.o.size),HOUT.o,fun r g hr=>⟨_,(HROW.o r g hr).1,by simp,fun c t ht=>?_⟩,HND.o,fun r g hr=>by have:=(HROW.o r g hr).2;omega,by omega,fun r g hr=>by have:=(HROW.o r g hr).2;omega⟩,by rw[<-HFE.o,HB0.o];exact HBX.o⟩;obtain⟨_,rfl⟩:=List.mem_replicate.1 (mO ht)
  exact⟨by simp[balM,FE.zero],by simp[FE.zero];omega⟩)
 clear HBX HOUT HROW HND HX0 HBU3 HWY HPT HBL hGV;go_wp2_with fail;go_loopw [18] (fun iv wr=>∃k:Nat,k<=bs.length/\iv=.int .i64 k/\BM w wr F G W K gs (balM (vb.take k) bs.length [])) (fun iv _=>bs.length - (intOf iv).toNat)
 case atStart=>exact⟨0,by omega,rfl,HBM.o⟩
 case round=>
  obtain⟨k,hk,rfl,hbm⟩:=hrel;have HM:=Hi hbm;clear hbm x0 x1 x2;by_cases hlt:k<bs.length
  .
   obtain⟨b,hbk⟩:∃b,bs[k]?=some b:=⟨bs[k],gE hlt⟩;obtain⟨p,hpk⟩:∃p,vb[k]?=some p:=⟨vb[k]'(by have:=HVB.o;omega),gE (by have:=HVB.o;omega)⟩;have hbp:=HBV.o k b p hbk hpk;obtain⟨bb,bo,rfl,hbb,d0,d1,d2,d3,d4,d5⟩:=(HF.o.b.below HM.o.base).bar hbk;obtain⟨HBP,HPK,HBK⟩:=Ib hbp hpk hbk;have q1:((k:Int)<(bs.length:Int)):=by omega
   obtain⟨s,t,xs,ys,xt,yt,hs1,ht1,z1,z2,z3,z4,o1,o2,o3,o4,ex,ey⟩:=hbp.ex;rw[hbp.a] at d0;rw[hbp.b] at d1;obtain⟨X1,hX1⟩:=nm (wr.alloc (.cells #[.int .i64 (p.1:Nat),.int .i64 (p.2.1:Nat),.string b.c,.string b.e,.string b.l,.string b.m] 69));obtain⟨g0,hg0⟩:=nm wr.heap.size;have hbX:Below wr.heap.size wr X1:=by rw[<-hX1];exact(Below.refl _ _).alloc lZ _
   have hsX:SB X1 g0 69 #[.int .i64 (p.1:Nat),.int .i64 (p.2.1:Nat),.string b.c,.string b.e,.string b.l,.string b.m]:=by rw[<-hX1,<-hg0];exact SB.new wr _ _
   have HM1:=Hi (HM.o.below hbX);have HWAY:=Qlu a1 (some ⟨bb,bo,none⟩) a3 c1 c2 c3 bs.length hs.length p.1 p.2.1 n js b s t X1 (HG.o.below HM1.o.base) (HF.o.j.below HM1.o.base) hbp.a hbp.b hs1 ht1 hj z1 z2 z3 z4 (by omega) o1 o2 o3 o4;rw[hbp.a,hbp.b,<-ex,<-ey] at HWAY;obtain⟨HWAY,HSX⟩:=Ia HWAY hsX;have hp1:p.1<js.length:=(gZ hs1).1;have hp2:p.2.1<js.length:=(gZ ht1).1;obtain⟨HG0,HX1⟩:=Ia hg0 hX1;clear hbk hpk hbp hs1 ht1 z1 z2 z3 z4 o1 o2 o3 o4 ex ey hbX hsX hg0;have HBX:=Hi HM1.o.box;rw[HB0.o,<-HFE.o] at HBX;have x0:X1.cell? ⟨B0,0,none⟩=some (.slice a1 js.length c1):=by
    have h:=HBX.o.cell 0
    simpa using h
   have x1:X1.cell? ⟨B0,1,none⟩=some (.slice (some ⟨bb,bo,none⟩) bs.length c2):=by
    have h:=HBX.o.cell 1
    simpa using h
   have x2:X1.cell? ⟨B0,2,none⟩=some (.slice (a3) hs.length c3):=by
    have h:=HBX.o.cell 2
    simpa using h
   rw[<-hX1] at x0 x1 x2;clear hX1;go_wp2_with fail;rw[HX1.o,HG0.o];go_fit HWAY.o;rintro e w2 ⟨x1',x2',x3',y1',y2',y3',rfl,hbag⟩;obtain⟨nx,ax,lx,cx,mx,ox,px,rfl,rfl,rfl⟩:=Qbu (hbag.get (List.Mem.tail _ (List.Mem.head _))).1;obtain⟨ny,ay,ly,cy,my,oy,py,rfl,rfl,rfl⟩:=Qbu (hbag.get (List.Mem.head _)).1;obtain⟨hvx,hfx,_⟩:=hbag.get (List.Mem.tail _ (List.Mem.head _));obtain⟨hvy,hfy,_⟩:=hbag.get (List.Mem.head _);obtain⟨gx,hgx⟩:=nm w2.heap.size;obtain⟨Y,hY⟩:=nm ((w2.alloc (.cells #[.bool nx,.slice ax lx cx,.slice mx ox px] 128)).alloc (.cells #[.bool ny,.slice ay ly cy,.slice my oy py] 128));have hb2Y:Below w2.heap.size w2 Y:=by rw[<-hY];exact(bR.alloc lZ _).alloc (by simp) _
   have HSXB:=Ug hY hgx;have HSYB:O (SB Y (gx+1) 128 #[.bool ny,.slice ay ly cy,.slice my oy py]):=Hi (by rw[<-hY,<-hgx];exact Qax w2 _ _ _);have hb1Y:Below X1.heap.size X1 Y:=hbag.base.trans (hb2Y.mono hbag.base.size);obtain⟨HMY,HSBB,HVX,HVY⟩:=Ic (HM1.o.below hb1Y) (HSX.o.below hb1Y HSX.o.lt) (hvx.below hb2Y) (hvy.below hb2Y);have hK0:0<K:=by omega
   have HFT6:O (Fits p.2.2.1 K):=Hi (hfx.mono hK);have HFT7:O (Fits p.2.2.2 K):=Hi (hfy.mono hK);have HFN6:O (Fits (-p.2.2.1) K):=Hi HFT6.o.neg;have HFN7:O (Fits (-p.2.2.2) K):=Hi HFT7.o.neg;have hkW:k<W:=by have:=HW.o;omega
   obtain⟨RA,hRA⟩:=nm (2*p.1);obtain⟨RB,hRB⟩:=nm (2*p.2.1);obtain⟨RC,hRC⟩:=nm (2*p.1+1);obtain⟨RD,hRD⟩:=nm (2*p.2.1+1);have hN':=HN.o;have hpne:=HBP.o.ne;obtain⟨gA,hgA⟩:∃g,gs[RA]?=some g:=⟨gs[RA]'(by have:=HGL.o;omega),gE (by have:=HGL.o;omega)⟩;obtain⟨gB,hgB⟩:∃g,gs[RB]?=some g:=⟨gs[RB]'(by have:=HGL.o;omega),gE (by have:=HGL.o;omega)⟩;obtain⟨gC,hgC⟩:∃g,gs[RC]?=some g:=⟨gs[RC]'(by have:=HGL.o;omega),gE (by have:=HGL.o;omega)⟩;obtain⟨gD,hgD⟩:∃g,gs[RD]?=some g:=⟨gs[RD]'(by have:=HGL.o;omega),gE (by have:=HGL.o;omega)⟩;have lA:=HM.o.lt hgA;have lB:=HM.o.lt hgB;have lC:=HM.o.lt hgC;have lD:=HM.o.lt hgD;rw[HG0.o] at lA lB lC lD;have hgxl:g0<gx:=by
    have h1:=hbag.base.size;have h2:=HSX.o.lt;omega
   have nAG:=HM.o.ne RA gA hgA;have nBG:=HM.o.ne RB gB hgB;have nCG:=HM.o.ne RC gC hgC;have nDG:=HM.o.ne RD gD hgD;have nAB:gA≠gB:=fun h=>by have:=HM.o.nd RA RB gA hgA (by rw[h];exact hgB);omega
   have nCD:gC≠gD:=fun h=>by have:=HM.o.nd RC RD gC hgC (by rw[h];exact hgD);omega
   have iA:((RA:Int)<(N:Int)):=by omega
   have iB:((RB:Int)<(N:Int)):=by omega
   have iC:((RC:Int)<(N:Int)):=by omega
   have iD:((RD:Int)<(N:Int)):=by omega
   have ikW:((k:Int)<(W:Int)):=by omega
   have eA:2*(p.1:Int)=(RA:Int):=by omega
   have eB:2*(p.2.1:Int)=(RB:Int):=by omega
   have eC:2*(p.1:Int)+1=(RC:Int):=by omega
   have eD:2*(p.2.1:Int)+1=(RD:Int):=by omega
   obtain⟨HRA,HRB,HRC,HRD⟩:=Ic (fun u=>Qc6 p.1 u (by omega)) (fun u=>Qc6 p.2.1 u (by omega)) (fun u=>Qc7 p.1 u (by omega)) (fun u=>Qc7 p.2.1 u (by omega));simp only[eA] at HRA;simp only[eB] at HRB;simp only[eC] at HRC;simp only[eD] at HRD;have m1:gA≠g0:=by omega
   have m2:gB≠g0:=by omega
   have m3:gA≠gx:=by omega
   have m4:gB≠gx:=by omega
   have m5:gC≠g0:=by omega
   have m6:gD≠g0:=by omega
   have m7:gC≠gx+1:=by omega
   have m8:gD≠gx+1:=by omega
   have m9:gA≠gx+1:=by omega
   have m10:gB≠gx+1:=by omega
   obtain⟨HgA,HgB,HgC,HgD,HRAE,HY,HGX⟩:=If hgA hgB hgC hgD (⟨hRA,hRB,hRC,hRD⟩:2*p.1=RA/\2*p.2.1=RB/\2*p.1+1=RC/\2*p.2.1+1=RD) hY hgx;clear hbag hvx hvy hfx hfy hb2Y hb1Y hgA hgB hgC hgD lA lB lC lD hRA hRB hRC hRD eA eB eC eD hY hgx hgxl hN' hpne;clear x0 x1 x2 d0 d1 d2 d3 d4 d5;go_wp2_with fail;rw[HY.o,HGX.o];have s0:=HSBB.o.cell 0;have s1:=HSBB.o.cell 1;have s2:=HMY.o.cell HgA.o;have s3:=HMY.o.cell HgB.o;have s4:=HSXB.o.cell 0;have s5:=HSXB.o.cell 1;have s6:=HSXB.o.cell 2;simp at s0 s1 s4 s5 s6;have HNG6:=Hi (Qco HVX.o)
   go_region_held3 (fun v=>v.cell? ⟨g0,0,none⟩=some (.int .i64 (p.1:Nat))/\v.cell? ⟨g0,1,none⟩=some (.int .i64 (p.2.1:Nat))/\v.cell? ⟨G,RA,none⟩=some (.slice (some ⟨gA,0,none⟩) W W)/\v.cell? ⟨G,RB,none⟩=some (.slice (some ⟨gB,0,none⟩) W W)/\v.cell? ⟨gx,0,none⟩=some (.bool nx)/\v.cell? ⟨gx,1,none⟩=some (.slice ax lx cx)/\v.cell? ⟨gx,2,none⟩=some (.slice mx ox px)) ((first|(simp [*];done)|go_keep)) (first
    |(
     go_at_call 197;apply cM;(first|apply HRA.o|apply HRB.o)
     rintro e vz ⟨rfl,rfl⟩)
    |(
     go_at_call 196;apply cM;(first|exact HNG6.o|exact Qco (HVX.o.below bR.drew));rintro e v6 ⟨⟨vn,rfl,hvn⟩,hbn⟩;obtain⟨n6q,a6q,l6q,d6q,m6q,o6q,p6q,rfl,hvn⟩:=hvn;(first
       |have HB6:O (Below Y.heap.size Y v6):=Hi hbn
       |have HB6:O (Below Y.heap.size Y v6):=Hi (bR.drew.trans hbn))
     have HN6:O (FracV v6 (.agg #[.bool n6q,.slice a6q l6q d6q,.slice m6q o6q p6q]) (-p.2.2.1)):=Hi ⟨n6q,a6q,l6q,d6q,m6q,o6q,p6q,rfl,hvn⟩;clear hvn hbn s0 s1 s2 s3 s4 s5 s6;have HM6:=Hi (HMY.o.below HB6.o);have s0:=(HSBB.o.below HB6.o HSBB.o.lt).cell 0;have s1:=(HSBB.o.below HB6.o HSBB.o.lt).cell 1;have s2:=HM6.o.cell HgA.o;have s3:=HM6.o.cell HgB.o;have s4:=(HSXB.o.below HB6.o HSXB.o.lt).cell 0;have s5:=(HSXB.o.below HB6.o HSXB.o.lt).cell 1;have s6:=(HSXB.o.below HB6.o HSXB.o.lt).cell 2;simp at s0 s1 s4 s5 s6;obtain⟨e0,e1,e2,f0,f1,f2,f3,f4,f5⟩:=HM6.o.at HgA.o hkW;obtain⟨e3,e4,e5,k0,k1,k2,k3,k4,k5⟩:=HM6.o.at HgB.o hkW
     skip)
    |fail)
   obtain⟨Z,hZ⟩:=nm (set3 (set3 v6 gA k (.bool nx) (.slice ax lx cx) (.slice mx ox px)) gB k (.bool n6q) (.slice a6q l6q d6q) (.slice m6q o6q p6q));have HMa6:=HM6.o.put HgA.o hkW (HVX.o.below HB6.o) HFT6.o hK0;have HMZ:O (BM w Z F G W K gs _):=Hi (by
    rw[<-hZ]
    exact HMa6.put HgB.o hkW (HM6.o.keepV HgA.o HN6.o) HFN6.o hK0)
   have HVYZ:O (FracV Z (.agg #[.bool ny,.slice ay ly cy,.slice my oy py]) p.2.2.2):=Hi (by
    rw[<-hZ]
    exact HMa6.keepV HgB.o (HM6.o.keepV HgA.o (HVY.o.below HB6.o)))
   have HSBZ:O (SB Z g0 69 #[.int .i64 (p.1:Nat),.int .i64 (p.2.1:Nat),.string b.c,.string b.e,.string b.l,.string b.m]):=Hi (by
    rw[<-hZ]
    exact keep3 (keep3 (HSBB.o.below HB6.o HSBB.o.lt) (fun h=>m1 h.symm)) (fun h=>m2 h.symm))
   have HSYZ:O (SB Z (gx+1) 128 #[.bool ny,.slice ay ly cy,.slice my oy py]):=Hi (by
    rw[<-hZ]
    exact keep3 (keep3 (HSYB.o.below HB6.o HSYB.o.lt) (fun h=>m9 h.symm)) (fun h=>m10 h.symm))
   have hZ':=hZ;unfold set3 at hZ';rw[hZ'];clear hZ' hZ HMa6 s0 s1 s2 s3 s4 s5 s6 f0 f1 f2 f3 f4 f5 k0 k1 k2 k3 k4 k5 HM6 HN6 HB6 HVY HSBB HSYB HSXB HVX HNG6;have s0:=HSBZ.o.cell 0;have s1:=HSBZ.o.cell 1;have s2:=HMZ.o.cell HgC.o;have s3:=HMZ.o.cell HgD.o;have s4:=HSYZ.o.cell 0;have s5:=HSYZ.o.cell 1;have s6:=HSYZ.o.cell 2;simp at s0 s1 s4 s5 s6;have HNG7:=Hi (Qco HVYZ.o);go_wp2_with fail;go_region_held3 (fun v=>v.cell? ⟨g0,0,none⟩=some (.int .i64 (p.1:Nat))/\v.cell? ⟨g0,1,none⟩=some (.int .i64 (p.2.1:Nat))/\v.cell? ⟨G,RC,none⟩=some (.slice (some ⟨gC,0,none⟩) W W)/\v.cell? ⟨G,RD,none⟩=some (.slice (some ⟨gD,0,none⟩) W W)/\v.cell? ⟨gx+1,0,none⟩=some (.bool ny)/\v.cell? ⟨gx+1,1,none⟩=some (.slice ay ly cy)/\v.cell? ⟨gx+1,2,none⟩=some (.slice my oy py)) ((first|(simp [*];done)|go_keep)) (first
    |(
     go_at_call 198;apply cM;(first|apply HRC.o|apply HRD.o)
     rintro e vz ⟨rfl,rfl⟩)
    |(
     go_at_call 196;apply cM;(first|exact HNG7.o|exact Qco (HVYZ.o.below bR.drew));rintro e v7 ⟨⟨vn,rfl,hvn⟩,hbn⟩;obtain⟨n7q,a7q,l7q,d7q,m7q,o7q,p7q,rfl,hvn⟩:=hvn;(first
       |have HB7:O (Below Z.heap.size Z v7):=Hi hbn
       |have HB7:O (Below Z.heap.size Z v7):=Hi (bR.drew.trans hbn))
     have HN7:O (FracV v7 (.agg #[.bool n7q,.slice a7q l7q d7q,.slice m7q o7q p7q]) (-p.2.2.2)):=Hi ⟨n7q,a7q,l7q,d7q,m7q,o7q,p7q,rfl,hvn⟩;clear hvn hbn s0 s1 s2 s3 s4 s5 s6;have HM7:=Hi (HMZ.o.below HB7.o);have s0:=(HSBZ.o.below HB7.o HSBZ.o.lt).cell 0;have s1:=(HSBZ.o.below HB7.o HSBZ.o.lt).cell 1;have s2:=HM7.o.cell HgC.o;have s3:=HM7.o.cell HgD.o;have s4:=(HSYZ.o.below HB7.o HSYZ.o.lt).cell 0;have s5:=(HSYZ.o.below HB7.o HSYZ.o.lt).cell 1;have s6:=(HSYZ.o.below HB7.o HSYZ.o.lt).cell 2;simp at s0 s1 s4 s5 s6;obtain⟨e0,e1,e2,f0,f1,f2,f3,f4,f5⟩:=HM7.o.at HgC.o hkW;obtain⟨e3,e4,e5,k0,k1,k2,k3,k4,k5⟩:=HM7.o.at HgD.o hkW
     skip)
    |fail)
   obtain⟨Q,hQ⟩:∃Z,set3 (set3 v7 gC k (.bool ny) (.slice ay ly cy) (.slice my oy py)) gD k (.bool n7q) (.slice a7q l7q d7q) (.slice m7q o7q p7q)=Z:=⟨_,rfl⟩;have HMa7:=HM7.o.put HgC.o hkW (HVYZ.o.below HB7.o) HFT7.o hK0;have HMQ:O (BM w Q F G W K gs _):=Hi (by
    rw[<-hQ]
    exact HMa7.put HgD.o hkW (HM7.o.keepV HgC.o HN7.o) HFN7.o hK0)
   have hQ':=hQ;unfold set3 at hQ';rw[hQ'];have HMN:O (BM w Q F G W K gs (balM (vb.take (k+1)) bs.length [])):=Hi (HMQ.o.congr (fun r c=>by
    have h:=Qlw (nb:=bs.length) HPK.o HBP.o.ne r c;obtain⟨h1,h2,h3,h4⟩:=HRAE.o;rw[h3,h4,h1,h2] at h
    exact h))
   clear hQ' hQ HMa7 s0 s1 s2 s3 s4 s5 s6 f0 f1 f2 f3 f4 f5 k0 k1 k2 k3 k4 k5 HM7 HN7 HB7 HVYZ HSBZ HSYZ HNG7 HMQ HMZ;go_wp2;go_roundw
   case rel=>exact⟨k+1,by omega,by go_num,HMN.o⟩
   case measure=>simp[intOf];omega
  .
   obtain rfl:k=bs.length:=by omega
   have HM2:O (BM w wr F G W K gs (balM vb bs.length (vh.take 0))):=Hi (by
    have h:=HM.o;rw[<-HVB.o,List.take_length,HVB.o] at h
    exact h)
   have HBX:=Hi HM2.o.box;rw[HB0.o,<-HFE.o] at HBX;have x0:wr.cell? ⟨B0,0,none⟩=some (.slice a1 js.length c1):=by
    have h:=HBX.o.cell 0
    simpa using h
   have x1:wr.cell? ⟨B0,1,none⟩=some (.slice (a2) bs.length c2):=by
    have h:=HBX.o.cell 1
    simpa using h
   have x2:wr.cell? ⟨B0,2,none⟩=some (.slice (a3) hs.length c3):=by
    have h:=HBX.o.cell 2
    simpa using h
   clear HM HBM HBX;go_wp2_with fail;go_loopw [71] (fun iv wr=>∃k:Nat,k<=hs.length/\iv=.int .i64 k/\BM w wr F G W K gs (balM vb bs.length (vh.take k))) (fun iv _=>hs.length - (intOf iv).toNat)
   case atStart=>exact⟨0,by omega,rfl,HM2.o⟩
   case round=>
    obtain⟨k,hk,rfl,hbm⟩:=hrel;have HM:=Hi hbm;clear hbm x0 x1 x2;by_cases hlt:k<hs.length
    .
     obtain⟨h,hhk⟩:∃h,hs[k]?=some h:=⟨hs[k],gE hlt⟩;obtain⟨R,hRk⟩:∃R,vh[k]?=some R:=⟨vh[k]'(by have:=HVH.o;omega),gE (by have:=HVH.o;omega)⟩;obtain⟨j,hj1,hj2,hj3⟩:=(HHV.o k h R hhk hRk).ex;obtain⟨hb',ho',rfl,hhb,d0,d1,d2⟩:=(HF.o.h.below HM.o.base).hold hhk;rw[hj1] at d0;obtain⟨X1,hX1⟩:=nm (wr.alloc (.cells #[.int .i64 (j:Nat),.int .i64 h.w,.string h.q] 71));obtain⟨g0,hg0⟩:=nm wr.heap.size;have hbX:Below wr.heap.size wr X1:=by rw[<-hX1];exact(Below.refl _ _).alloc lZ _
     have HSX:=Uf hX1 hg0;have HM1:=Hi (HM.o.below hbX);have hRN:R<N:=by
      have:=HN.o
      split at hj3<;>omega
     obtain⟨gR,hgR⟩:∃g,gs[R]?=some g:=⟨gs[R]'(by have:=HGL.o;omega),gE (by have:=HGL.o;omega)⟩;have lR:=HM.o.lt hgR;rw[hg0] at lR;have m1:gR≠g0:=by omega
     have m2:=HM.o.ne R gR hgR;have m3:gR≠B0:=by
      have:=HM.o.los R gR hgR;have:=HB0.o;omega
     obtain⟨HgR,HRK⟩:=Ia hgR hRk;have eR:(if h.w=1 then 2*(j:Int) else 2*(j:Int)+1)=(R:Int):=by
      rw[hj3]
      split<;>simp
     have HHD:=Hi (fun u=>Qug j h.w h.q u (by omega));simp only[eR] at HHD;have HON:=Hi (fun u (hu:Below X1.heap.size X1 u)=>Qek (q:=1) (s:=⟨#[49]⟩) ((HG.o.below HM1.o.base).below hu) one_q (by decide));obtain⟨C,hC⟩:=nm (bs.length+k);have hCW:C<W:=by have:=HW.o;omega
     have wC:IntKind.i64.wrap ((bs.length:Int)+(k:Int))=(C:Int):=by rw[Qac _ (by omega) (by omega)];omega
     have q1:((k:Int)<(hs.length:Int)):=by omega
     have iR:((R:Int)<(N:Int)):=by omega
     have iC:((C:Int)<(W:Int)):=by omega
     have hK0:0<K:=by omega
     obtain⟨HCE,HX1,HG0⟩:=Ib hC hX1 hg0;clear hhk hRk hj1 hj2 hj3 hX1 hg0 hbX hgR lR eR hC hRN;go_wp2_with fail;rw[HX1.o,HG0.o];have HBX:=Hi HM1.o.box;rw[HB0.o,<-HFE.o] at HBX;have s0:=HSX.o.cell 0;have s1:=HSX.o.cell 1;have s2:=HSX.o.cell 2;have s3:=HM1.o.cell HgR.o;have s4:=HBX.o.cell 1;simp at s0 s1 s2 s4;have HBU:O (Below X1.heap.size X1 X1):=Hi bR;go_region_held3 (fun v=>v.cell? ⟨g0,0,none⟩=some (.int .i64 (j:Nat))/\v.cell? ⟨g0,1,none⟩=some (.int .i64 h.w)/\v.cell? ⟨g0,2,none⟩=some (.string h.q)/\v.cell? ⟨G,R,none⟩=some (.slice (some ⟨gR,0,none⟩) W W)/\v.cell? ⟨B0,1,none⟩=some (.slice a2 bs.length c2)) ((first|(simp [*];done)|go_keep)) (first
      |(
       go_at_call 199;apply cM;apply HHD.o;rintro e v1 ⟨rfl,hb1⟩;have HBU1:O (Below X1.heap.size X1 v1):=Hi ((by first|exact HBU.o|exact HBU.o.drew:Below X1.heap.size X1 _).trans (hb1.mono (by first|exact HBU.o.size|exact HBU.o.drew.size)));clear hb1 HBU s0 s1 s2 s3 s4;have s0:=(HSX.o.below HBU1.o HSX.o.lt).cell 0;have s1:=(HSX.o.below HBU1.o HSX.o.lt).cell 1;have s2:=(HSX.o.below HBU1.o HSX.o.lt).cell 2;have s3:=(HM1.o.below HBU1.o).cell HgR.o;have s4:=(HBX.o.below HBU1.o HBX.o.lt).cell 1;simp at s0 s1 s2 s4
       skip)
      |(
       go_at_call 149;apply cM;apply HON.o;(first|exact HBU1.o|exact HBU1.o.drew);rintro e v2 ⟨⟨vn,rfl,hvn⟩,hbn⟩;obtain⟨nq,aq,lq,dq,mq,oq,pq,rfl,hvn⟩:=hvn;have HBU2:O (Below X1.heap.size X1 v2):=Hi ((by first|exact HBU1.o|exact HBU1.o.drew:Below X1.heap.size X1 _).trans (hbn.mono (by first|exact HBU1.o.size|exact HBU1.o.drew.size)));have HV2:O (FracV v2 (.agg #[.bool nq,.slice aq lq dq,.slice mq oq pq]) 1):=Hi ⟨nq,aq,lq,dq,mq,oq,pq,rfl,hvn⟩;clear hvn hbn s0 s1 s2 s3 s4;have HM3:=Hi (HM1.o.below HBU2.o);have s0:=(HSX.o.below HBU2.o HSX.o.lt).cell 0;have s1:=(HSX.o.below HBU2.o HSX.o.lt).cell 1;have s2:=(HSX.o.below HBU2.o HSX.o.lt).cell 2;have s3:=HM3.o.cell HgR.o;have s4:=(HBX.o.below HBU2.o HBX.o.lt).cell 1;simp at s0 s1 s2 s4;obtain⟨e0,e1,e2,f0,f1,f2,f3,f4,f5⟩:=HM3.o.at HgR.o hCW
       skip)
      |fail)
     obtain⟨Q,hQ⟩:=nm (set3 v2 gR C (.bool nq) (.slice aq lq dq) (.slice mq oq pq));have HMN:O (BM w Q F G W K gs (balM vb bs.length (vh.take (k+1)))):=Hi (by
      rw[<-hQ];refine(HM3.o.put HgR.o hCW HV2.o (Fits.one.mono (by omega)) hK0).congr (fun r c=>?_);have h:=Qlx HVB.o HRK.o r c;rw[HCE.o] at h
      exact h)
     have hQ':=hQ;unfold set3 at hQ';rw[hQ'];clear hQ' hQ s0 s1 s2 s3 s4 f0 f1 f2 f3 f4 f5 HM3 HV2 HBU2 HBX;go_wp2;go_roundw
     case rel=>exact⟨k+1,by omega,by go_num,HMN.o⟩
     case measure=>simp[intOf];omega
    .
     obtain rfl:k=hs.length:=by omega
     have HME:O (BM w wr F G W K gs (balM vb bs.length vh)):=Hi (by
      have h:=HM.o;rw[<-HVH.o,List.take_length] at h
      exact h)
     clear HM;go_wp2;go_ret;exact⟨N,W,G,gs,HN.o.symm,HW.o.symm,rfl,HGL.o,by rw[HFE.o];exact HME.o⟩
end Go.Proofs.YtjgofdclmcpopaaGreatDoor
