/- package balance: Of. -/
import Derived.Test.YtbbkamnfjejceaaGreatDoorR44BalB
namespace Go.Proofs.YtbbkamnfjejceaaGreatDoor
open Go.RowKit
set_option linter.unusedVariables false
set_option linter.unusedSimpArgs false
theorem one_q:QOf (⟨#[49]⟩:ByteArray).data.toList 1:=by
 have e1:Lib.trimPrefix [49] [45]= [49]:=by decide
 have e2:Lib.cut [49] [47]=([49],[],false):=by decide
 refine⟨1,.inl ⟨⟨⟨by rw[e1,e2];simp,?_⟩,?_⟩,?_⟩,?_⟩
 ·
  rw[e1,e2];intro d hd;simp at hd;subst hd;decide
 ·
  rw[e1,e2];intro h;cases h
 · rw[e1,e2]
   decide
 ·
  have e3:Lib.hasPrefix [49] [45]=false:=by decide
  rw[e3];rfl
theorem Fits.one:Fits 1 1:=⟨by decide,by decide⟩
def barAt(p:Nat × Nat × Rat × Rat)(r:Nat):Rat:=if r=2*p.1 then p.2.2.1 else if r=2*p.2.1 then -p.2.2.1 else if r=2*p.1+1 then p.2.2.2 else if r=2*p.2.1+1 then -p.2.2.2 else 0
def balM(vb:List (Nat × Nat × Rat × Rat))(nb:Nat)(vh:List Nat)(r c:Nat):Rat:=match vb[c]? with
 |some p=>barAt p r
 |none=>match vh[c - nb]? with
  |some h=>if nb≤c∧r=h then 1 else 0
  |none=>0
structure BarV (n:Nat) (js:List S2) (b:B6) (p:Nat × Nat × Rat × Rat):Prop where
 a:b.a=(p.1:Nat)
 b:b.b=(p.2.1:Nat)
 ne:p.1≠p.2.1
 ex:∃(s t:S2) (x1 y1 x2 y2:Rat),js[p.1]?=some s∧js[p.2.1]?=some t∧s.x.size≤n∧s.y.size≤n∧t.x.size≤n∧t.y.size≤n∧QOf s.x.data.toList x1∧QOf s.y.data.toList y1∧QOf t.x.data.toList x2∧QOf t.y.data.toList y2∧p.2.2.1=x2 - x1∧p.2.2.2=y2 - y1
structure HoldV (nj:Nat) (h:H3) (r:Nat):Prop where
 ex:∃j:Nat,h.j=(j:Nat)∧j<nj∧r=if h.w=1 then 2*j else 2*j+1
theorem Qjs{vb:List (Nat × Nat × Rat × Rat)}{nb k:Nat}{p:Nat × Nat × Rat × Rat}(hp:vb[k]?=some p)(hne:p.1≠p.2.1):
 ∀r c,updM (updM (updM (updM (balM (vb.take k) nb []) (2*p.1) k p.2.2.1) (2*p.2.1) k (-p.2.2.1)) (2*p.1+1) k p.2.2.2) (2*p.2.1+1) k (-p.2.2.2) r c=balM (vb.take (k+1)) nb [] r c:=by
 intro r c;have hk:=(List.getElem?_eq_some_iff.1 hp).1;by_cases hc:c=k
 ·
  subst hc;have e1:(vb.take (c+1))[c]?=some p:=by rw[List.getElem?_take_of_lt (by omega)];exact hp
  have e2:(vb.take c)[c]?=none:=List.getElem?_eq_none (by rw[List.length_take];omega);simp only[balM,e1,e2,updM,barAt,and_true,List.getElem?_nil]
  repeat' split
  all_goals first|rfl|(exfalso;omega)
 ·
  have e1:(vb.take (k+1))[c]?=(vb.take k)[c]?:=by
   rcases Nat.lt_or_ge c k with h|h
   · rw[List.getElem?_take_of_lt (by omega),List.getElem?_take_of_lt h]
   · rw[List.getElem?_eq_none (by rw[List.length_take];omega),List.getElem?_eq_none (by rw[List.length_take];omega)]
  simp only[balM,e1,updM,hc,and_false,if_false]
theorem Qjt{vb:List (Nat × Nat × Rat × Rat)}{vh:List Nat}{nb k h:Nat}(hl:vb.length=nb)(hp:vh[k]?=some h):∀r c,updM (balM vb nb (vh.take k)) h (nb+k) 1 r c=balM vb nb (vh.take (k+1)) r c:=by
 intro r c;have hk:=(List.getElem?_eq_some_iff.1 hp).1;rcases Nat.lt_or_ge c nb with hc|hc
 ·
  obtain⟨p,hpp⟩:∃p,vb[c]?=some p:=⟨vb[c]'(by omega),List.getElem?_eq_getElem (by omega)⟩;simp only[balM,hpp,updM];rw[if_neg (by omega)]
 ·
  have hn:vb[c]?=none:=List.getElem?_eq_none (by omega);by_cases hck:c=nb+k
  ·
   subst hck;have e1:(vh.take (k+1))[nb+k - nb]?=some h:=by rw[Nat.add_sub_cancel_left,List.getElem?_take_of_lt (by omega)];exact hp
   have e2:(vh.take k)[nb+k - nb]?=none:=List.getElem?_eq_none (by rw[List.length_take];omega);simp only[balM,hn,e1,e2,updM,and_true];by_cases hr:r=h
   · rw[if_pos hr,if_pos ⟨hc,hr⟩]
   · rw[if_neg hr,if_neg (fun x=>hr x.2)]
  ·
   have e1:(vh.take (k+1))[c - nb]?=(vh.take k)[c - nb]?:=by
    rcases Nat.lt_or_ge (c - nb) k with h|h
    · rw[List.getElem?_take_of_lt (by omega),List.getElem?_take_of_lt h]
    · rw[List.getElem?_eq_none (by rw[List.length_take];omega),List.getElem?_eq_none (by rw[List.length_take];omega)]
   simp only[balM,hn,e1,updM,hck,and_false,if_false]
set_option maxRecDepth 100000 in
set_option maxHeartbeats 8000000 in
theorem Qju(a1 a2 a3:Option Addr)(c1 c2 c3 n K:Nat)(js:List S2)(bs:List B6)(hs:List H3)(vb:List (Nat × Nat × Rat × Rat))(vh:List Nat)(w:World)(hg:Glob w)(hf:FrRow w a1 a2 a3 c1 c2 c3 js bs hs)
 (hj:js.length≤10) (hb:bs.length≤24) (hh:hs.length≤20) (hvb:vb.length=bs.length) (hvh:vh.length=hs.length) (hbv:∀(i:Nat) (b:B6) (p:Nat × Nat × Rat × Rat),bs[i]?=some b→vb[i]?=some p→BarV n js b p) (hhv:∀(i:Nat) (h:H3) (r:Nat),hs[i]?=some h→vh[i]?=some r→HoldV js.length h r)
 (hn:n≤1048576) (hK:4*n+1+(4*n+1)+1≤K):
 Calls Tryz.prog 75 #[.agg #[.slice a1 js.length c1,.slice a2 bs.length c2,.slice a3 hs.length c3]] w fun e w'=>∃(N W G:Nat) (gs:List Nat),N=2*js.length∧W=bs.length+hs.length∧e=.returned (.slice (some ⟨G,0,none⟩) N N)∧gs.length=N∧BM w w' #[.slice a1 js.length c1,.slice a2 bs.length c2,.slice a3 hs.length c3] G W K gs (balM vb bs.length vh):=by
 have HG:=Hi hg;have HF:=Hi hf;have HVB:=Hi hvb;have HVH:=Hi hvh;have HBV:=Hi hbv;have HHV:=Hi hhv;obtain⟨N,hN⟩:∃N,2*js.length=N:=⟨_,rfl⟩;obtain⟨W,hW⟩:∃W,bs.length+hs.length=W:=⟨_,rfl⟩;have hNi:2*(js.length:Int)=(N:Int):=by omega
 have hWi:(bs.length:Int)+(hs.length:Int)=(W:Int):=by omega
 have HWY:=Hi (fun u=>Qfs a1 a2 a3 c1 c2 c3 js.length bs.length hs.length u hj);have HPT:=Hi (fun u=>Qfr a1 a2 a3 c1 c2 c3 js.length bs.length hs.length u hb hh);simp only[hNi] at HWY;simp only[hWi] at HPT;have HBL:=Hi (fun u=>Qjr N W u (by omega) (by omega));have HN:=Hi hN;have HW:=Hi hW;clear hg hf hvb hvh hbv hhv hNi hWi hN hW;obtain⟨F,hF⟩:∃F:Array Value,#[.slice a1 js.length c1,.slice a2 bs.length c2,.slice a3 hs.length c3]=F:=⟨_,rfl⟩;obtain⟨V,hV⟩:∃V,w.alloc (.cells #[.slice a1 js.length c1,.slice a2 bs.length c2,.slice a3 hs.length c3] 54)=V:=⟨_,rfl⟩;obtain⟨B0,hB0⟩:∃B0,w.heap.size=B0:=⟨_,rfl⟩;have HBV0:Hid (Below w.heap.size w V):=Hi (by rw[←hV];exact(Below.refl _ _).alloc (Nat.le_refl _) _);have HBX:Hid (SB V B0 54 #[.slice a1 js.length c1,.slice a2 bs.length c2,.slice a3 hs.length c3]):=Hi (by rw[←hV,←hB0];exact SB.new w _ _);have HV:=Hi hV;have HB0:=Hi hB0;have HFE:=Hi hF
 clear hV hB0 hF;go_enter Tryz.func75,Tryz.ntmps75;go_wp2_with fail;rw[HV.out,HB0.out];clear HV;have x0:V.cell? ⟨B0,0,none⟩=some (.slice a1 js.length c1):=by
  have h:=HBX.out.cell 0
  simpa using h
 have x1:V.cell? ⟨B0,1,none⟩=some (.slice (a2) bs.length c2):=by
  have h:=HBX.out.cell 1
  simpa using h
 have x2:V.cell? ⟨B0,2,none⟩=some (.slice (a3) hs.length c3):=by
  have h:=HBX.out.cell 2
  simpa using h
 have HX0:=HBX;have HBU:Hid (Below V.heap.size V V):=Hi (Below.refl _ _);go_region_held3 (fun v=>v.cell? ⟨B0,0,none⟩=some (.slice a1 js.length c1)∧v.cell? ⟨B0,1,none⟩=some (.slice a2 bs.length c2)∧v.cell? ⟨B0,2,none⟩=some (.slice a3 hs.length c3)) ((first|(simp [*];done)|go_keep)) (first
  |(
   go_at_call 77;apply Calls.mono;apply HWY.out;rintro e v1 ⟨rfl,hb1⟩;have HBU1:Hid (Below V.heap.size V v1):=Hi ((by first|exact HBU.out|exact HBU.out.drew:Below V.heap.size V _).trans (hb1.mono (by first|exact HBU.out.size|exact HBU.out.drew.size)));clear hb1 HBU x0 x1 x2 HBX;have HBX:=Hi (HX0.out.below HBU1.out HX0.out.lt);have x0:v1.cell? ⟨B0,0,none⟩=some (.slice a1 js.length c1):=by
    have h:=HBX.out.cell 0
    simpa using h
   have x1:v1.cell? ⟨B0,1,none⟩=some (.slice (a2) bs.length c2):=by
    have h:=HBX.out.cell 1
    simpa using h
   have x2:v1.cell? ⟨B0,2,none⟩=some (.slice (a3) hs.length c3):=by
    have h:=HBX.out.cell 2
    simpa using h
   skip)
  |(
   go_at_call 76;apply Calls.mono;apply HPT.out;rintro e v2 ⟨rfl,hb1⟩;have HBU2:Hid (Below V.heap.size V v2):=Hi ((by first|exact HBU1.out|exact HBU1.out.drew:Below V.heap.size V _).trans (hb1.mono (by first|exact HBU1.out.size|exact HBU1.out.drew.size)));clear hb1 HBU1 x0 x1 x2 HBX;have HBX:=Hi (HX0.out.below HBU2.out HX0.out.lt);have x0:v2.cell? ⟨B0,0,none⟩=some (.slice a1 js.length c1):=by
    have h:=HBX.out.cell 0
    simpa using h
   have x1:v2.cell? ⟨B0,1,none⟩=some (.slice (a2) bs.length c2):=by
    have h:=HBX.out.cell 1
    simpa using h
   have x2:v2.cell? ⟨B0,2,none⟩=some (.slice (a3) hs.length c3):=by
    have h:=HBX.out.cell 2
    simpa using h
   skip)
  |(
   go_at_call 133;apply Calls.mono;apply HBL.out;rintro e v3 ⟨⟨G,gs,rfl,hgl,hgG,hout,hrow,hnd⟩,hb1⟩;have HBU3:Hid (Below V.heap.size V v3):=Hi ((by first|exact HBU2.out|exact HBU2.out.drew:Below V.heap.size V _).trans (hb1.mono (by first|exact HBU2.out.size|exact HBU2.out.drew.size)));have hGV:V.heap.size≤G:=Nat.le_trans HBU2.out.size hgG;have HOUT:=Hi hout;have HROW:=Hi hrow;have HND:=Hi hnd;have HGL:=Hi hgl;clear hb1 HBU2 x0 x1 x2 HBX hout hrow hnd hgl hgG;have HBX:=Hi (HX0.out.below HBU3.out HX0.out.lt);have x0:v3.cell? ⟨B0,0,none⟩=some (.slice a1 js.length c1):=by
    have h:=HBX.out.cell 0
    simpa using h
   have x1:v3.cell? ⟨B0,1,none⟩=some (.slice (a2) bs.length c2):=by
    have h:=HBX.out.cell 1
    simpa using h
   have x2:v3.cell? ⟨B0,2,none⟩=some (.slice (a3) hs.length c3):=by
    have h:=HBX.out.cell 2
    simpa using h
   skip)
  |fail)
 have HBM:Hid (BM w v3 F G W K gs (balM (vb.take 0) bs.length [])):=Hi (by
  have hVs:V.heap.size=w.heap.size+1∨w.heap.size<V.heap.size:=.inr (by rw[HB0.out];exact HX0.out.lt);have hlt:w.heap.size<V.heap.size:=by omega
  refine⟨⟨HBV0.out.trans (HBU3.out.mono HBV0.out.size),HOUT.out,fun r g hr=>⟨_,(HROW.out r g hr).1,by simp,fun c t ht=>?_⟩,HND.out,fun r g hr=>by have:=(HROW.out r g hr).2;omega,by omega,fun r g hr=>by have:=(HROW.out r g hr).2;omega⟩,by rw[←HFE.out,HB0.out];exact HBX.out⟩;obtain⟨_,rfl⟩:=List.mem_replicate.1 (List.mem_of_getElem? ht)
  exact⟨by simp[balM,FE.zero],by simp[FE.zero];omega⟩)
 clear HBX HOUT HROW HND HX0 HBU3 HWY HPT HBL hGV;go_wp2_with fail;go_loopw [18] (fun iv wr=>∃k:Nat,k≤bs.length∧iv=.int .i64 k∧BM w wr F G W K gs (balM (vb.take k) bs.length [])) (fun iv _=>bs.length - (intOf iv).toNat)
 case atStart=>exact⟨0,by omega,rfl,HBM.out⟩
 case round=>
  obtain⟨k,hk,rfl,hbm⟩:=hrel;have HM:=Hi hbm;clear hbm x0 x1 x2;by_cases hlt:k<bs.length
  ·
   obtain⟨b,hbk⟩:∃b,bs[k]?=some b:=⟨bs[k],List.getElem?_eq_getElem hlt⟩;obtain⟨p,hpk⟩:∃p,vb[k]?=some p:=⟨vb[k]'(by have:=HVB.out;omega),List.getElem?_eq_getElem (by have:=HVB.out;omega)⟩;have hbp:=HBV.out k b p hbk hpk;obtain⟨bb,bo,rfl,hbb,d0,d1,d2,d3,d4,d5⟩:=(HF.out.b.below HM.out.base).bar hbk;have HBP:=Hi hbp;have HPK:=Hi hpk;have HBK:=Hi hbk;have q1:((k:Int)<(bs.length:Int)):=by omega
   obtain⟨s,t,xs,ys,xt,yt,hs1,ht1,z1,z2,z3,z4,o1,o2,o3,o4,ex,ey⟩:=hbp.ex;rw[hbp.a] at d0;rw[hbp.b] at d1;obtain⟨X1,hX1⟩:∃X1,wr.alloc (.cells #[.int .i64 (p.1:Nat),.int .i64 (p.2.1:Nat),.string b.c,.string b.e,.string b.l,.string b.m] 68)=X1:=⟨_,rfl⟩;obtain⟨g0,hg0⟩:∃g0,wr.heap.size=g0:=⟨_,rfl⟩;have hbX:Below wr.heap.size wr X1:=by rw[←hX1];exact(Below.refl _ _).alloc (Nat.le_refl _) _
   have hsX:SB X1 g0 68 #[.int .i64 (p.1:Nat),.int .i64 (p.2.1:Nat),.string b.c,.string b.e,.string b.l,.string b.m]:=by rw[←hX1,←hg0];exact SB.new wr _ _
   have HM1:=Hi (HM.out.below hbX);have HWAY:=Qjp a1 (some ⟨bb,bo,none⟩) a3 c1 c2 c3 bs.length hs.length p.1 p.2.1 n js b s t X1 (HG.out.below HM1.out.base) (HF.out.j.below HM1.out.base) hbp.a hbp.b hs1 ht1 hj z1 z2 z3 z4 (by omega) o1 o2 o3 o4;rw[hbp.a,hbp.b,←ex,←ey] at HWAY;have HWAY:=Hi HWAY;have HSX:=Hi hsX;have hp1:p.1<js.length:=(List.getElem?_eq_some_iff.1 hs1).1;have hp2:p.2.1<js.length:=(List.getElem?_eq_some_iff.1 ht1).1;have HG0:=Hi hg0;have HX1:=Hi hX1;clear hbk hpk hbp hs1 ht1 z1 z2 z3 z4 o1 o2 o3 o4 ex ey hbX hsX hg0;have HBX:=Hi HM1.out.box;rw[HB0.out,←HFE.out] at HBX;have x0:X1.cell? ⟨B0,0,none⟩=some (.slice a1 js.length c1):=by
    have h:=HBX.out.cell 0
    simpa using h
   have x1:X1.cell? ⟨B0,1,none⟩=some (.slice (some ⟨bb,bo,none⟩) bs.length c2):=by
    have h:=HBX.out.cell 1
    simpa using h
   have x2:X1.cell? ⟨B0,2,none⟩=some (.slice (a3) hs.length c3):=by
    have h:=HBX.out.cell 2
    simpa using h
   rw[←hX1] at x0 x1 x2;clear hX1;go_wp2_with fail;rw[HX1.out,HG0.out];go_fit HWAY.out;rintro e w2 ⟨x1',x2',x3',y1',y2',y3',rfl,hbag⟩;obtain⟨nx,ax,lx,cx,mx,ox,px,rfl,rfl,rfl⟩:=Qbn (hbag.get (List.Mem.tail _ (List.Mem.head _))).1;obtain⟨ny,ay,ly,cy,my,oy,py,rfl,rfl,rfl⟩:=Qbn (hbag.get (List.Mem.head _)).1;obtain⟨hvx,hfx,_⟩:=hbag.get (List.Mem.tail _ (List.Mem.head _));obtain⟨hvy,hfy,_⟩:=hbag.get (List.Mem.head _);obtain⟨gx,hgx⟩:∃gx,w2.heap.size=gx:=⟨_,rfl⟩;obtain⟨Y,hY⟩:∃Y,(w2.alloc (.cells #[.bool nx,.slice ax lx cx,.slice mx ox px] 77)).alloc (.cells #[.bool ny,.slice ay ly cy,.slice my oy py] 77)=Y:=⟨_,rfl⟩;have hb2Y:Below w2.heap.size w2 Y:=by rw[←hY];exact((Below.refl _ _).alloc (Nat.le_refl _) _).alloc (by simp) _
   have HSXB:Hid (SB Y gx 77 #[.bool nx,.slice ax lx cx,.slice mx ox px]):=Hi (by rw[←hY,←hgx];exact(SB.new w2 _ _).alloc _);have HSYB:Hid (SB Y (gx+1) 77 #[.bool ny,.slice ay ly cy,.slice my oy py]):=Hi (by rw[←hY,←hgx];exact Qax w2 _ _ _);have hb1Y:Below X1.heap.size X1 Y:=hbag.base.trans (hb2Y.mono hbag.base.size);have HMY:=Hi (HM1.out.below hb1Y);have HSBB:=Hi (HSX.out.below hb1Y HSX.out.lt);have HVX:=Hi (hvx.below hb2Y);have HVY:=Hi (hvy.below hb2Y);have hK0:0<K:=by omega
   have HFT6:Hid (Fits p.2.2.1 K):=Hi (hfx.mono hK);have HFT7:Hid (Fits p.2.2.2 K):=Hi (hfy.mono hK);have HFN6:Hid (Fits (-p.2.2.1) K):=Hi HFT6.out.neg;have HFN7:Hid (Fits (-p.2.2.2) K):=Hi HFT7.out.neg;have hkW:k<W:=by have:=HW.out;omega
   obtain⟨RA,hRA⟩:∃RA,2*p.1=RA:=⟨_,rfl⟩;obtain⟨RB,hRB⟩:∃RB,2*p.2.1=RB:=⟨_,rfl⟩;obtain⟨RC,hRC⟩:∃RC,2*p.1+1=RC:=⟨_,rfl⟩;obtain⟨RD,hRD⟩:∃RD,2*p.2.1+1=RD:=⟨_,rfl⟩;have hN':=HN.out;have hpne:=HBP.out.ne;obtain⟨gA,hgA⟩:∃g,gs[RA]?=some g:=⟨gs[RA]'(by have:=HGL.out;omega),List.getElem?_eq_getElem (by have:=HGL.out;omega)⟩;obtain⟨gB,hgB⟩:∃g,gs[RB]?=some g:=⟨gs[RB]'(by have:=HGL.out;omega),List.getElem?_eq_getElem (by have:=HGL.out;omega)⟩;obtain⟨gC,hgC⟩:∃g,gs[RC]?=some g:=⟨gs[RC]'(by have:=HGL.out;omega),List.getElem?_eq_getElem (by have:=HGL.out;omega)⟩;obtain⟨gD,hgD⟩:∃g,gs[RD]?=some g:=⟨gs[RD]'(by have:=HGL.out;omega),List.getElem?_eq_getElem (by have:=HGL.out;omega)⟩;have lA:=HM.out.lt hgA;have lB:=HM.out.lt hgB;have lC:=HM.out.lt hgC;have lD:=HM.out.lt hgD;rw[HG0.out] at lA lB lC lD;have hgxl:g0<gx:=by
    have h1:=hbag.base.size;have h2:=HSX.out.lt;omega
   have nAG:=HM.out.ne RA gA hgA;have nBG:=HM.out.ne RB gB hgB;have nCG:=HM.out.ne RC gC hgC;have nDG:=HM.out.ne RD gD hgD;have nAB:gA≠gB:=fun h=>by have:=HM.out.nd RA RB gA hgA (by rw[h];exact hgB);omega
   have nCD:gC≠gD:=fun h=>by have:=HM.out.nd RC RD gC hgC (by rw[h];exact hgD);omega
   have iA:((RA:Int)<(N:Int)):=by omega
   have iB:((RB:Int)<(N:Int)):=by omega
   have iC:((RC:Int)<(N:Int)):=by omega
   have iD:((RD:Int)<(N:Int)):=by omega
   have ikW:((k:Int)<(W:Int)):=by omega
   have eA:2*(p.1:Int)=(RA:Int):=by omega
   have eB:2*(p.2.1:Int)=(RB:Int):=by omega
   have eC:2*(p.1:Int)+1=(RC:Int):=by omega
   have eD:2*(p.2.1:Int)+1=(RD:Int):=by omega
   have HRA:=Hi (fun u=>Qd0 p.1 u (by omega));have HRB:=Hi (fun u=>Qd0 p.2.1 u (by omega));have HRC:=Hi (fun u=>Qd1 p.1 u (by omega));have HRD:=Hi (fun u=>Qd1 p.2.1 u (by omega));simp only[eA] at HRA;simp only[eB] at HRB;simp only[eC] at HRC;simp only[eD] at HRD;have m1:gA≠g0:=by omega
   have m2:gB≠g0:=by omega
   have m3:gA≠gx:=by omega
   have m4:gB≠gx:=by omega
   have m5:gC≠g0:=by omega
   have m6:gD≠g0:=by omega
   have m7:gC≠gx+1:=by omega
   have m8:gD≠gx+1:=by omega
   have m9:gA≠gx+1:=by omega
   have m10:gB≠gx+1:=by omega
   have HgA:=Hi hgA;have HgB:=Hi hgB;have HgC:=Hi hgC;have HgD:=Hi hgD;have HRAE:=Hi (⟨hRA,hRB,hRC,hRD⟩:2*p.1=RA∧2*p.2.1=RB∧2*p.1+1=RC∧2*p.2.1+1=RD);have HY:=Hi hY;have HGX:=Hi hgx;clear hbag hvx hvy hfx hfy hb2Y hb1Y hgA hgB hgC hgD lA lB lC lD hRA hRB hRC hRD eA eB eC eD hY hgx hgxl hN' hpne;clear x0 x1 x2 d0 d1 d2 d3 d4 d5;go_wp2_with fail;rw[HY.out,HGX.out];have s0:=HSBB.out.cell 0;have s1:=HSBB.out.cell 1;have s2:=HMY.out.cell HgA.out;have s3:=HMY.out.cell HgB.out;have s4:=HSXB.out.cell 0;have s5:=HSXB.out.cell 1;have s6:=HSXB.out.cell 2;simp at s0 s1 s4 s5 s6;have HNG6:=Hi (Qda HVX.out)
   go_region_held3 (fun v=>v.cell? ⟨g0,0,none⟩=some (.int .i64 (p.1:Nat))∧v.cell? ⟨g0,1,none⟩=some (.int .i64 (p.2.1:Nat))∧v.cell? ⟨G,RA,none⟩=some (.slice (some ⟨gA,0,none⟩) W W)∧v.cell? ⟨G,RB,none⟩=some (.slice (some ⟨gB,0,none⟩) W W)∧v.cell? ⟨gx,0,none⟩=some (.bool nx)∧v.cell? ⟨gx,1,none⟩=some (.slice ax lx cx)∧v.cell? ⟨gx,2,none⟩=some (.slice mx ox px)) ((first|(simp [*];done)|go_keep)) (first
    |(
     go_at_call 136;apply Calls.mono;(first|apply HRA.out|apply HRB.out)
     rintro e vz ⟨rfl,rfl⟩)
    |(
     go_at_call 135;apply Calls.mono;(first|exact HNG6.out|exact Qda (HVX.out.below (Below.refl _ _).drew));rintro e v6 ⟨⟨vn,rfl,hvn⟩,hbn⟩;obtain⟨n6q,a6q,l6q,d6q,m6q,o6q,p6q,rfl,hvn⟩:=hvn;(first
       |have HB6:Hid (Below Y.heap.size Y v6):=Hi hbn
       |have HB6:Hid (Below Y.heap.size Y v6):=Hi ((Below.refl _ _).drew.trans hbn))
     have HN6:Hid (FracV v6 (.agg #[.bool n6q,.slice a6q l6q d6q,.slice m6q o6q p6q]) (-p.2.2.1)):=Hi ⟨n6q,a6q,l6q,d6q,m6q,o6q,p6q,rfl,hvn⟩;clear hvn hbn s0 s1 s2 s3 s4 s5 s6;have HM6:=Hi (HMY.out.below HB6.out);have s0:=(HSBB.out.below HB6.out HSBB.out.lt).cell 0;have s1:=(HSBB.out.below HB6.out HSBB.out.lt).cell 1;have s2:=HM6.out.cell HgA.out;have s3:=HM6.out.cell HgB.out;have s4:=(HSXB.out.below HB6.out HSXB.out.lt).cell 0;have s5:=(HSXB.out.below HB6.out HSXB.out.lt).cell 1;have s6:=(HSXB.out.below HB6.out HSXB.out.lt).cell 2;simp at s0 s1 s4 s5 s6;obtain⟨e0,e1,e2,f0,f1,f2,f3,f4,f5⟩:=HM6.out.at HgA.out hkW;obtain⟨e3,e4,e5,k0,k1,k2,k3,k4,k5⟩:=HM6.out.at HgB.out hkW
     skip)
    |fail)
   obtain⟨Z,hZ⟩:∃Z,set3 (set3 v6 gA k (.bool nx) (.slice ax lx cx) (.slice mx ox px)) gB k (.bool n6q) (.slice a6q l6q d6q) (.slice m6q o6q p6q)=Z:=⟨_,rfl⟩;have HMa6:=HM6.out.put HgA.out hkW (HVX.out.below HB6.out) HFT6.out hK0;have HMZ:Hid (BM w Z F G W K gs _):=Hi (by
    rw[←hZ]
    exact HMa6.put HgB.out hkW (HM6.out.keepV HgA.out HN6.out) HFN6.out hK0)
   have HVYZ:Hid (FracV Z (.agg #[.bool ny,.slice ay ly cy,.slice my oy py]) p.2.2.2):=Hi (by
    rw[←hZ]
    exact HMa6.keepV HgB.out (HM6.out.keepV HgA.out (HVY.out.below HB6.out)))
   have HSBZ:Hid (SB Z g0 68 #[.int .i64 (p.1:Nat),.int .i64 (p.2.1:Nat),.string b.c,.string b.e,.string b.l,.string b.m]):=Hi (by
    rw[←hZ]
    exact keep3 (keep3 (HSBB.out.below HB6.out HSBB.out.lt) (fun h=>m1 h.symm)) (fun h=>m2 h.symm))
   have HSYZ:Hid (SB Z (gx+1) 77 #[.bool ny,.slice ay ly cy,.slice my oy py]):=Hi (by
    rw[←hZ]
    exact keep3 (keep3 (HSYB.out.below HB6.out HSYB.out.lt) (fun h=>m9 h.symm)) (fun h=>m10 h.symm))
   have hZ':=hZ;unfold set3 at hZ';rw[hZ'];clear hZ' hZ HMa6 s0 s1 s2 s3 s4 s5 s6 f0 f1 f2 f3 f4 f5 k0 k1 k2 k3 k4 k5 HM6 HN6 HB6 HVY HSBB HSYB HSXB HVX HNG6;have s0:=HSBZ.out.cell 0;have s1:=HSBZ.out.cell 1;have s2:=HMZ.out.cell HgC.out;have s3:=HMZ.out.cell HgD.out;have s4:=HSYZ.out.cell 0;have s5:=HSYZ.out.cell 1;have s6:=HSYZ.out.cell 2;simp at s0 s1 s4 s5 s6;have HNG7:=Hi (Qda HVYZ.out);go_wp2_with fail;go_region_held3 (fun v=>v.cell? ⟨g0,0,none⟩=some (.int .i64 (p.1:Nat))∧v.cell? ⟨g0,1,none⟩=some (.int .i64 (p.2.1:Nat))∧v.cell? ⟨G,RC,none⟩=some (.slice (some ⟨gC,0,none⟩) W W)∧v.cell? ⟨G,RD,none⟩=some (.slice (some ⟨gD,0,none⟩) W W)∧v.cell? ⟨gx+1,0,none⟩=some (.bool ny)∧v.cell? ⟨gx+1,1,none⟩=some (.slice ay ly cy)∧v.cell? ⟨gx+1,2,none⟩=some (.slice my oy py)) ((first|(simp [*];done)|go_keep)) (first
    |(
     go_at_call 137;apply Calls.mono;(first|apply HRC.out|apply HRD.out)
     rintro e vz ⟨rfl,rfl⟩)
    |(
     go_at_call 135;apply Calls.mono;(first|exact HNG7.out|exact Qda (HVYZ.out.below (Below.refl _ _).drew));rintro e v7 ⟨⟨vn,rfl,hvn⟩,hbn⟩;obtain⟨n7q,a7q,l7q,d7q,m7q,o7q,p7q,rfl,hvn⟩:=hvn;(first
       |have HB7:Hid (Below Z.heap.size Z v7):=Hi hbn
       |have HB7:Hid (Below Z.heap.size Z v7):=Hi ((Below.refl _ _).drew.trans hbn))
     have HN7:Hid (FracV v7 (.agg #[.bool n7q,.slice a7q l7q d7q,.slice m7q o7q p7q]) (-p.2.2.2)):=Hi ⟨n7q,a7q,l7q,d7q,m7q,o7q,p7q,rfl,hvn⟩;clear hvn hbn s0 s1 s2 s3 s4 s5 s6;have HM7:=Hi (HMZ.out.below HB7.out);have s0:=(HSBZ.out.below HB7.out HSBZ.out.lt).cell 0;have s1:=(HSBZ.out.below HB7.out HSBZ.out.lt).cell 1;have s2:=HM7.out.cell HgC.out;have s3:=HM7.out.cell HgD.out;have s4:=(HSYZ.out.below HB7.out HSYZ.out.lt).cell 0;have s5:=(HSYZ.out.below HB7.out HSYZ.out.lt).cell 1;have s6:=(HSYZ.out.below HB7.out HSYZ.out.lt).cell 2;simp at s0 s1 s4 s5 s6;obtain⟨e0,e1,e2,f0,f1,f2,f3,f4,f5⟩:=HM7.out.at HgC.out hkW;obtain⟨e3,e4,e5,k0,k1,k2,k3,k4,k5⟩:=HM7.out.at HgD.out hkW
     skip)
    |fail)
   obtain⟨Q,hQ⟩:∃Z,set3 (set3 v7 gC k (.bool ny) (.slice ay ly cy) (.slice my oy py)) gD k (.bool n7q) (.slice a7q l7q d7q) (.slice m7q o7q p7q)=Z:=⟨_,rfl⟩;have HMa7:=HM7.out.put HgC.out hkW (HVYZ.out.below HB7.out) HFT7.out hK0;have HMQ:Hid (BM w Q F G W K gs _):=Hi (by
    rw[←hQ]
    exact HMa7.put HgD.out hkW (HM7.out.keepV HgC.out HN7.out) HFN7.out hK0)
   have hQ':=hQ;unfold set3 at hQ';rw[hQ'];have HMN:Hid (BM w Q F G W K gs (balM (vb.take (k+1)) bs.length [])):=Hi (HMQ.out.congr (fun r c=>by
    have h:=Qjs (nb:=bs.length) HPK.out HBP.out.ne r c;obtain⟨h1,h2,h3,h4⟩:=HRAE.out;rw[h3,h4,h1,h2] at h
    exact h))
   clear hQ' hQ HMa7 s0 s1 s2 s3 s4 s5 s6 f0 f1 f2 f3 f4 f5 k0 k1 k2 k3 k4 k5 HM7 HN7 HB7 HVYZ HSBZ HSYZ HNG7 HMQ HMZ;go_wp2;go_roundw
   case rel=>exact⟨k+1,by omega,by go_num,HMN.out⟩
   case measure=>simp[intOf];omega
  ·
   obtain rfl:k=bs.length:=by omega
   have HM2:Hid (BM w wr F G W K gs (balM vb bs.length (vh.take 0))):=Hi (by
    have h:=HM.out;rw[←HVB.out,List.take_length,HVB.out] at h
    exact h)
   have HBX:=Hi HM2.out.box;rw[HB0.out,←HFE.out] at HBX;have x0:wr.cell? ⟨B0,0,none⟩=some (.slice a1 js.length c1):=by
    have h:=HBX.out.cell 0
    simpa using h
   have x1:wr.cell? ⟨B0,1,none⟩=some (.slice (a2) bs.length c2):=by
    have h:=HBX.out.cell 1
    simpa using h
   have x2:wr.cell? ⟨B0,2,none⟩=some (.slice (a3) hs.length c3):=by
    have h:=HBX.out.cell 2
    simpa using h
   clear HM HBM HBX;go_wp2_with fail;go_loopw [71] (fun iv wr=>∃k:Nat,k≤hs.length∧iv=.int .i64 k∧BM w wr F G W K gs (balM vb bs.length (vh.take k))) (fun iv _=>hs.length - (intOf iv).toNat)
   case atStart=>exact⟨0,by omega,rfl,HM2.out⟩
   case round=>
    obtain⟨k,hk,rfl,hbm⟩:=hrel;have HM:=Hi hbm;clear hbm x0 x1 x2;by_cases hlt:k<hs.length
    ·
     obtain⟨h,hhk⟩:∃h,hs[k]?=some h:=⟨hs[k],List.getElem?_eq_getElem hlt⟩;obtain⟨R,hRk⟩:∃R,vh[k]?=some R:=⟨vh[k]'(by have:=HVH.out;omega),List.getElem?_eq_getElem (by have:=HVH.out;omega)⟩;obtain⟨j,hj1,hj2,hj3⟩:=(HHV.out k h R hhk hRk).ex;obtain⟨hb',ho',rfl,hhb,d0,d1,d2⟩:=(HF.out.h.below HM.out.base).hold hhk;rw[hj1] at d0;obtain⟨X1,hX1⟩:∃X1,wr.alloc (.cells #[.int .i64 (j:Nat),.int .i64 h.w,.string h.q] 122)=X1:=⟨_,rfl⟩;obtain⟨g0,hg0⟩:∃g0,wr.heap.size=g0:=⟨_,rfl⟩;have hbX:Below wr.heap.size wr X1:=by rw[←hX1];exact(Below.refl _ _).alloc (Nat.le_refl _) _
     have HSX:Hid (SB X1 g0 122 #[.int .i64 (j:Nat),.int .i64 h.w,.string h.q]):=Hi (by rw[←hX1,←hg0];exact SB.new wr _ _);have HM1:=Hi (HM.out.below hbX);have hRN:R<N:=by
      have:=HN.out
      split at hj3<;>omega
     obtain⟨gR,hgR⟩:∃g,gs[R]?=some g:=⟨gs[R]'(by have:=HGL.out;omega),List.getElem?_eq_getElem (by have:=HGL.out;omega)⟩;have lR:=HM.out.lt hgR;rw[hg0] at lR;have m1:gR≠g0:=by omega
     have m2:=HM.out.ne R gR hgR;have m3:gR≠B0:=by
      have:=HM.out.los R gR hgR;have:=HB0.out;omega
     have HgR:=Hi hgR;have HRK:=Hi hRk;have eR:(if h.w=1 then 2*(j:Int) else 2*(j:Int)+1)=(R:Int):=by
      rw[hj3]
      split<;>simp
     have HHD:=Hi (fun u=>Qrh j h.w h.q u (by omega));simp only[eR] at HHD;have HON:=Hi (fun u (hu:Below X1.heap.size X1 u)=>Qfu (q:=1) (s:=⟨#[49]⟩) ((HG.out.below HM1.out.base).below hu) one_q (by decide));obtain⟨C,hC⟩:∃C,bs.length+k=C:=⟨_,rfl⟩;have hCW:C<W:=by have:=HW.out;omega
     have wC:IntKind.i64.wrap ((bs.length:Int)+(k:Int))=(C:Int):=by rw[wrap_i64 _ (by omega) (by omega)];omega
     have q1:((k:Int)<(hs.length:Int)):=by omega
     have iR:((R:Int)<(N:Int)):=by omega
     have iC:((C:Int)<(W:Int)):=by omega
     have hK0:0<K:=by omega
     have HCE:=Hi hC;have HX1:=Hi hX1;have HG0:=Hi hg0;clear hhk hRk hj1 hj2 hj3 hX1 hg0 hbX hgR lR eR hC hRN;go_wp2_with fail;rw[HX1.out,HG0.out];have HBX:=Hi HM1.out.box;rw[HB0.out,←HFE.out] at HBX;have s0:=HSX.out.cell 0;have s1:=HSX.out.cell 1;have s2:=HSX.out.cell 2;have s3:=HM1.out.cell HgR.out;have s4:=HBX.out.cell 1;simp at s0 s1 s2 s4;have HBU:Hid (Below X1.heap.size X1 X1):=Hi (Below.refl _ _);go_region_held3 (fun v=>v.cell? ⟨g0,0,none⟩=some (.int .i64 (j:Nat))∧v.cell? ⟨g0,1,none⟩=some (.int .i64 h.w)∧v.cell? ⟨g0,2,none⟩=some (.string h.q)∧v.cell? ⟨G,R,none⟩=some (.slice (some ⟨gR,0,none⟩) W W)∧v.cell? ⟨B0,1,none⟩=some (.slice a2 bs.length c2)) ((first|(simp [*];done)|go_keep)) (first
      |(
       go_at_call 138;apply Calls.mono;apply HHD.out;rintro e v1 ⟨rfl,hb1⟩;have HBU1:Hid (Below X1.heap.size X1 v1):=Hi ((by first|exact HBU.out|exact HBU.out.drew:Below X1.heap.size X1 _).trans (hb1.mono (by first|exact HBU.out.size|exact HBU.out.drew.size)));clear hb1 HBU s0 s1 s2 s3 s4;have s0:=(HSX.out.below HBU1.out HSX.out.lt).cell 0;have s1:=(HSX.out.below HBU1.out HSX.out.lt).cell 1;have s2:=(HSX.out.below HBU1.out HSX.out.lt).cell 2;have s3:=(HM1.out.below HBU1.out).cell HgR.out;have s4:=(HBX.out.below HBU1.out HBX.out.lt).cell 1;simp at s0 s1 s2 s4
       skip)
      |(
       go_at_call 85;apply Calls.mono;apply HON.out;(first|exact HBU1.out|exact HBU1.out.drew);rintro e v2 ⟨⟨vn,rfl,hvn⟩,hbn⟩;obtain⟨nq,aq,lq,dq,mq,oq,pq,rfl,hvn⟩:=hvn;have HBU2:Hid (Below X1.heap.size X1 v2):=Hi ((by first|exact HBU1.out|exact HBU1.out.drew:Below X1.heap.size X1 _).trans (hbn.mono (by first|exact HBU1.out.size|exact HBU1.out.drew.size)));have HV2:Hid (FracV v2 (.agg #[.bool nq,.slice aq lq dq,.slice mq oq pq]) 1):=Hi ⟨nq,aq,lq,dq,mq,oq,pq,rfl,hvn⟩;clear hvn hbn s0 s1 s2 s3 s4;have HM3:=Hi (HM1.out.below HBU2.out);have s0:=(HSX.out.below HBU2.out HSX.out.lt).cell 0;have s1:=(HSX.out.below HBU2.out HSX.out.lt).cell 1;have s2:=(HSX.out.below HBU2.out HSX.out.lt).cell 2;have s3:=HM3.out.cell HgR.out;have s4:=(HBX.out.below HBU2.out HBX.out.lt).cell 1;simp at s0 s1 s2 s4;obtain⟨e0,e1,e2,f0,f1,f2,f3,f4,f5⟩:=HM3.out.at HgR.out hCW
       skip)
      |fail)
     obtain⟨Q,hQ⟩:∃Q,set3 v2 gR C (.bool nq) (.slice aq lq dq) (.slice mq oq pq)=Q:=⟨_,rfl⟩;have HMN:Hid (BM w Q F G W K gs (balM vb bs.length (vh.take (k+1)))):=Hi (by
      rw[←hQ];refine(HM3.out.put HgR.out hCW HV2.out (Fits.one.mono (by omega)) hK0).congr (fun r c=>?_);have h:=Qjt HVB.out HRK.out r c;rw[HCE.out] at h
      exact h)
     have hQ':=hQ;unfold set3 at hQ';rw[hQ'];clear hQ' hQ s0 s1 s2 s3 s4 f0 f1 f2 f3 f4 f5 HM3 HV2 HBU2 HBX;go_wp2;go_roundw
     case rel=>exact⟨k+1,by omega,by go_num,HMN.out⟩
     case measure=>simp[intOf];omega
    ·
     obtain rfl:k=hs.length:=by omega
     have HME:Hid (BM w wr F G W K gs (balM vb bs.length vh)):=Hi (by
      have h:=HM.out;rw[←HVH.out,List.take_length] at h
      exact h)
     clear HM;go_wp2;go_ret;exact⟨N,W,G,gs,HN.out.symm,HW.out.symm,rfl,HGL.out,by rw[HFE.out];exact HME.out⟩
end Go.Proofs.YtbbkamnfjejceaaGreatDoor
