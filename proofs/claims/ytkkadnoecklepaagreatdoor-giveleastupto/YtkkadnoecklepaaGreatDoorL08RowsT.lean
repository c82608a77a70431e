import Derived.Test.YtkkadnoecklepaaGreatDoorL07BalB
namespace Go.Proofs.YtkkadnoecklepaaGreatDoor
open Go.RowKit
open Go.Proofs.Tryz
set_option linter.unusedSimpArgs false
set_option linter.unusedVariables false
set_option maxHeartbeats 8000000
set_option maxRecDepth 1000000
theorem one_q:QOf (⟨#[49]⟩:ByteArray).data.toList 1:=by
 have a:Lib.trimPrefix [49] [45]= [49]:=by decide
 have b:Lib.cut [49] [47]=([49],[],false):=by decide
 refine⟨1,.inl ⟨⟨⟨by rw[a,b];simp,?_⟩,?_⟩,?_⟩,?_⟩
 .
  rw[a,b];intro d c;simp at c;subst c;decide
 .
  rw[a,b];intro h;cases h
 . rw[a,b]
   decide
 .
  have e:Lib.hasPrefix [49] [45]=false:=by decide
  rw[e];rfl
theorem Fits.one:Fits 1 1:=⟨by decide,by decide⟩
def barAt(p:Nat × Nat × Rat × Rat)(r:Nat):Rat:=if r=2*p.1 then p.2.2.1 else if r=2*p.2.1 then -p.2.2.1 else if r=2*p.1+1 then p.2.2.2 else if r=2*p.2.1+1 then -p.2.2.2 else 0
def balM(vb:List (Nat × Nat × Rat × Rat))(nb:Nat)(vh:Vy)(r c:Nat):Rat:=match vb[c]? with
 |some p=>barAt p r
 |none=>match vh[c - nb]? with
  |some h=>if nb<=c/\r=h then 1 else 0
  |none=>0
structure BarV (n:Nat) (js:List S2) (b:B6) (p:Nat × Nat × Rat × Rat):Prop where
 a:b.a=(p.1:Nat)
 b:b.b=(p.2.1:Nat)
 ne:p.1≠p.2.1
 ex:∃(s t:S2) (x1 y1 x2 y2:Rat),js[p.1]?=some s/\js[p.2.1]?=some t/\s.x.size<=n/\s.y.size<=n/\t.x.size<=n/\t.y.size<=n/\QOf s.x.data.toList x1/\QOf s.y.data.toList y1/\QOf t.x.data.toList x2/\QOf t.y.data.toList y2/\p.2.2.1=x2 - x1/\p.2.2.2=y2 - y1
structure HoldV (nj:Nat) (h:H3) (r:Nat):Prop where
 ex:∃j:Nat,h.j=(j:Nat)/\j<nj/\r=if h.w=1 then 2*j else 2*j+1
theorem Qm4{vb:List (Nat × Nat × Rat × Rat)}{nb k:Nat}{p:Nat × Nat × Rat × Rat}(b:vb[k]?=some p)(e:p.1≠p.2.1):
 ∀r c,updM (updM (updM (updM (balM (vb.take k) nb []) (2*p.1) k p.2.2.1) (2*p.2.1) k (-p.2.2.1)) (2*p.1+1) k p.2.2.2) (2*p.2.1+1) k (-p.2.2.2) r c=balM (vb.take (k+1)) nb [] r c:=by
 intro r c;have hk:=(gZ b).1;by_cases d:c=k
 .
  subst d;have a:(vb.take (c+1))[c]?=some p:=by rw[List.getElem?_take_of_lt (by omega)];exact b
  have f:(vb.take c)[c]?=none:=List.getElem?_eq_none (by rw[List.length_take];omega);simp only[balM,a,f,updM,barAt,and_true,List.getElem?_nil]
  repeat' split
  all_goals first|rfl|(exfalso;omega)
 .
  have a:(vb.take (k+1))[c]?=(vb.take k)[c]?:=by
   rcases Nat.lt_or_ge c k with h|h
   . rw[List.getElem?_take_of_lt (by omega),List.getElem?_take_of_lt h]
   . rw[List.getElem?_eq_none (by rw[List.length_take];omega),List.getElem?_eq_none (by rw[List.length_take];omega)]
  simp only[balM,a,updM,d,and_false,if_false]
theorem Qm5{vb:List (Nat × Nat × Rat × Rat)}{vh:Vy}{nb k h:Nat}(hl:vb.length=nb)(f:vh[k]?=some h):∀r c,updM (balM vb nb (vh.take k)) h (nb+k) 1 r c=balM vb nb (vh.take (k+1)) r c:=by
 intro r c;have hk:=(gZ f).1;rcases Nat.lt_or_ge c nb with g|g
 .
  obtain⟨p,d⟩:∃p,vb[c]?=some p:=⟨vb[c]'(by omega),gE (by omega)⟩;simp only[balM,d,updM];rw[if_neg (by omega)]
 .
  have i:vb[c]?=none:=List.getElem?_eq_none (by omega);by_cases a:c=nb+k
  .
   subst a;have e:(vh.take (k+1))[nb+k - nb]?=some h:=by rw[Nat.add_sub_cancel_left,List.getElem?_take_of_lt (by omega)];exact f
   have j:(vh.take k)[nb+k - nb]?=none:=List.getElem?_eq_none (by rw[List.length_take];omega);simp only[balM,i,e,j,updM,and_true];by_cases b:r=h
   . rw[if_pos b,if_pos ⟨g,b⟩]
   . rw[if_neg b,if_neg (fun x=>b x.2)]
  .
   have e:(vh.take (k+1))[c - nb]?=(vh.take k)[c - nb]?:=by
    rcases Nat.lt_or_ge (c - nb) k with h|h
    . rw[List.getElem?_take_of_lt (by omega),List.getElem?_take_of_lt h]
    . rw[List.getElem?_eq_none (by rw[List.length_take];omega),List.getElem?_eq_none (by rw[List.length_take];omega)]
   simp only[balM,i,e,updM,a,and_false,if_false]
theorem Qe8(a1 a2 a3:Vx)(c1 c2 c3 n K:Nat)(js:List S2)(y:List B6)(H:List H3)(vb:List (Nat × Nat × Rat × Rat))(vh:Vy)(w:Vz)(hg:Glob w)(hf:FrRow w a1 a2 a3 c1 c2 c3 js y H)
 (hj:js.length<=10) (hb:y.length<=24) (hh:H.length<=20) (cv:vb.length=y.length) (cw:vh.length=H.length) (cz:∀(i:Nat) (b:B6) (p:Nat × Nat × Rat × Rat),y[i]?=some b->vb[i]?=some p->BarV n js b p) (c0:∀(i:Nat) (h:H3) (r:Nat),H[i]?=some h->vh[i]?=some r->HoldV js.length h r)
 (hn:n<=1048576) (hK:4*n+1+(4*n+1)+1<=K):
 Calls prog 98 #[.agg #[.slice a1 js.length c1,.slice a2 y.length c2,.slice a3 H.length c3]] w fun e w'=>∃(N W G:Nat) (U:Vy),N=2*js.length/\W=y.length+H.length/\e=.returned (.slice (some ⟨G,0,none⟩) N N)/\U.length=N/\BM w w' #[.slice a1 js.length c1,.slice a2 y.length c2,.slice a3 H.length c3] G W K U (balM vb y.length vh):=by
 obtain⟨HG,HF,aw,b2,eg,eh⟩:=Ie hg hf cv cw cz c0;obtain⟨N,hN⟩:=nm (2*js.length);obtain⟨W,hW⟩:=nm (y.length+H.length);have c4:2*(js.length:Int)=(N:Int):=by omega
 have c5:(y.length:Int)+(H.length:Int)=(W:Int):=by omega
 obtain⟨b3,b4⟩:=Ia (fun u=>Qb6 a1 a2 a3 c1 c2 c3 js.length y.length H.length u hj) (fun u=>Qe1 a1 a2 a3 c1 c2 c3 js.length y.length H.length u hb hh);simp only[c4] at b3;simp only[c5] at b4;obtain⟨c6,HN,HW⟩:=Ib (fun u=>Qdp N W u (by omega) (by omega)) hN hW;clear hg hf cv cw cz c0 c4 c5 hN hW;obtain⟨F,hF⟩:∃F:Vw,#[.slice a1 js.length c1,.slice a2 y.length c2,.slice a3 H.length c3]=F:=⟨_,rfl⟩;obtain⟨V,hV⟩:=nm (w.alloc (.cells #[.slice a1 js.length c1,.slice a2 y.length c2,.slice a3 H.length c3] 26));obtain⟨L,b5⟩:=nm w.heap.size;have br:=Ua hV;have d:=Uf hV b5;obtain⟨HV,ak,az⟩:=Ib hV b5 hF
 clear hV b5 hF;go_enter func98,ntmps98;go_wp2_with fail;rw[HV.o,ak.o];clear HV;have x0:V.cell? ⟨L,0,none⟩=some (.slice a1 js.length c1):=by
  have h:=d.o.cell 0
  simpa using h
 have x1:V.cell? ⟨L,1,none⟩=some (.slice (a2) y.length c2):=by
  have h:=d.o.cell 1
  simpa using h
 have x2:V.cell? ⟨L,2,none⟩=some (.slice (a3) H.length c3):=by
  have h:=d.o.cell 2
  simpa using h
 have ag:=d;have M:O (Bl V V):=Hi bR;go_region_held3 (fun v=>v.cell? ⟨L,0,none⟩=some (.slice a1 js.length c1)/\v.cell? ⟨L,1,none⟩=some (.slice a2 y.length c2)/\v.cell? ⟨L,2,none⟩=some (.slice a3 H.length c3)) ((first|(simp [*];done)|go_keep)) (first
  |(
   go_at_call 107;apply cM;apply b3.o;rintro e v1 ⟨rfl,P⟩;have f:=Hi ((by first|exact M.o|exact M.o.drew:Bl V _).trans (P.mono (by first|exact M.o.size|exact M.o.drew.size)));clear P M x0 x1 x2 d;have d:=Hi (ag.o.below f.o ag.o.lt);have x0:v1.cell? ⟨L,0,none⟩=some (.slice a1 js.length c1):=by
    have h:=d.o.cell 0
    simpa using h
   have x1:v1.cell? ⟨L,1,none⟩=some (.slice (a2) y.length c2):=by
    have h:=d.o.cell 1
    simpa using h
   have x2:v1.cell? ⟨L,2,none⟩=some (.slice (a3) H.length c3):=by
    have h:=d.o.cell 2
    simpa using h
   skip)
  |(
   go_at_call 62;apply cM;apply b4.o;rintro e v2 ⟨rfl,P⟩;have x:=Hi ((by first|exact f.o|exact f.o.drew:Bl V _).trans (P.mono (by first|exact f.o.size|exact f.o.drew.size)));clear P f x0 x1 x2 d;have d:=Hi (ag.o.below x.o ag.o.lt);have x0:v2.cell? ⟨L,0,none⟩=some (.slice a1 js.length c1):=by
    have h:=d.o.cell 0
    simpa using h
   have x1:v2.cell? ⟨L,1,none⟩=some (.slice (a2) y.length c2):=by
    have h:=d.o.cell 1
    simpa using h
   have x2:v2.cell? ⟨L,2,none⟩=some (.slice (a3) H.length c3):=by
    have h:=d.o.cell 2
    simpa using h
   skip)
  |(
   go_at_call 160;apply cM;apply c6.o;rintro e v3 ⟨⟨G,U,rfl,c7,c8,bt,bu,c9⟩,P⟩;have a0:=Hi ((by first|exact x.o|exact x.o.drew:Bl V _).trans (P.mono (by first|exact x.o.size|exact x.o.drew.size)));have ei:=Nat.le_trans x.o.size c8;obtain⟨bv,an,da,S⟩:=Ic bt bu c9 c7;clear P x x0 x1 x2 d bt bu c9 c7 c8;have d:=Hi (ag.o.below a0.o ag.o.lt);have x0:v3.cell? ⟨L,0,none⟩=some (.slice a1 js.length c1):=by
    have h:=d.o.cell 0
    simpa using h
   have x1:v3.cell? ⟨L,1,none⟩=some (.slice (a2) y.length c2):=by
    have h:=d.o.cell 1
    simpa using h
   have x2:v3.cell? ⟨L,2,none⟩=some (.slice (a3) H.length c3):=by
    have h:=d.o.cell 2
    simpa using h
   skip)
  |fail)
 have db:O (BM w v3 F G W K U (balM (vb.take 0) y.length [])):=Hi (by
  have eu:V.heap.size=w.heap.size+1∨w.heap.size<V.heap.size:=.inr (by rw[ak.o];exact ag.o.lt);have bi:w.heap.size<V.heap.size:=by omega
  refine⟨⟨br.o.trans (a0.o.mono br.o.size),bv.o,fun r g hr=>⟨_,(an.o r g hr).1,by simp,fun c t ht=>?_⟩,da.o,fun r g hr=>by have:=(an.o r g hr).2;omega,by omega,fun r g hr=>by have:=(an.o r g hr).2;omega⟩,by rw[<-az.o,ak.o];exact d.o⟩;obtain⟨_,rfl⟩:=List.mem_replicate.1 (mO ht)
  exact⟨by simp[balM,FE.zero],by simp[FE.zero];omega⟩)
 clear d bv an da ag a0 b3 b4 c6 ei;go_wp2_with fail;go_loopw [18] (fun iv wr=>∃k:Nat,k<=y.length/\iv=.int .i64 k/\BM w wr F G W K U (balM (vb.take k) y.length [])) (fun iv _=>y.length - (intOf iv).toNat)
 case atStart=>exact⟨0,by omega,rfl,db.o⟩
 case round=>
  obtain⟨k,hk,rfl,a4⟩:=hrel;have X:=Hi a4;clear a4 x0 x1 x2;by_cases bi:k<y.length
  .
   obtain⟨b,bj⟩:∃b,y[k]?=some b:=⟨y[k],gE bi⟩;obtain⟨p,b6⟩:∃p,vb[k]?=some p:=⟨vb[k]'(by have:=aw.o;omega),gE (by have:=aw.o;omega)⟩;have ae:=eg.o k b p bj b6;obtain⟨bb,bo,rfl,ev,d0,d1,d2,d3,d4,d5⟩:=(HF.o.b.below X.o.base).bar bj;obtain⟨dc,ej,ew⟩:=Ib ae b6 bj;have q1:((k:Int)<(y.length:Int)):=by omega
   obtain⟨s,t,xs,ys,xt,yt,b7,b8,z1,z2,z3,z4,o1,o2,o3,o4,ex,ey⟩:=ae.ex;rw[ae.a] at d0;rw[ae.b] at d1;obtain⟨X1,aa⟩:=nm (wr.alloc (.cells #[.int .i64 (p.1:Nat),.int .i64 (p.2.1:Nat),.string b.c,.string b.e,.string b.l,.string b.m] 84));obtain⟨g0,ah⟩:=nm wr.heap.size;have a5:Bl wr X1:=by rw[<-aa];exact(Below.refl _ _).alloc lZ _
   have dd:SB X1 g0 84 #[.int .i64 (p.1:Nat),.int .i64 (p.2.1:Nat),.string b.c,.string b.e,.string b.l,.string b.m]:=by rw[<-aa,<-ah];exact SB.new wr _ _
   have ab:=Hi (X.o.below a5);have ao:=Qhl a1 (some ⟨bb,bo,none⟩) a3 c1 c2 c3 y.length H.length p.1 p.2.1 n js b s t X1 (HG.o.below ab.o.base) (HF.o.j.below ab.o.base) ae.a ae.b b7 b8 hj z1 z2 z3 z4 (by omega) o1 o2 o3 o4;rw[ae.a,ae.b,<-ex,<-ey] at ao;obtain⟨ao,z⟩:=Ia ao dd;have ez:=(gZ b7).1;have e6:=(gZ b8).1;obtain⟨bk,b9⟩:=Ia ah aa;clear bj b6 ae b7 b8 z1 z2 z3 z4 o1 o2 o3 o4 ex ey a5 dd ah;have d:=Hi ab.o.box;rw[ak.o,<-az.o] at d;have x0:X1.cell? ⟨L,0,none⟩=some (.slice a1 js.length c1):=by
    have h:=d.o.cell 0
    simpa using h
   have x1:X1.cell? ⟨L,1,none⟩=some (.slice (some ⟨bb,bo,none⟩) y.length c2):=by
    have h:=d.o.cell 1
    simpa using h
   have x2:X1.cell? ⟨L,2,none⟩=some (.slice (a3) H.length c3):=by
    have h:=d.o.cell 2
    simpa using h
   rw[<-aa] at x0 x1 x2;clear aa;go_wp2_with fail;rw[b9.o,bk.o];go_fit ao.o;rintro e w2 ⟨e7,e8,e9,fa,fb,fc,rfl,I⟩;obtain⟨nx,ax,lx,cx,mx,ox,px,rfl,rfl,rfl⟩:=Qb8 (I.get (List.Mem.tail _ (List.Mem.head _))).1;obtain⟨ny,ay,ly,cy,my,oy,py,rfl,rfl,rfl⟩:=Qb8 (I.get (List.Mem.head _)).1;obtain⟨de,df,_⟩:=I.get (List.Mem.tail _ (List.Mem.head _));obtain⟨dg,dh,_⟩:=I.get (List.Mem.head _);obtain⟨gx,bl⟩:=nm w2.heap.size;obtain⟨Y,hY⟩:=nm ((w2.alloc (.cells #[.bool nx,.slice ax lx cx,.slice mx ox px] 107)).alloc (.cells #[.bool ny,.slice ay ly cy,.slice my oy py] 107));have ap:Bl w2 Y:=by rw[<-hY];exact(bR.alloc lZ _).alloc (by simp) _
   have A:=Ug hY bl;have a6:O (SB Y (gx+1) 107 #[.bool ny,.slice ay ly cy,.slice my oy py]):=Hi (by rw[<-hY,<-bl];exact Qai w2 _ _ _);have a7:=I.base.trans (ap.mono I.base.size);obtain⟨ca,D,bm,di⟩:=Ic (ab.o.below a7) (z.o.below a7 z.o.lt) (de.below ap) (dg.below ap);have au:0<K:=by omega
   obtain⟨bw,bx⟩:=Ia (df.mono hK) (dh.mono hK);obtain⟨dj,dk⟩:=Ia bw.o.neg bx.o.neg;have ai:k<W:=by have:=HW.o;omega
   obtain⟨RA,dl⟩:=nm (2*p.1);obtain⟨RB,dm⟩:=nm (2*p.2.1);obtain⟨RC,dn⟩:=nm (2*p.1+1);obtain⟨RD,dp⟩:=nm (2*p.2.1+1);have ek:=HN.o;have dr:=dc.o.ne;obtain⟨gA,a8⟩:∃g,U[RA]?=some g:=⟨U[RA]'(by have:=S.o;omega),gE (by have:=S.o;omega)⟩;obtain⟨gB,a9⟩:∃g,U[RB]?=some g:=⟨U[RB]'(by have:=S.o;omega),gE (by have:=S.o;omega)⟩;obtain⟨gC,ba⟩:∃g,U[RC]?=some g:=⟨U[RC]'(by have:=S.o;omega),gE (by have:=S.o;omega)⟩;obtain⟨gD,bc⟩:∃g,U[RD]?=some g:=⟨U[RD]'(by have:=S.o;omega),gE (by have:=S.o;omega)⟩;have lA:=X.o.lt a8;have lB:=X.o.lt a9;have lC:=X.o.lt ba;have lD:=X.o.lt bc;rw[bk.o] at lA lB lC lD;have ds:g0<gx:=by
    have h1:=I.base.size;have h2:=z.o.lt;omega
   have fd:=X.o.ne RA gA a8;have fe:=X.o.ne RB gB a9;have ff:=X.o.ne RC gC ba;have fg:=X.o.ne RD gD bc;have fh:gA≠gB:=fun h=>by have:=X.o.nd RA RB gA a8 (by rw[h];exact a9);omega
   have fi:gC≠gD:=fun h=>by have:=X.o.nd RC RD gC ba (by rw[h];exact bc);omega
   have iA:((RA:Int)<(N:Int)):=by omega
   have iB:((RB:Int)<(N:Int)):=by omega
   have iC:((RC:Int)<(N:Int)):=by omega
   have iD:((RD:Int)<(N:Int)):=by omega
   have fj:((k:Int)<(W:Int)):=by omega
   have eA:2*(p.1:Int)=(RA:Int):=by omega
   have eB:2*(p.2.1:Int)=(RB:Int):=by omega
   have eC:2*(p.1:Int)+1=(RC:Int):=by omega
   have eD:2*(p.2.1:Int)+1=(RD:Int):=by omega
   obtain⟨dt,du,dv,dw⟩:=Ic (fun u=>Qcu p.1 u (by omega)) (fun u=>Qcu p.2.1 u (by omega)) (fun u=>Qcv p.1 u (by omega)) (fun u=>Qcv p.2.1 u (by omega));simp only[eA] at dt;simp only[eB] at du;simp only[eC] at dv;simp only[eD] at dw;have m1:gA≠g0:=by omega
   have m2:gB≠g0:=by omega
   have m3:gA≠gx:=by omega
   have m4:gB≠gx:=by omega
   have m5:gC≠g0:=by omega
   have m6:gD≠g0:=by omega
   have m7:gC≠gx+1:=by omega
   have m8:gD≠gx+1:=by omega
   have m9:gA≠gx+1:=by omega
   have em:gB≠gx+1:=by omega
   obtain⟨av,bd,be,bn,dx,HY,en⟩:=If a8 a9 ba bc (⟨dl,dm,dn,dp⟩:2*p.1=RA/\2*p.2.1=RB/\2*p.1+1=RC/\2*p.2.1+1=RD) hY bl;clear I de dg df dh ap a7 a8 a9 ba bc lA lB lC lD dl dm dn dp eA eB eC eD hY bl ds ek dr;clear x0 x1 x2 d0 d1 d2 d3 d4 d5;go_wp2_with fail;rw[HY.o,en.o];have s0:=D.o.cell 0;have s1:=D.o.cell 1;have s2:=ca.o.cell av.o;have s3:=ca.o.cell bd.o;have s4:=A.o.cell 0;have s5:=A.o.cell 1;have s6:=A.o.cell 2;simp at s0 s1 s4 s5 s6;have bz:=Hi (Qci bm.o)
   go_region_held3 (fun v=>v.cell? ⟨g0,0,none⟩=some (.int .i64 (p.1:Nat))/\v.cell? ⟨g0,1,none⟩=some (.int .i64 (p.2.1:Nat))/\v.cell? ⟨G,RA,none⟩=some (.slice (some ⟨gA,0,none⟩) W W)/\v.cell? ⟨G,RB,none⟩=some (.slice (some ⟨gB,0,none⟩) W W)/\v.cell? ⟨gx,0,none⟩=some (.bool nx)/\v.cell? ⟨gx,1,none⟩=some (.slice ax lx cx)/\v.cell? ⟨gx,2,none⟩=some (.slice mx ox px)) ((first|(simp [*];done)|go_keep)) (first
    |(
     go_at_call 108;apply cM;(first|apply dt.o|apply du.o)
     rintro e vz ⟨rfl,rfl⟩)
    |(
     go_at_call 117;apply cM;(first|exact bz.o|exact Qci (bm.o.below bR.drew));rintro e v6 ⟨⟨vn,rfl,E⟩,ad⟩;obtain⟨cb,cc,cd,ce,cf,cg,ch,rfl,E⟩:=E;(first
       |have J:O (Bl Y v6):=Hi ad
       |have J:O (Bl Y v6):=Hi (bR.drew.trans ad))
     have dy:O (FracV v6 (.agg #[.bool cb,.slice cc cd ce,.slice cf cg ch]) (-p.2.2.1)):=Hi ⟨cb,cc,cd,ce,cf,cg,ch,rfl,E⟩;clear E ad s0 s1 s2 s3 s4 s5 s6;have aj:=Hi (ca.o.below J.o);have s0:=(D.o.below J.o D.o.lt).cell 0;have s1:=(D.o.below J.o D.o.lt).cell 1;have s2:=aj.o.cell av.o;have s3:=aj.o.cell bd.o;have s4:=(A.o.below J.o A.o.lt).cell 0;have s5:=(A.o.below J.o A.o.lt).cell 1;have s6:=(A.o.below J.o A.o.lt).cell 2;simp at s0 s1 s4 s5 s6;obtain⟨e0,e1,e2,f0,f1,f2,f3,f4,f5⟩:=aj.o.at av.o ai;obtain⟨e3,e4,e5,k0,k1,k2,k3,k4,k5⟩:=aj.o.at bd.o ai
     skip)
    |fail)
   obtain⟨Z,hZ⟩:=nm (set3 (set3 v6 gA k (.bool nx) (.slice ax lx cx) (.slice mx ox px)) gB k (.bool cb) (.slice cc cd ce) (.slice cf cg ch));have bf:=aj.o.put av.o ai (bm.o.below J.o) bw.o au;have bp:O (BM w Z F G W K U _):=Hi (by
    rw[<-hZ]
    exact bf.put bd.o ai (aj.o.keepV av.o dy.o) dj.o au)
   have ar:O (FracV Z (.agg #[.bool ny,.slice ay ly cy,.slice my oy py]) p.2.2.2):=Hi (by
    rw[<-hZ]
    exact bf.keepV bd.o (aj.o.keepV av.o (di.o.below J.o)))
   have T:O (SB Z g0 84 #[.int .i64 (p.1:Nat),.int .i64 (p.2.1:Nat),.string b.c,.string b.e,.string b.l,.string b.m]):=Hi (by
    rw[<-hZ]
    exact keep3 (keep3 (D.o.below J.o D.o.lt) (fun h=>m1 h.symm)) (fun h=>m2 h.symm))
   have B:O (SB Z (gx+1) 107 #[.bool ny,.slice ay ly cy,.slice my oy py]):=Hi (by
    rw[<-hZ]
    exact keep3 (keep3 (a6.o.below J.o a6.o.lt) (fun h=>m9 h.symm)) (fun h=>em h.symm))
   have ci:=hZ;unfold set3 at ci;rw[ci];clear ci hZ bf s0 s1 s2 s3 s4 s5 s6 f0 f1 f2 f3 f4 f5 k0 k1 k2 k3 k4 k5 aj dy J di D a6 A bm bz;have s0:=T.o.cell 0;have s1:=T.o.cell 1;have s2:=bp.o.cell be.o;have s3:=bp.o.cell bn.o;have s4:=B.o.cell 0;have s5:=B.o.cell 1;have s6:=B.o.cell 2;simp at s0 s1 s4 s5 s6;have b0:=Hi (Qci ar.o);go_wp2_with fail;go_region_held3 (fun v=>v.cell? ⟨g0,0,none⟩=some (.int .i64 (p.1:Nat))/\v.cell? ⟨g0,1,none⟩=some (.int .i64 (p.2.1:Nat))/\v.cell? ⟨G,RC,none⟩=some (.slice (some ⟨gC,0,none⟩) W W)/\v.cell? ⟨G,RD,none⟩=some (.slice (some ⟨gD,0,none⟩) W W)/\v.cell? ⟨gx+1,0,none⟩=some (.bool ny)/\v.cell? ⟨gx+1,1,none⟩=some (.slice ay ly cy)/\v.cell? ⟨gx+1,2,none⟩=some (.slice my oy py)) ((first|(simp [*];done)|go_keep)) (first
    |(
     go_at_call 109;apply cM;(first|apply dv.o|apply dw.o)
     rintro e vz ⟨rfl,rfl⟩)
    |(
     go_at_call 117;apply cM;(first|exact b0.o|exact Qci (ar.o.below bR.drew));rintro e v7 ⟨⟨vn,rfl,E⟩,ad⟩;obtain⟨cj,ck,cl,cm,cn,cp,cq,rfl,E⟩:=E;(first
       |have af:O (Bl Z v7):=Hi ad
       |have af:O (Bl Z v7):=Hi (bR.drew.trans ad))
     have dz:O (FracV v7 (.agg #[.bool cj,.slice ck cl cm,.slice cn cp cq]) (-p.2.2.2)):=Hi ⟨cj,ck,cl,cm,cn,cp,cq,rfl,E⟩;clear E ad s0 s1 s2 s3 s4 s5 s6;have al:=Hi (bp.o.below af.o);have s0:=(T.o.below af.o T.o.lt).cell 0;have s1:=(T.o.below af.o T.o.lt).cell 1;have s2:=al.o.cell be.o;have s3:=al.o.cell bn.o;have s4:=(B.o.below af.o B.o.lt).cell 0;have s5:=(B.o.below af.o B.o.lt).cell 1;have s6:=(B.o.below af.o B.o.lt).cell 2;simp at s0 s1 s4 s5 s6;obtain⟨e0,e1,e2,f0,f1,f2,f3,f4,f5⟩:=al.o.at be.o ai;obtain⟨e3,e4,e5,k0,k1,k2,k3,k4,k5⟩:=al.o.at bn.o ai
     skip)
    |fail)
   obtain⟨Q,hQ⟩:∃Z,set3 (set3 v7 gC k (.bool ny) (.slice ay ly cy) (.slice my oy py)) gD k (.bool cj) (.slice ck cl cm) (.slice cn cp cq)=Z:=⟨_,rfl⟩;have b1:=al.o.put be.o ai (ar.o.below af.o) bx.o au;have ea:O (BM w Q F G W K U _):=Hi (by
    rw[<-hQ]
    exact b1.put bn.o ai (al.o.keepV be.o dz.o) dk.o au)
   have am:=hQ;unfold set3 at am;rw[am];have cr:O (BM w Q F G W K U (balM (vb.take (k+1)) y.length [])):=Hi (ea.o.congr (fun r c=>by
    have h:=Qm4 (nb:=y.length) ej.o dc.o.ne r c;obtain⟨h1,h2,h3,h4⟩:=dx.o;rw[h3,h4,h1,h2] at h
    exact h))
   clear am hQ b1 s0 s1 s2 s3 s4 s5 s6 f0 f1 f2 f3 f4 f5 k0 k1 k2 k3 k4 k5 al dz af ar T B b0 ea bp;go_wp2;go_roundw
   case rel=>exact⟨k+1,by omega,by go_num,cr.o⟩
   case measure=>simp[intOf];omega
  .
   obtain rfl:k=y.length:=by omega
   have eb:O (BM w wr F G W K U (balM vb y.length (vh.take 0))):=Hi (by
    have h:=X.o;rw[<-aw.o,List.take_length,aw.o] at h
    exact h)
   have d:=Hi eb.o.box;rw[ak.o,<-az.o] at d;have x0:wr.cell? ⟨L,0,none⟩=some (.slice a1 js.length c1):=by
    have h:=d.o.cell 0
    simpa using h
   have x1:wr.cell? ⟨L,1,none⟩=some (.slice (a2) y.length c2):=by
    have h:=d.o.cell 1
    simpa using h
   have x2:wr.cell? ⟨L,2,none⟩=some (.slice (a3) H.length c3):=by
    have h:=d.o.cell 2
    simpa using h
   clear X db d;go_wp2_with fail;go_loopw [71] (fun iv wr=>∃k:Nat,k<=H.length/\iv=.int .i64 k/\BM w wr F G W K U (balM vb y.length (vh.take k))) (fun iv _=>H.length - (intOf iv).toNat)
   case atStart=>exact⟨0,by omega,rfl,eb.o⟩
   case round=>
    obtain⟨k,hk,rfl,a4⟩:=hrel;have X:=Hi a4;clear a4 x0 x1 x2;by_cases bi:k<H.length
    .
     obtain⟨h,cs⟩:∃h,H[k]?=some h:=⟨H[k],gE bi⟩;obtain⟨R,ct⟩:∃R,vh[k]?=some R:=⟨vh[k]'(by have:=b2.o;omega),gE (by have:=b2.o;omega)⟩;obtain⟨j,ec,eo,cu⟩:=(eh.o k h R cs ct).ex;obtain⟨fk,fl,rfl,fm,d0,d1,d2⟩:=(HF.o.h.below X.o.base).hold cs;rw[ec] at d0;obtain⟨X1,aa⟩:=nm (wr.alloc (.cells #[.int .i64 (j:Nat),.int .i64 h.w,.string h.q] 86));obtain⟨g0,ah⟩:=nm wr.heap.size;have a5:Bl wr X1:=by rw[<-aa];exact(Below.refl _ _).alloc lZ _
     have z:=Uf aa ah;have ab:=Hi (X.o.below a5);have ep:R<N:=by
      have:=HN.o
      split at cu<;>omega
     obtain⟨gR,bg⟩:∃g,U[R]?=some g:=⟨U[R]'(by have:=S.o;omega),gE (by have:=S.o;omega)⟩;have lR:=X.o.lt bg;rw[ah] at lR;have m1:gR≠g0:=by omega
     have m2:=X.o.ne R gR bg;have m3:gR≠L:=by
      have:=X.o.los R gR bg;have:=ak.o;omega
     obtain⟨bh,eq⟩:=Ia bg ct;have eR:(if h.w=1 then 2*(j:Int) else 2*(j:Int)+1)=(R:Int):=by
      rw[cu]
      split<;>simp
     have ed:=Hi (fun u=>Qe2 j h.w h.q u (by omega));simp only[eR] at ed;have er:=Hi (fun u (hu:Bl X1 u)=>Qe5 (q:=1) (s:=⟨#[49]⟩) ((HG.o.below ab.o.base).below hu) one_q (by decide));obtain⟨C,hC⟩:=nm (y.length+k);have ee:C<W:=by have:=HW.o;omega
     have wC:IntKind.i64.wrap ((y.length:Int)+(k:Int))=(C:Int):=by rw[Qar _ (by omega) (by omega)];omega
     have q1:((k:Int)<(H.length:Int)):=by omega
     have iR:((R:Int)<(N:Int)):=by omega
     have iC:((C:Int)<(W:Int)):=by omega
     have au:0<K:=by omega
     obtain⟨es,b9,bk⟩:=Ib hC aa ah;clear cs ct ec eo cu aa ah a5 bg lR eR hC ep;go_wp2_with fail;rw[b9.o,bk.o];have d:=Hi ab.o.box;rw[ak.o,<-az.o] at d;have s0:=z.o.cell 0;have s1:=z.o.cell 1;have s2:=z.o.cell 2;have s3:=ab.o.cell bh.o;have s4:=d.o.cell 1;simp at s0 s1 s2 s4;have M:O (Bl X1 X1):=Hi bR;go_region_held3 (fun v=>v.cell? ⟨g0,0,none⟩=some (.int .i64 (j:Nat))/\v.cell? ⟨g0,1,none⟩=some (.int .i64 h.w)/\v.cell? ⟨g0,2,none⟩=some (.string h.q)/\v.cell? ⟨G,R,none⟩=some (.slice (some ⟨gR,0,none⟩) W W)/\v.cell? ⟨L,1,none⟩=some (.slice a2 y.length c2)) ((first|(simp [*];done)|go_keep)) (first
      |(
       go_at_call 56;apply cM;apply ed.o;rintro e v1 ⟨rfl,P⟩;have f:=Hi ((by first|exact M.o|exact M.o.drew:Bl X1 _).trans (P.mono (by first|exact M.o.size|exact M.o.drew.size)));clear P M s0 s1 s2 s3 s4;have s0:=(z.o.below f.o z.o.lt).cell 0;have s1:=(z.o.below f.o z.o.lt).cell 1;have s2:=(z.o.below f.o z.o.lt).cell 2;have s3:=(ab.o.below f.o).cell bh.o;have s4:=(d.o.below f.o d.o.lt).cell 1;simp at s0 s1 s2 s4
       skip)
      |(
       go_at_call 63;apply cM;apply er.o;(first|exact f.o|exact f.o.drew);rintro e v2 ⟨⟨vn,rfl,E⟩,ad⟩;obtain⟨nq,aq,lq,dq,mq,oq,pq,rfl,E⟩:=E;have x:=Hi ((by first|exact f.o|exact f.o.drew:Bl X1 _).trans (ad.mono (by first|exact f.o.size|exact f.o.drew.size)));have ef:O (FracV v2 (.agg #[.bool nq,.slice aq lq dq,.slice mq oq pq]) 1):=Hi ⟨nq,aq,lq,dq,mq,oq,pq,rfl,E⟩;clear E ad s0 s1 s2 s3 s4;have bq:=Hi (ab.o.below x.o);have s0:=(z.o.below x.o z.o.lt).cell 0;have s1:=(z.o.below x.o z.o.lt).cell 1;have s2:=(z.o.below x.o z.o.lt).cell 2;have s3:=bq.o.cell bh.o;have s4:=(d.o.below x.o d.o.lt).cell 1;simp at s0 s1 s2 s4;obtain⟨e0,e1,e2,f0,f1,f2,f3,f4,f5⟩:=bq.o.at bh.o ee
       skip)
      |fail)
     obtain⟨Q,hQ⟩:=nm (set3 v2 gR C (.bool nq) (.slice aq lq dq) (.slice mq oq pq));have cr:O (BM w Q F G W K U (balM vb y.length (vh.take (k+1)))):=Hi (by
      rw[<-hQ];refine(bq.o.put bh.o ee ef.o (Fits.one.mono (by omega)) au).congr (fun r c=>?_);have h:=Qm5 aw.o eq.o r c;rw[es.o] at h
      exact h)
     have am:=hQ;unfold set3 at am;rw[am];clear am hQ s0 s1 s2 s3 s4 f0 f1 f2 f3 f4 f5 bq ef x d;go_wp2;go_roundw
     case rel=>exact⟨k+1,by omega,by go_num,cr.o⟩
     case measure=>simp[intOf];omega
    .
     obtain rfl:k=H.length:=by omega
     have et:=Hi (by
      have h:=X.o;rw[<-b2.o,List.take_length] at h
      exact h)
     clear X;go_wp2;go_ret;exact⟨N,W,G,U,HN.o.symm,HW.o.symm,rfl,S.o,by rw[az.o];exact et.o⟩
theorem Qm6{P:Program}{e:Func}{p u v x:Tmp}{ty:Vr}(h:e.results=#[.tmp u,.tmp v,.tmp x,.cell p ty])(a:Vw)(w:Vz)(g:Nat)(t:Vr)(b:Vw)(fr:Nat × Nat)(d:TypeDesc)
 (f:a.getD p undef=.pointer (some ⟨g,0,none⟩)) (i:w.heap[g]?=some (.cells b t fr))
 (j:P.underlying ty=some d) (k:(match d with| .struct _| .array _ _=>true|_=>false)=true) (l:(P.info? ty).map (·.size)=some b.size):
 (results e a).run P w=.ok (.tuple #[a.getD u undef,a.getD v undef,a.getD x undef,.agg b]) w:=by
 have c:a[p]?.getD undef=.pointer (some ⟨g,0,none⟩):=by simpa using f
 simp[results,h,c,asAddr,run_loadVar_row w g t ty b fr d i j k l]
theorem GM.rows{w u:Vz}{B G W K:Nat}{d:Vy}{M:Nat->Nat->Rat}(h:GM w u B G W K d M)(H:∀r c,W<=c->M r c=0):
 ∃rs:List MR,rs.length=d.length/\QMat u (some ⟨G,0,none⟩) d.length W rs/\Oks u W K rs/\(∀r,r∈ rs->∀t,t∈ r.ts->t.k<=K)/\rs.map MR.q=(List.range d.length).map M:=by
 have hex:∀r:Nat,∃m:MR,∀g,d[r]?=some g->m.a=some ⟨g,0,none⟩/\m.cap=W/\m.ts.length=W/\QBlk u g m.ts/\∀(c:Nat) (t:FE),m.ts[c]?=some t->t.q=M r c/\t.k<=K:=fun r=>by
  rcases j:d[r]? with _|g
  . exact⟨MR.none,fun g I=>by cases I⟩
  . obtain⟨us,x,s,v⟩:=h.row r g j
    exact⟨⟨some ⟨g,0,none⟩,W,us⟩,fun N C=>by cases C;exact⟨rfl,rfl,s,x,v⟩⟩
 obtain⟨f,J⟩:=Classical.axiomOfChoice hex;have n:∀r,r<d.length->∃g,d[r]?=some g/\(f r).a=some ⟨g,0,none⟩/\(f r).cap=W/\(f r).ts.length=W/\QBlk u g (f r).ts/\∀(c:Nat) (t:FE),(f r).ts[c]?=some t->t.q=M r c/\t.k<=K:=fun r j=>⟨d[r],gE j,J r _ (gE j)⟩
 have y:∀m,m∈ (List.range d.length).map f->∃r,r<d.length/\f r=m:=fun m e=>by
  obtain⟨r,j,rfl⟩:=List.mem_map.1 e;exact⟨r,List.mem_range.1 j,rfl⟩
 have l:(d.map (slRow W)).toArray.toList=((List.range d.length).map f).flatMap MR.cells:=by
  rw[Qez,List.map_map];apply List.ext_getElem?;intro i;simp only[List.getElem?_map,Function.comp];rcases Nat.lt_or_ge i d.length with p|p
  .
   obtain⟨g,x,s,v,z,_⟩:=n i p;rw[x,List.getElem?_range p];simp[slRow,MR.val,s,v,z]
  . rw[List.getElem?_eq_none p,List.getElem?_eq_none (by simpa using p)]
    rfl
 have b:∀m,m∈ (List.range d.length).map f->QRow u m.a m.cap m.ts/\m.ts.length=W/\∀t,t∈ m.ts->t.k<=K:=fun m e=>by
  obtain⟨r,j,rfl⟩:=y m e;obtain⟨g,x,s,v,z,E,D⟩:=n r j;refine⟨?_,z,fun t A=>?_⟩
  . rw[s,v,<-z]
    exact E.row
  . obtain⟨i,p,L⟩:=List.getElem_of_mem A
    exact(D i t (by rw[<-L];exact gE p)).2
 refine⟨(List.range d.length).map f,by simp,⟨h.o.arow l (by simp),fun m e=>⟨(b m e).1,(b m e).2.1⟩⟩,fun m e=>⟨(b m e).1,(b m e).2.1,(b m e).2.2⟩,fun m e=>(b m e).2.2,?_⟩;rw[List.map_map];apply List.map_congr_left;intro r j;obtain⟨g,x,s,v,z,E,D⟩:=n r (List.mem_range.1 j);funext c
 show (f r).q c=M r c
 rcases Nat.lt_or_ge c W with F|F
 .
  obtain⟨t,A⟩:∃t,(f r).ts[c]?=some t:=⟨(f r).ts[c]'(by omega),gE (by omega)⟩;rw[MR.q_at A];exact(D c t A).1
 . rw[MR.q_beyond (by omega),H r c F]
theorem Qdq{vb:List (Nat × Nat × Rat × Rat)}{vh:Vy}{nb nh:Nat}(d:vb.length=nb)(e:vh.length=nh):∀r c,nb+nh<=c->balM vb nb vh r c=0:=by
 intro r c f;have a:vb[c]?=none:=List.getElem?_eq_none (by omega);have b:vh[c - nb]?=none:=List.getElem?_eq_none (by omega);simp only[balM,a,b]
theorem Qb9(f g h:Vx)(c1 c2 c3:Nat)(a:List S2)(b:List B6)(d:List H3)(w:Vz)(k:Glob w)(l:FrRow w f g h c1 c2 c3 a b d)(m:FrSized a b d)(i:FrameFault a b d 0 0):
 Calls prog 50 #[.agg #[.slice f a.length c1,.slice g b.length c2,.slice h d.length c3]] w fun e w'=>e=.returned (.agg #[.int .i64 0,.int .i64 0])/\Below w.heap.size w w':=by
 refine(Qew f g h c1 c2 c3 a b d w k l m).mono ?_;rintro e w' ⟨c,at_,rfl,j,n⟩;obtain⟨rfl,rfl⟩:=j.inj i;exact⟨rfl,n⟩
structure FrV (n:Nat) (js:List S2) (bs:List B6) (hs:List H3) (vb:List (Nat × Nat × Rat × Rat)) (vh:Vy):Prop where
 j:js.length<=10
 b:bs.length<=24
 h:hs.length<=20
 lb:vb.length=bs.length
 lh:vh.length=hs.length
 vb:∀(i:Nat) (b:B6) (p:Nat × Nat × Rat × Rat),bs[i]?=some b->vb[i]?=some p->BarV n js b p
 vh:∀(i:Nat) (h:H3) (r:Nat),hs[i]?=some h->vh[i]?=some r->HoldV js.length h r
 n:n<=1048576
def balRows(nj:Nat)(vb:List (Nat × Nat × Rat × Rat))(nb:Nat)(vh:Vy):List Vec:=(List.range (2*nj)).map (balM vb nb vh)
theorem Qe9(i l m:Vx)(c1 c2 c3 n K:Nat)(d:List S2)(c:List B6)(f:List H3)(vb:List (Nat × Nat × Rat × Rat))(vh:Vy)(w:Vz)(v:Glob w)(x:FrRow w i l m c1 c2 c3 d c f)(a:FrV n d c f vb vh)(y:4*n+1+(4*n+1)+1<=K):
 Calls prog 98 #[.agg #[.slice i d.length c1,.slice l c.length c2,.slice m f.length c3]] w fun e w'=>∃(N G:Nat) (rs:List MR),N=2*d.length/\e=.returned (.slice (some ⟨G,0,none⟩) N N)/\rs.length=N/\QMat w' (some ⟨G,0,none⟩) N (c.length+f.length) rs/\Oks w' (c.length+f.length) K rs/\(∀r,r∈ rs->∀t,t∈ r.ts->t.k<=K)/\rs.map MR.q=balRows d.length vb c.length vh/\Below w.heap.size w w':=by
 refine(Qe8 i l m c1 c2 c3 n K d c f vb vh w v x a.j a.b a.h a.lb a.lh a.vb a.vh a.n y).mono ?_;rintro e w' ⟨N,W,G,B,rfl,rfl,rfl,o,g⟩;obtain⟨rs,p,s,z,A,u⟩:=g.rows (Qdq a.lb a.lh);rw[o] at p s u;exact⟨_,G,rs,rfl,rfl,p,s,z,A,u,g.base⟩
theorem Qm7(q r s:Vx)(c1 c2 c3 n K:Nat)(k:List S2)(d:List B6)(f:List H3)(vb:List (Nat × Nat × Rat × Rat))(vh:Vy)(w:Vz)(hg:Glob w)(hf:FrRow w q r s c1 c2 c3 k d f)(hz:FrSized k d f)(aa:FrameFault k d f 0 0)(hv:FrV n k d f vb vh)(hK:4*n+1+(4*n+1)+1<=K)(ar:4*K+1<68719476000)
 (I:Nat->List Vec->List Vec->List Nat->Prop) (hI:Going K I) (h0:I 0 (balRows k.length vb d.length vh) [] []):
 Calls prog 95 #[.agg #[.slice q k.length c1,.slice r d.length c2,.slice s f.length c3]] w fun e w'=>(∃(L S:List Vec) (hh:Vy),e=.returned (.tuple #[.int .i64 (S.length:Nat),.int .i64 ((d.length:Int)+(f.length:Int) - (S.length:Nat)),.int .i64 (2*(k.length:Int) - (S.length:Nat)),.agg #[.int .i64 0,.int .i64 0]])/\S.length<=d.length+f.length/\I (d.length+f.length) L S hh)/\Below w.heap.size w w':=by
 obtain⟨HG,HF,HZ,au,HV,HI,H0⟩:=If hg hf hz aa hv hI h0;have n1:=hv.j;have n2:=hv.b;have n3:=hv.h;clear hg hf hz aa hv hI h0;obtain⟨c,J⟩:=nm w.heap.size;obtain⟨V0,E⟩:=nm ((w.alloc (.cells #[.slice q k.length c1,.slice r d.length c2,.slice s f.length c3] 26)).alloc (.cells #[.int .i64 0,.int .i64 0] 41));have l:=Ub E;have R:=Ug E J;have T:=Uh E J;obtain⟨ab,U,ad⟩:=Ib E J (Qb9 q r s c1 c2 c3 k d f V0 (HG.o.below l.o) (HF.o.below l.o) HZ.o au.o);clear E J
 go_enter func95,ntmps95;go_wp2_with fail;rw[ab.o,U.o];clear ab;go_fit ad.o;rintro e w1 ⟨rfl,m⟩;have ae:=R.o.below m R.o.lt;have F:=T.o.below m T.o.lt;obtain⟨V,hV⟩:=nm ((w1.setCell ⟨c+1,0,none⟩ (.int .i64 0)).setCell ⟨c+1,1,none⟩ (.int .i64 0));have ho:Only (c+1) w1 V:=by rw[<-hV];exact((Only.refl _ _).setCell _ _).setCell _ _
 have g:=Hi (ae.only ho (by omega));have i:O (SB V (c+1) 41 #[.int .i64 0,.int .i64 0]):=Hi (by rw[<-hV];exact(F.set 0 _).set 1 _);have z:=Hi ((l.o.trans (m.mono l.o.size)).trans (ho.below (by have:=U.o;omega) (l.o.trans (m.mono l.o.size)).size));obtain⟨z0,z1,-⟩:=zc F;have f0:=F.free 0;have f1:=F.free 1;obtain⟨k0,k1,-⟩:=zc i.o;have av:=Hi hV;rw[<-hV] at k0 k1;clear m ae F ho R T ad hV;go_wp2_with fail;rw[av.o];have a:=g;have H:V.cell? ⟨c,0,none⟩=some (.slice q k.length c1):=by
  have h:=a.o.cell 0
  simpa using h
 have x1:V.cell? ⟨c,1,none⟩=some (.slice r d.length c2):=by
  have h:=a.o.cell 1
  simpa using h
 have x2:V.cell? ⟨c,2,none⟩=some (.slice s f.length c3):=by
  have h:=a.o.cell 2
  simpa using h
 clear z0 z1 f0 f1 k0 k1;have t:O (Bl V V):=Hi bR;obtain⟨X,Y,af⟩:=Ib (fun u (hu:Bl V u)=>Qe9 q r s c1 c2 c3 n K k d f vb vh u (HG.o.below (z.o.trans (hu.mono z.o.size))) (HF.o.below (z.o.trans (hu.mono z.o.size))) HV.o hK) (fun u=>Qe1 q r s c1 c2 c3 k.length d.length f.length u n2 n3) (fun u=>Qb6 q r s c1 c2 c3 k.length d.length f.length u n1);obtain⟨W,hW⟩:=nm (d.length+f.length);obtain⟨Z,ag⟩:=nm (2*k.length);have eW:(d.length:Int)+(f.length:Int)=(W:Int):=by omega
 have eN:2*(k.length:Int)=(Z:Int):=by omega
 simp only[eW] at Y;simp only[eN] at af;rw[hW] at X;obtain⟨ah,aw,ax,ay⟩:=Ic hW ag eW eN;have az:W<=100:=by omega
 have a0:Z<=100:=by omega
 have a4:0<K:=by omega
 clear eW eN hW ag;go_region_held3 (fun v=>v.cell? ⟨c,0,none⟩=some (.slice q k.length c1)/\v.cell? ⟨c,1,none⟩=some (.slice r d.length c2)/\v.cell? ⟨c,2,none⟩=some (.slice s f.length c3)) ((first|(simp [*];done)|go_keep)) (first
  |(
   go_at_call 98;apply cM;apply X.o;(first|exact t.o|exact t.o.drew);rintro e v1 ⟨N,G,rs,hN,rfl,ai,aj,P,_,hq,m⟩;obtain rfl:Z=N:=by rw[hN];exact aw.o.symm
   obtain⟨ak,al,Q,HQ⟩:=Ic ai aj.row P hq;clear hN ai aj P hq;have A:=Hi ((by first|exact t.o|exact t.o.drew:Bl V _).trans (m.mono (by first|exact t.o.size|exact t.o.drew.size)));clear m t H x1 x2 a;have a:=Hi (g.o.below A.o g.o.lt);have H:v1.cell? ⟨c,0,none⟩=some (.slice q k.length c1):=by
    have h:=a.o.cell 0
    simpa using h
   have x1:v1.cell? ⟨c,1,none⟩=some (.slice r d.length c2):=by
    have h:=a.o.cell 1
    simpa using h
   have x2:v1.cell? ⟨c,2,none⟩=some (.slice s f.length c3):=by
    have h:=a.o.cell 2
    simpa using h
   skip)
  |(
   go_at_call 62;apply cM;apply Y.o;rintro e v2 ⟨rfl,M⟩;(first
     |have y:=Hi M
     |have y:O (Bl v1 v2):=Hi (bR.drew.trans M))
   have B:=Hi ((by first|exact A.o|exact A.o.drew:Bl V _).trans (M.mono (by first|exact A.o.size|exact A.o.drew.size)));clear M A H x1 x2 a;have a:=Hi (g.o.below B.o g.o.lt);have H:v2.cell? ⟨c,0,none⟩=some (.slice q k.length c1):=by
    have h:=a.o.cell 0
    simpa using h
   have x1:v2.cell? ⟨c,1,none⟩=some (.slice r d.length c2):=by
    have h:=a.o.cell 1
    simpa using h
   have x2:v2.cell? ⟨c,2,none⟩=some (.slice s f.length c3):=by
    have h:=a.o.cell 2
    simpa using h
   skip)
  |(
   go_at_call 155;apply cM
   (have am:=Qw0 (some ⟨G,0,none⟩) Z W K rs v2 I HI.o (al.o.below y.o) (Q.o.fr (Fr.of_below y.o)) (by rw[ak.o];omega) (by omega) a4 ar (by rw[HQ.o];exact H0.o)
    rw[ak.o] at am
    exact am)
   rintro e v3 ⟨⟨L,S,hh,rfl,a5,hi⟩,an⟩;have HJ:=Hi hi;clear hi;have x:=Hi ((by first|exact B.o|exact B.o.drew:Bl V _).trans (an.mono (by first|exact B.o.size|exact B.o.drew.size)));clear an B H x1 x2 a;have a:=Hi (g.o.below x.o g.o.lt);have H:v3.cell? ⟨c,0,none⟩=some (.slice q k.length c1):=by
    have h:=a.o.cell 0
    simpa using h
   have x1:v3.cell? ⟨c,1,none⟩=some (.slice r d.length c2):=by
    have h:=a.o.cell 1
    simpa using h
   have x2:v3.cell? ⟨c,2,none⟩=some (.slice s f.length c3):=by
    have h:=a.o.cell 2
    simpa using h
   skip)
  |fail)
 have a6:IntKind.i64.wrap ((W:Int) - (S.length:Int))=(W:Int) - (S.length:Int):=Qar _ (by omega) (by omega);have a7:IntKind.i64.wrap ((Z:Int) - (S.length:Int))=(Z:Int) - (S.length:Int):=Qar _ (by omega) (by omega);have ba:=Hi (i.o.below x.o i.o.lt);clear al Q HQ y X;go_wp2_with fail;go_region_held3 (fun v=>v.cell? ⟨c,0,none⟩=some (.slice q k.length c1)/\v.cell? ⟨c,1,none⟩=some (.slice r d.length c2)/\v.cell? ⟨c,2,none⟩=some (.slice s f.length c3)) ((first|(simp [*];done)|go_keep)) (first
  |(
   go_at_call 62;apply cM;apply Y.o;rintro e v4 ⟨rfl,ao⟩;have C:=Hi ((by first|exact x.o|exact x.o.drew:Bl V _).trans (ao.mono (by first|exact x.o.size|exact x.o.drew.size)));clear ao x H x1 x2 a;have a:=Hi (g.o.below C.o g.o.lt);have H:v4.cell? ⟨c,0,none⟩=some (.slice q k.length c1):=by
    have h:=a.o.cell 0
    simpa using h
   have x1:v4.cell? ⟨c,1,none⟩=some (.slice r d.length c2):=by
    have h:=a.o.cell 1
    simpa using h
   have x2:v4.cell? ⟨c,2,none⟩=some (.slice s f.length c3):=by
    have h:=a.o.cell 2
    simpa using h
   skip)
  |(
   go_at_call 107;apply cM;apply af.o;rintro e v5 ⟨rfl,ap⟩;have D:=Hi ((by first|exact C.o|exact C.o.drew:Bl V _).trans (ap.mono (by first|exact C.o.size|exact C.o.drew.size)));clear ap C H x1 x2 a;have a:=Hi (g.o.below D.o g.o.lt);have H:v5.cell? ⟨c,0,none⟩=some (.slice q k.length c1):=by
    have h:=a.o.cell 0
    simpa using h
   have x1:v5.cell? ⟨c,1,none⟩=some (.slice r d.length c2):=by
    have h:=a.o.cell 1
    simpa using h
   have x2:v5.cell? ⟨c,2,none⟩=some (.slice s f.length c3):=by
    have h:=a.o.cell 2
    simpa using h
   obtain⟨y0,y1,-⟩:=zc (i.o.below D.o i.o.lt);have g0:=(i.o.below D.o i.o.lt).free 0;have g1:=(i.o.below D.o i.o.lt).free 1
   skip)
  |fail)
 obtain⟨a8,a9⟩:=Ia (i.o.below D.o i.o.lt) (z.o.trans (D.o.mono z.o.size));have aq:w.heap.size<=c+1:=by have:=U.o;omega
 clear H x1 x2 y0 y1 g0 g1 a6 a7;go_wp2;refine bodyPost_ret (Qm6 rfl _ _ (c+1) 41 #[.int .i64 0,.int .i64 0] (0,0) _ rfl ((a8.o.set 0 _).set 1 _) underlying41 rfl Tryz.faultInfo) rfl ?_;exact⟨⟨L,S,hh,by rw[ax.o,ay.o];rfl,by rw[ah.o];exact a5,by rw[ah.o];exact HJ.o⟩,(a9.o.setCell (p:=⟨c+1,0,none⟩) aq _).setCell (p:=⟨c+1,1,none⟩) aq _⟩
def LoadsFault(nj en:Nat)(ls:List L3)(c at_:Int):Prop:=
 (20<ls.length/\c=2/\at_=(en:Nat))∨
 (ls.length<=20/\((∃(k:Nat) (l:L3),ls[k]?=some l/\(∀(i:Nat) (x:L3),i<k->ls[i]?=some x->IsJ nj x.j)/\¬IsJ nj l.j/\c=4/\at_=(en:Nat)+(k:Nat))∨
 ((∀(i:Nat) (x:L3),ls[i]?=some x->IsJ nj x.j)/\c=0/\at_=0)))
theorem Qfa(z T U W:Vx)(c1 c2 c3 X g nb nh:Nat)(ls:List L3)(w:Vz)(hl:ARow L3.cells w W X ls)(n1:g<=10)(n2:nb<=24)(n3:nh<=20)(aa:ls.length<=9223372036854775807):
 Calls prog 51 #[.agg #[.slice z g c1,.slice T nb c2,.slice U nh c3],.slice W ls.length X] w fun e w'=>∃c at_,e=.returned (.agg #[.int .i64 c,.int .i64 at_])/\LoadsFault g (nb+nh) ls c at_/\Below w.heap.size w w':=by
 have HL:=Hi hl;clear hl;obtain⟨m,d⟩:=nm w.heap.size;obtain⟨V,A⟩:=nm ((w.alloc (.cells #[.slice z g c1,.slice T nb c2,.slice U nh c3] 26)).alloc (.cells #[.int .i64 0,.int .i64 0] 41));have b:=Ub A;have s:=Ug A d;have f:=Uh A d;obtain⟨t,C⟩:=nm (nb+nh);have Y:(nb:Int)+(nh:Int)=(t:Int):=by omega
 obtain⟨-,x1,x2,-⟩:=zc s.o;obtain⟨H,y1,-⟩:=zc f.o;have I:=f.o.free 0;have J:=f.o.free 1;rw[<-A,<-d] at x1 x2 H y1 I J;obtain⟨D,n,E⟩:=Ib A d C;have q:w.heap.size<=m+1:=by omega
 have M:t<=44:=by omega
 clear A d C;go_enter func51,ntmps51;by_cases N:20<ls.length
 .
  have O:(20:Int)<(ls.length:Int):=by omega
  go_wp2;simp only[D.o,n.o,Y];refine bodyPost_ret (results_cell_row rfl _ _ (m+1) 41 #[.int .i64 2,.int .i64 (t:Int)] (0,0) _ rfl (by rw[<-n.o];exact Qai w _ _ _) underlying41 rfl Tryz.faultInfo) rfl ?_;exact⟨2,(t:Nat),rfl,.inl ⟨N,rfl,by rw[E.o]⟩,(by have:=n.o;subst this;exact Below.new2 _ _ _)⟩
 .
  have O:¬((20:Int)<(ls.length:Int)):=by omega
  go_wp2_with fail;simp only[D.o,n.o,Y];clear x1 x2 H y1 I J;go_loopw [21] (fun P wr=>∃k:Nat,k<=ls.length/\P=.int .i64 k/\(∀(i:Nat) (x:L3),i<k->ls[i]?=some x->IsJ g x.j)/\Below V.heap.size V wr) (fun P _=>ls.length - (intOf P).toNat)
  case atStart=>exact⟨0,by omega,rfl,fun i x hi=>by omega,Below.refl _ _⟩
  case round=>
   obtain⟨k,hk,rfl,r,K⟩:=hrel;obtain⟨Q,L,HX,a⟩:=Ic r K (s.o.below K s.o.lt) (f.o.below K f.o.lt);clear r K;by_cases R:k<ls.length
   .
    obtain⟨l,hl⟩:∃l,ls[k]?=some l:=⟨ls[k],gE R⟩;obtain⟨Z,lo,rfl,ab,d0,d1,d2⟩:=(HL.o.below (b.o.trans (L.o.mono b.o.size))).load hl;obtain⟨x0,-⟩:=zc HX.o;have q1:((k:Int)<(ls.length:Int)):=by omega
    have F:=Hi hl;have wE:IntKind.i64.wrap ((t:Int)+(k:Int))=(t:Int)+(k:Int):=Qar _ (by omega) (by omega);clear hl;by_cases B:IsJ g l.j
    .
     obtain⟨S,y⟩:=Ia (fun u=>Qbb z g c1 l.j u B) B;clear B;go_wp2_with fail;go_region_held3 (fun v=>v.cell? ⟨m,0,none⟩=some (.slice z g c1)/\v.cell? ⟨Z,lo+k*3,none⟩=some (.int .i64 l.j)) ((first|(simp [*];done)|go_keep)) (first
      |(
       go_at_call 106;apply cM;apply S.o
       rintro e v1 ⟨rfl,rfl⟩)
      |fail)
     go_wp2;go_roundw
     case rel=>
      refine⟨k+1,by omega,by go_num,fun i x hi G=>?_,L.o.drew⟩;rcases Nat.lt_or_ge i k with h|h
      . exact Q.o i x h G
      .
       obtain rfl:i=k:=by omega
       rw[<-Option.some.inj (F.o.symm.trans G)];exact y.o
     case measure=>simp[intOf];omega
    .
     obtain⟨S,y⟩:=Ia (fun u=>Qev z g c1 l.j u B) B;obtain⟨H,y1,-⟩:=zc a.o;have I:=a.o.free 0;have J:=a.o.free 1;clear B;go_wp2_with fail;go_region_held3 (fun v=>v.cell? ⟨m,0,none⟩=some (.slice z g c1)/\v.cell? ⟨Z,lo+k*3,none⟩=some (.int .i64 l.j)) ((first|(simp [*];done)|go_keep)) (first
      |(
       go_at_call 106;apply cM;apply S.o
       rintro e v1 ⟨rfl,rfl⟩)
      |fail)
     go_wp2;refine bodyPost_ret (results_cell_row rfl _ _ (m+1) 41 #[.int .i64 (4),.int .i64 ((t:Int)+(k:Int))] (0,0) _ rfl ((a.o.set 0 _).set 1 _) underlying41 rfl Tryz.faultInfo) rfl ?_;exact⟨4,_,rfl,.inr ⟨by omega,.inl ⟨k,l,F.o,Q.o,y.o,rfl,by rw[E.o]⟩⟩,(((b.o.trans (L.o.mono b.o.size)).setCell (p:=⟨m+1,0,none⟩) q _).setCell (p:=⟨m+1,1,none⟩) q _).drew⟩
   .
    obtain rfl:k=ls.length:=by omega
    obtain⟨H,y1,-⟩:=zc a.o;have I:=a.o.free 0;have J:=a.o.free 1;go_wp2;refine bodyPost_ret (results_cell_row rfl _ _ (m+1) 41 #[.int .i64 (0),.int .i64 (0)] (0,0) _ rfl ((a.o.set 0 _).set 1 _) underlying41 rfl Tryz.faultInfo) rfl ?_;exact⟨0,0,rfl,.inr ⟨by omega,.inr ⟨fun i x G=>Q.o i x (gZ G).1 G,rfl,rfl⟩⟩,((b.o.trans (L.o.mono b.o.size)).setCell (p:=⟨m+1,0,none⟩) q _).setCell (p:=⟨m+1,1,none⟩) q _⟩
theorem Qbe{P:Program}{q:Func}{p u:Tmp}{ty b:Vr}(h:q.results=#[.cell p ty,.cell u b])(a:Vw)(w:Vz)(g f:Nat)(t r:Vr)(i c:Vw)(fr e:Nat × Nat)(d j:TypeDesc)
 (s:a.getD p undef=.pointer (some ⟨g,0,none⟩)) (v:w.heap[g]?=some (.cells i t fr)) (k:a.getD u undef=.pointer (some ⟨f,0,none⟩)) (l:w.heap[f]?=some (.cells c r e))
 (x:P.underlying ty=some d) (y:(match d with| .struct _| .array _ _=>true|_=>false)=true) (z:(P.info? ty).map (·.size)=some i.size) (m:P.underlying b=some j) (n:(match j with| .struct _| .array _ _=>true|_=>false)=true) (o:(P.info? b).map (·.size)=some c.size):
 (results q a).run P w=.ok (.tuple #[.agg i,.agg c]) w:=by
 have A:a[p]?.getD undef=.pointer (some ⟨g,0,none⟩):=by simpa using s
 have B:a[u]?.getD undef=.pointer (some ⟨f,0,none⟩):=by simpa using k
 simp[results,h,A,B,asAddr,run_loadVar_row w g t ty i fr d v x y z,run_loadVar_row w f r b c e j l m n o]
def CarrySays(nb nh:Nat)(M:List Vec)(b:List Rat)(w:Vz)(e:Ending)(w':Vz):Prop:=
 ((e=.returned (.tuple #[.agg #[.slice none 0 0,.slice none 0 0],.agg #[.int .i64 8,.int .i64 0]])/\∀x,¬Sol (nb+nh) M b x)∨
  (e=.returned (.tuple #[.agg #[.slice none 0 0,.slice none 0 0],.agg #[.int .i64 9,.int .i64 0]])/\∃x y,Sol (nb+nh) M b x/\Sol (nb+nh) M b y/\∃c,c<nb+nh/\x c≠y c)∨
  (∃(g1 g2:Nat) (x y:Vt) (us:List FE),e=.returned (.tuple #[.agg #[.slice (some ⟨g1,0,none⟩) nb nb,.slice (some ⟨g2,0,none⟩) nh nh],.agg #[.int .i64 0,.int .i64 0]])/\SB w' g1 32 (textsV x).toArray/\SB w' g2 32 (textsV y).toArray/\Told (us.take nb) x/\Told (us.drop nb) y/\(us.length=nb+nh/\w.heap.size<=g1/\w.heap.size<=g2)/\∀y,Sol (nb+nh) M b y↔∀(i:Nat) (t:FE),us[i]?=some t->y i=t.q))/\Below w.heap.size w w'
theorem Qm8{W K:Nat}{M:List Vec}{b:List Rat}{w w':Vz}{e:Ending}(h:Solved W K M b w e w'):∃(f:Vx) (j l:Nat) (a:Int),e=.returned (.tuple #[.slice f j l,.int .i64 a])/\Below w.heap.size w w'/\
 ((a=8/\∀x,¬Sol W M b x)∨(a=9/\∃x y,Sol W M b x/\Sol W M b y/\∃c,c<W/\x c≠y c)∨(a=0/\∃(g:Nat) (us:List FE),f=some ⟨g,0,none⟩/\j=W/\l=W/\QBlk w' g us/\us.length=W/\(∀t,t∈ us->t.k<=K)/\∀y,Sol W M b y↔∀(i:Nat) (t:FE),us[i]?=some t->y i=t.q)):=by
 obtain⟨h,d⟩:=h;rcases h with ⟨rfl,h⟩|⟨rfl,h⟩|⟨g,us,rfl,h⟩
 . exact⟨_,_,_,_,rfl,d,.inl ⟨rfl,h⟩⟩
 . exact⟨_,_,_,_,rfl,d,.inr (.inl ⟨rfl,h⟩)⟩
 . exact⟨_,_,_,_,rfl,d,.inr (.inr ⟨rfl,g,us,rfl,rfl,rfl,h⟩)⟩
theorem Qfb{u:Vz}{g a:Nat}{x1 x2 y1 y2 f h k1 k2:Value}(c:g≠a)(s:SB u g 45 #[f,h])(i:SB u a 41 #[k1,k2]):
 SB ((((u.setCell ⟨g,0,none⟩ x1).setCell ⟨g,1,none⟩ x2).setCell ⟨a,0,none⟩ y1).setCell ⟨a,1,none⟩ y2) g 45 #[x1,x2]/\SB ((((u.setCell ⟨g,0,none⟩ x1).setCell ⟨g,1,none⟩ x2).setCell ⟨a,0,none⟩ y1).setCell ⟨a,1,none⟩ y2) a 41 #[y1,y2]/\
  (∀(b:Nat) (t:Vr) (C:Vw),SB u b t C->b≠g->b≠a->SB ((((u.setCell ⟨g,0,none⟩ x1).setCell ⟨g,1,none⟩ x2).setCell ⟨a,0,none⟩ y1).setCell ⟨a,1,none⟩ y2) b t C):=by
 refine⟨?_,?_,fun b t C j d e=>(((j.other d 0 x1).other d 1 x2).other e 0 y1).other e 1 y2⟩
 . have:=(((s.set 0 x1).set 1 x2).other c 0 y1).other c 1 y2
   simpa using this
 . have:=(((i.other c.symm 0 x1).other c.symm 1 x2).set 0 y1).set 1 y2
   simpa using this
theorem Qm9(M P Q al:Vx)(c1 c2 c3 cl n K:Nat)(A:List S2)(f:List B6)(z:List H3)(vb:List (Nat × Nat × Rat × Rat))(vh:Vy)(ls:List L3)(vs:List (Nat × Rat × Rat))(w:Vz)(hg:Glob w)(hf:FrRow w M P Q c1 c2 c3 A f z)(hz:FrSized A f z)(bi:FrameFault A f z 0 0)(hv:FrV n A f z vb vh)
 (hl:ARow L3.cells w al cl ls) (da:ls.length<=20) (bj:vs.length=ls.length) (bk:∀(i:Nat) (l:L3) (p:Nat × Rat × Rat),ls[i]?=some l->vs[i]?=some p->LoadV A.length l p) (az:∀k i,Fits (agn (vs.take k) i) K)
 (hK:4*n+1+(4*n+1)+1<=K) (cq:4*K+1<68719476000)
 (I:Nat->List Vec->List Vec->List Nat->Prop) (hI:Going K I) (h0:I 0 (List.zipWith (wider (f.length+z.length)) (balRows A.length vb f.length vh) ((List.range (2*A.length)).map (agn vs))) [] [])
 (a0:∀L S hh,I (f.length+z.length+1) L S hh->Ech 0 (f.length+z.length+1) S hh/\(∀x,Null (f.length+z.length+1) (List.zipWith (wider (f.length+z.length)) (balRows A.length vb f.length vh) ((List.range (2*A.length)).map (agn vs))) x↔Null (f.length+z.length+1) S x)/\clnFits K S hh):
 Calls prog 96 #[.agg #[.slice M A.length c1,.slice P f.length c2,.slice Q z.length c3],.slice al ls.length cl] w (CarrySays f.length z.length (balRows A.length vb f.length vh) ((List.range (2*A.length)).map (agn vs)) w):=by
 obtain⟨HG,HF,HZ,cr,HV,HI,H0,ai,HL⟩:=Ih hg hf hz bi hv hI h0 a0 hl;obtain⟨bl,bm,bn⟩:=Ib bj bk az;have n1:=hv.j;have n2:=hv.b;have n3:=hv.h;clear hg hf hz bi hv hI h0 a0 hl bj bk az;obtain⟨d,aj⟩:=nm w.heap.size;obtain⟨V0,Z⟩:=nm (((w.alloc (.cells #[.slice M A.length c1,.slice P f.length c2,.slice Q z.length c3] 26)).alloc (.cells #[.slice none 0 0,.slice none 0 0] 45)).alloc (.cells #[.int .i64 0,.int .i64 0] 41));have F:O (Bl w V0):=Hi (by rw[<-Z];exact(Below.new2 w _ _).alloc (by simp;omega) _);have ak:O (SB V0 d 26 #[.slice M A.length c1,.slice P f.length c2,.slice Q z.length c3]):=Hi (by rw[<-Z,<-aj];exact((SB.new w _ _).alloc _).alloc _)
 have a6:O (SB V0 (d+1) 45 #[.slice none 0 0,.slice none 0 0]):=Hi (by rw[<-Z,<-aj];exact(Qai w _ _ _).alloc _);have a7:O (SB V0 (d+1+1) 41 #[.int .i64 0,.int .i64 0]):=Hi (by
  rw[<-Z,<-aj];have h:=Qai (w.alloc (.cells #[.slice M A.length c1,.slice P f.length c2,.slice Q z.length c3] 26)) (.cells #[.slice none 0 0,.slice none 0 0] 45) 41 #[.int .i64 0,.int .i64 0];rw[World.size_alloc] at h
  exact h)
 obtain⟨bo,cs,bp⟩:=Ib Z aj (Qb9 M P Q c1 c2 c3 A f z V0 (HG.o.below F.o) (HF.o.below F.o) HZ.o cr.o);have B:w.heap.size<=d+1:=by omega
 clear Z aj;go_enter func96,ntmps96;go_wp2_with fail;rw[bo.o,cs.o];clear bo;go_fit bp.o;rintro e w1 ⟨rfl,aa⟩;obtain⟨V1,am⟩:=nm (w1.alloc (.cells #[.int .i64 0,.int .i64 0] 41));have X:Bl V0 V1:=by rw[<-am];exact aa.alloc aa.size _
 have a:=Hi (ak.o.below X ak.o.lt);have Y:V1.cell? ⟨d,0,none⟩=some (.slice M A.length c1):=by
  have h:=a.o.cell 0
  simpa using h
 have x1:V1.cell? ⟨d,1,none⟩=some (.slice P f.length c2):=by
  have h:=a.o.cell 1
  simpa using h
 have x2:V1.cell? ⟨d,2,none⟩=some (.slice Q z.length c3):=by
  have h:=a.o.cell 2
  simpa using h
 have k0:V1.cell? ⟨w1.heap.size,0,none⟩=some (.int .i64 0):=by rw[<-am];exact(SB.new w1 _ _).cell 0
 rw[<-am] at Y x1 x2 k0;obtain⟨bq,an⟩:=Ia (F.o.trans (X.mono F.o.size)) X;obtain⟨br,bt⟩:=Ia (Qfa M P Q al c1 c2 c3 cl A.length f.length z.length ls V1 (HL.o.below bq.o) n1 n2 n3 (by omega)) am;clear am X aa a;go_wp2_with fail;rw[bt.o];go_fit br.o;rintro e w2 ⟨c,at_,rfl,bu,R⟩;obtain⟨rfl,rfl⟩:c=0/\at_=0:=by
  rcases bu with ⟨h,_⟩|⟨_,⟨k,l,hk,_,hj,_⟩|⟨_,h1,h2⟩⟩
  . omega
  .
   obtain⟨p,hp⟩:∃p,vs[k]?=some p:=⟨vs[k]'(by have:=(gZ hk).1;have:=bl.o;omega),gE _⟩;have h:=bm.o k l p hk hp;exact absurd ⟨by rw[h.j];omega,by rw[h.j];have:=h.lt;omega⟩ hj
  . exact⟨h1,h2⟩
 obtain⟨V,hV⟩:=nm (w2.alloc (.cells #[.int .i64 0,.int .i64 0] 41));have ao:=an.o.trans ((show Below V1.heap.size V1 V by rw[<-hV];exact R.alloc R.size _).mono an.o.size);obtain⟨J,ab,ad,m⟩:=Ic (ak.o.below ao ak.o.lt) (a6.o.below ao a6.o.lt) (a7.o.below ao a7.o.lt) (F.o.trans (ao.mono F.o.size));have a:=J;clear Y x1 x2 k0;have Y:V.cell? ⟨d,0,none⟩=some (.slice M A.length c1):=by
  have h:=a.o.cell 0
  simpa using h
 have x1:V.cell? ⟨d,1,none⟩=some (.slice P f.length c2):=by
  have h:=a.o.cell 1
  simpa using h
 have x2:V.cell? ⟨d,2,none⟩=some (.slice Q z.length c3):=by
  have h:=a.o.cell 2
  simpa using h
 have k0:V.cell? ⟨w2.heap.size,0,none⟩=some (.int .i64 0):=by rw[<-hV];exact(SB.new w2 _ _).cell 0
 have ct:=Hi hV;rw[<-hV] at Y x1 x2 k0;clear bu R hV ao ak a6 a7 bp br bq an bt;go_wp2_with fail;rw[ct.o] at Y x1 x2 ⊢;clear k0;have U:O (Bl V V):=Hi bR;obtain⟨a8,a9,bv⟩:=Ib (fun u (hu:Bl V u)=>Qe9 M P Q c1 c2 c3 n K A f z vb vh u (HG.o.below (m.o.trans (hu.mono m.o.size))) (HF.o.below (m.o.trans (hu.mono m.o.size))) HV.o hK) (fun u=>Qe1 M P Q c1 c2 c3 A.length f.length z.length u n2 n3) (fun u (hu:Bl V u)=>Qmq M P Q al c1 c2 c3 cl A.length f.length z.length K ls vs u (HG.o.below (m.o.trans (hu.mono m.o.size))) (HL.o.below (m.o.trans (hu.mono m.o.size))) (by omega) n1 bl.o bm.o (by omega) (by omega) bn.o);obtain⟨W,hW⟩:=nm (f.length+z.length);obtain⟨N0,ba⟩:=nm (2*A.length)
 have eW:(f.length:Int)+(z.length:Int)=(W:Int):=by omega
 simp only[eW] at a9;rw[hW] at a8 H0 ai;rw[ba] at H0 ai;obtain⟨ae,ap⟩:=Ia hW ba;have cu:W<=100:=by omega
 have cv:N0<=100:=by omega
 have cw:0<K:=by omega
 clear eW hW ba;go_region_held3 (fun v=>v.cell? ⟨d,0,none⟩=some (.slice M A.length c1)/\v.cell? ⟨d,1,none⟩=some (.slice P f.length c2)/\v.cell? ⟨d,2,none⟩=some (.slice Q z.length c3)) ((first|(simp [*];done)|go_keep)) (first
  |(
   go_at_call 98;apply cM;apply a8.o;(first|exact U.o|exact U.o.drew);rintro e v1 ⟨N,G,rs,hN,rfl,bw,bx,bz,b0,hq,aa⟩;obtain rfl:N0=N:=by rw[hN];exact ap.o.symm
   obtain⟨bb,b1,b2,HQ⟩:=Ic bw bx b0 hq;clear hN bw bx bz b0 hq;have af:=Hi ((by first|exact U.o|exact U.o.drew:Bl V _).trans (aa.mono (by first|exact U.o.size|exact U.o.drew.size)));clear aa U Y x1 x2 a;have a:=Hi (J.o.below af.o J.o.lt);have Y:v1.cell? ⟨d,0,none⟩=some (.slice M A.length c1):=by
    have h:=a.o.cell 0
    simpa using h
   have x1:v1.cell? ⟨d,1,none⟩=some (.slice P f.length c2):=by
    have h:=a.o.cell 1
    simpa using h
   have x2:v1.cell? ⟨d,2,none⟩=some (.slice Q z.length c3):=by
    have h:=a.o.cell 2
    simpa using h
   skip)
  |(
   go_at_call 62;apply cM;apply a9.o;rintro e v2 ⟨rfl,R⟩;(first
     |have H:=Hi R
     |have H:O (Bl v1 v2):=Hi (bR.drew.trans R))
   have T:=Hi ((by first|exact af.o|exact af.o.drew:Bl V _).trans (R.mono (by first|exact af.o.size|exact af.o.drew.size)));clear R af Y x1 x2 a;have a:=Hi (J.o.below T.o J.o.lt);have Y:v2.cell? ⟨d,0,none⟩=some (.slice M A.length c1):=by
    have h:=a.o.cell 0
    simpa using h
   have x1:v2.cell? ⟨d,1,none⟩=some (.slice P f.length c2):=by
    have h:=a.o.cell 1
    simpa using h
   have x2:v2.cell? ⟨d,2,none⟩=some (.slice Q z.length c3):=by
    have h:=a.o.cell 2
    simpa using h
   skip)
  |(
   go_at_call 52;apply cM;apply bv.o;(first|exact T.o|exact T.o.drew);rintro e v3 ⟨⟨ga,Na,ua,b3,rfl,b4,b5,ag⟩,ay⟩;obtain rfl:N0=Na:=by rw[b3];exact ap.o.symm
   (first
     |have aq:=Hi (H.o.trans (ay.mono H.o.size))
     |have aq:O (Bl v1 v3):=Hi (H.o.trans (((bR.drew).trans ay).mono H.o.size)))
   obtain⟨b6,ar,bc⟩:=Ib b4 b5 ag;clear b3 b4 b5 ag;have ah:=Hi ((by first|exact T.o|exact T.o.drew:Bl V _).trans (ay.mono (by first|exact T.o.size|exact T.o.drew.size)));clear ay T Y x1 x2 a;have a:=Hi (J.o.below ah.o J.o.lt);have Y:v3.cell? ⟨d,0,none⟩=some (.slice M A.length c1):=by
    have h:=a.o.cell 0
    simpa using h
   have x1:v3.cell? ⟨d,1,none⟩=some (.slice P f.length c2):=by
    have h:=a.o.cell 1
    simpa using h
   have x2:v3.cell? ⟨d,2,none⟩=some (.slice Q z.length c3):=by
    have h:=a.o.cell 2
    simpa using h
   skip)
  |(
   go_at_call 112;apply cM
   (have ag:ua.map (·.q)=(List.range N0).map (agn vs):=by
     apply List.ext_getElem?;intro i;simp only[List.getElem?_map];rcases Nat.lt_or_ge i N0 with hi|hi
     .
      obtain⟨t,ht⟩:∃t,ua[i]?=some t:=⟨ua[i]'(by rw[ar.o];exact hi),gE _⟩;rw[ht,List.getElem?_range hi];simp[(bc.o i t ht).1]
     . rw[List.getElem?_eq_none (by rw[ar.o];exact hi),List.getElem?_eq_none (by simpa using hi)]
       rfl
    have b7:=Qmj (some ⟨G,0,none⟩) (some ⟨ga,0,none⟩) N0 N0 W K rs ua v3 I HI.o (b1.o.below aq.o) b2.o (by have h:=b6.o.row;rw[ar.o] at h;exact h) (fun t ht=>by obtain⟨i,hi,he⟩:=List.getElem_of_mem ht;exact(bc.o i t (by rw[<-he];exact gE hi)).2) (by rw[ar.o,bb.o]) (by rw[bb.o];omega) (by omega) cw cq (by rw[HQ.o,ag];exact H0.o) (by rw[HQ.o,ag];exact ai.o);rw[bb.o,HQ.o,ag] at b7
    exact b7)
   rintro e v4 au;obtain⟨ra,rn,rc,ev,rfl,b8,a4⟩:=Qm8 au;have b9:=Hi a4;clear a4 au;have C:=Hi ((by first|exact ah.o|exact ah.o.drew:Bl V _).trans (b8.mono (by first|exact ah.o.size|exact ah.o.drew.size)));clear b8 ah Y x1 x2 a;have a:=Hi (J.o.below C.o J.o.lt);have Y:v4.cell? ⟨d,0,none⟩=some (.slice M A.length c1):=by
    have h:=a.o.cell 0
    simpa using h
   have x1:v4.cell? ⟨d,1,none⟩=some (.slice P f.length c2):=by
    have h:=a.o.cell 1
    simpa using h
   have x2:v4.cell? ⟨d,2,none⟩=some (.slice Q z.length c3):=by
    have h:=a.o.cell 2
    simpa using h
   skip)
  |fail)
 clear b1 b2 HQ b6 ar bc H aq a8 a9 bv;rcases b9.o with ⟨rfl,cx⟩|⟨rfl,bd⟩|⟨rfl,g,us,cy,cz,c0,ca,be,cb,a5⟩
 .
  obtain⟨r,s⟩:=Ia (ab.o.below C.o ab.o.lt) (ad.o.below C.o ad.o.lt);obtain⟨y0,y1,-⟩:=zc r.o;obtain⟨y2,y3,-⟩:=zc s.o;have cc:=r.o.free 0;have cd:=r.o.free 1;have ce:=s.o.free 0;have cf:=s.o.free 1;have av:=Hi (m.o.trans ((C.o).mono m.o.size));go_wp2;have E:=Qfb (x1:=.slice none 0 0) (x2:=.slice none 0 0) (y1:=.int .i64 8) (y2:=.int .i64 0) (by omega:d+1≠d+1+1) r.o s.o
  refine bodyPost_ret (Qbe rfl _ _ (d+1) (d+1+1) 45 41 #[.slice none 0 0,.slice none 0 0] #[.int .i64 8,.int .i64 0] (0,0) (0,0) _ _ rfl E.1 rfl E.2.1 underlying45 rfl Tryz.stressInfo underlying41 rfl Tryz.faultInfo) rfl ?_;have D:=(((av.o.setCell (p:=⟨d+1,0,none⟩) B (.slice none 0 0)).setCell (p:=⟨d+1,1,none⟩) B (.slice none 0 0)).setCell (p:=⟨d+1+1,0,none⟩) (Nat.le_succ_of_le B) (.int .i64 8)).setCell (p:=⟨d+1+1,1,none⟩) (Nat.le_succ_of_le B) (.int .i64 0);exact⟨.inl ⟨rfl,by rw[ae.o,ap.o];exact cx⟩,D⟩
 .
  obtain⟨r,s⟩:=Ia (ab.o.below C.o ab.o.lt) (ad.o.below C.o ad.o.lt);obtain⟨y0,y1,-⟩:=zc r.o;obtain⟨y2,y3,-⟩:=zc s.o;have cc:=r.o.free 0;have cd:=r.o.free 1;have ce:=s.o.free 0;have cf:=s.o.free 1;have av:=Hi (m.o.trans ((C.o).mono m.o.size));go_wp2;have E:=Qfb (x1:=.slice none 0 0) (x2:=.slice none 0 0) (y1:=.int .i64 9) (y2:=.int .i64 0) (by omega:d+1≠d+1+1) r.o s.o
  refine bodyPost_ret (Qbe rfl _ _ (d+1) (d+1+1) 45 41 #[.slice none 0 0,.slice none 0 0] #[.int .i64 9,.int .i64 0] (0,0) (0,0) _ _ rfl E.1 rfl E.2.1 underlying45 rfl Tryz.stressInfo underlying41 rfl Tryz.faultInfo) rfl ?_;have D:=(((av.o.setCell (p:=⟨d+1,0,none⟩) B (.slice none 0 0)).setCell (p:=⟨d+1,1,none⟩) B (.slice none 0 0)).setCell (p:=⟨d+1+1,0,none⟩) (Nat.le_succ_of_le B) (.int .i64 9)).setCell (p:=⟨d+1+1,1,none⟩) (Nat.le_succ_of_le B) (.int .i64 0);exact⟨.inr (.inl ⟨rfl,by rw[ae.o,ap.o];exact bd⟩),D⟩
 .
  subst cy;have cg:=cz.symm;subst cg;have ch:=c0.symm;subst ch;have c4:K<=274877906944:=by omega
  have aw:=Qmp (.slice M A.length c1) (.slice Q z.length c3) P c2 f.length g 0 us.length K us v4 (HG.o.below (m.o.trans (C.o.mono m.o.size))) ca.row cb c4 (by omega) (by have:=ae.o;omega) (by omega) rfl rfl;rw[be] at aw;obtain⟨aw,ci,c5⟩:=Ib aw a5 be;clear ca be cb a5;go_wp2_with fail;go_fit aw.o;rintro e v5 ⟨⟨g1,g2,x,y,rfl,hx,hy,cj,ck,cm,cn⟩,cp⟩;have c6:O (w.heap.size<=g1/\w.heap.size<=g2):=Hi ⟨Nat.le_trans (Nat.le_trans m.o.size C.o.size) cm,Nat.le_trans (Nat.le_trans m.o.size C.o.size) cn⟩;obtain⟨nh,ax⟩:=nm (W - f.length);rw[ax];have bf:=Hi (C.o.trans (cp.mono C.o.size));obtain⟨r,s⟩:=Ia (ab.o.below bf.o ab.o.lt) (ad.o.below bf.o ad.o.lt);obtain⟨y0,-⟩:=zc r.o
  obtain⟨-,y1,-⟩:=zc r.o;obtain⟨y2,y3,-⟩:=zc s.o;have cc:=r.o.free 0;have cd:=r.o.free 1;have ce:=s.o.free 0;have cf:=s.o.free 1;obtain⟨av,c7,bg,bh,c8,c9⟩:=Ie (m.o.trans ((bf.o).mono m.o.size)) ax hx hy cj ck;clear hx hy cj ck cm cn cp ax aw Y x1 x2;go_wp2;have E:=Qfb (x1:=.slice (some ⟨g1,0,none⟩) f.length f.length) (x2:=.slice (some ⟨g2,0,none⟩) nh nh) (y1:=.int .i64 0) (y2:=.int .i64 0) (by omega:d+1≠d+1+1) r.o s.o
  refine bodyPost_ret (Qbe rfl _ _ (d+1) (d+1+1) 45 41 #[.slice (some ⟨g1,0,none⟩) f.length f.length,.slice (some ⟨g2,0,none⟩) nh nh] #[.int .i64 0,.int .i64 0] (0,0) (0,0) _ _ rfl E.1 rfl E.2.1 underlying45 rfl Tryz.stressInfo underlying41 rfl Tryz.faultInfo) rfl ?_;have D:=(((av.o.setCell (p:=⟨d+1,0,none⟩) B (.slice (some ⟨g1,0,none⟩) f.length f.length)).setCell (p:=⟨d+1,1,none⟩) B (.slice (some ⟨g2,0,none⟩) nh nh)).setCell (p:=⟨d+1+1,0,none⟩) (Nat.le_succ_of_le B) (.int .i64 0)).setCell (p:=⟨d+1+1,1,none⟩) (Nat.le_succ_of_le B) (.int .i64 0);have ax:nh=z.length:=by
   have h1:=ae.o;have h2:=c7.o;omega
  subst ax;refine⟨.inr (.inr ⟨g1,g2,x,y,us,rfl,E.2.2 _ _ _ bg.o (bg.o.unlike r.o (by decide)) (bg.o.unlike s.o (by decide)),E.2.2 _ _ _ bh.o (bh.o.unlike r.o (by decide)) (bh.o.unlike s.o (by decide)),c8.o,c9.o,⟨by rw[ae.o];exact c5.o,c6.o⟩,by rw[ae.o,ap.o];exact ci.o⟩),D⟩
theorem q_of{l t a:Vu}{v q:Rat}(b:Lib.trimPrefix l [45]=t)(c:Lib.cut t [47]=(a,[],false))(d:IsDig a)(e:v=mkRat (decVal a:Nat) 1)(f:q=if Lib.hasPrefix l [45]=true then -v else v):QOf l q:=by
 refine⟨v,.inl ⟨⟨?_,?_⟩,?_⟩,f⟩
 . rw[b,c];exact d
 . rw[b,c];intro h;cases h
 . rw[b,c];simpa using e
theorem Qfc{c:UInt8}(a:48<=c.toNat)(b:c.toNat<=57):IsDig [c]:=⟨by simp,fun d e=>by
 obtain rfl:d=c:=by simpa using e
 exact⟨a,b⟩⟩
theorem q0_of:QOf tx0.data.toList 0:=q_of (l:=[48]) (t:=[48]) (a:=[48]) (v:=0) (by decide) (by decide) (Qfc (by decide) (by decide)) (by decide) (by decide)
theorem q1_of:QOf tx1.data.toList 1:=one_q
theorem qm_of:QOf (⟨#[45,49]⟩:ByteArray).data.toList (-1):=q_of (l:=[45,49]) (t:=[49]) (a:=[49]) (v:=1) (by decide) (by decide) (Qfc (by decide) (by decide)) (by decide) (by decide)
theorem q2_of:QOf (⟨#[50]⟩:ByteArray).data.toList 2:=q_of (l:=[50]) (t:=[50]) (a:=[50]) (v:=2) (by decide) (by decide) (Qfc (by decide) (by decide)) (by decide) (by decide)
theorem corner_sized:FrSized cornerJ cornerB cornerH:=by
 refine⟨?_,?_,?_⟩
 .
  intro p a;simp[cornerJ] at a;rcases a with rfl|rfl|rfl<;>exact⟨by decide,by decide⟩
 .
  intro b c;simp[cornerB,cornerBar] at c;rcases c with rfl|rfl|rfl<;>exact⟨by decide,by decide,by decide,by decide⟩
 .
  intro x d;simp[cornerH] at d;rcases d with rfl|rfl|rfl<;>decide
def cornerVB:List (Nat × Nat × Rat × Rat):=[(0,1,1,0),(1,2,-1,1),(2,0,0,-1)]
def cornerVH:List Nat:=[0,1,3]
theorem Qfd:FrV 1048576 cornerJ cornerB cornerH cornerVB cornerVH:=by
 refine⟨by decide,by decide,by decide,rfl,rfl,?_,?_,by decide⟩
 .
  intro i b p a d
  match i,a,d with
  |0,a,d=>
   cases a;cases d;exact⟨rfl,rfl,by decide,_,_,0,0,1,0,rfl,rfl,by decide,by decide,by decide,by decide,q0_of,q0_of,q1_of,q0_of,by decide +kernel,by decide +kernel⟩
  |1,a,d=>
   cases a;cases d;exact⟨rfl,rfl,by decide,_,_,1,0,0,1,rfl,rfl,by decide,by decide,by decide,by decide,q1_of,q0_of,q0_of,q1_of,by decide +kernel,by decide +kernel⟩
  |2,a,d=>
   cases a;cases d;exact⟨rfl,rfl,by decide,_,_,0,1,0,0,rfl,rfl,by decide,by decide,by decide,by decide,q0_of,q1_of,q0_of,q0_of,by decide +kernel,by decide +kernel⟩
  |n+3,a,d=>cases a
 .
  intro i h r c e
  match i,c,e with
  |0,c,e=>
   cases c;cases e;exact⟨0,rfl,by decide,rfl⟩
  |1,c,e=>
   cases c;cases e;exact⟨0,rfl,by decide,rfl⟩
  |2,c,e=>
   cases c;cases e;exact⟨1,rfl,by decide,rfl⟩
  |n+3,c,e=>cases c
theorem Qhm:balRows 3 cornerVB 3 cornerVH=cornerM:=by
 have h:∀r c,6<=c->balM cornerVB 3 cornerVH r c=0:=Qdq (nb:=3) (nh:=3) rfl rfl;have j:∀(a b c d e f:Rat) (n:Nat),vec [a,b,c,d,e,f] (n+6)=0:=fun a b c d e f n=>by simp[vec]
 have g:∀(r:Nat) (a b c d e f:Rat),balM cornerVB 3 cornerVH r 0=a->balM cornerVB 3 cornerVH r 1=b->balM cornerVB 3 cornerVH r 2=c->balM cornerVB 3 cornerVH r 3=d->balM cornerVB 3 cornerVH r 4=e->balM cornerVB 3 cornerVH r 5=f->balM cornerVB 3 cornerVH r=vec [a,b,c,d,e,f]:=by
  intro r a b c d e f k l m o p q;funext i
  match i with
  |0=>rw[k];rfl
  |1=>rw[l];rfl
  |2=>rw[m];rfl
  |3=>rw[o];rfl
  |4=>rw[p];rfl
  |5=>rw[q];rfl
  |n+6=>rw[h r (n+6) (by omega),j]
 show [balM cornerVB 3 cornerVH 0,balM cornerVB 3 cornerVH 1,balM cornerVB 3 cornerVH 2,balM cornerVB 3 cornerVH 3,balM cornerVB 3 cornerVH 4,balM cornerVB 3 cornerVH 5]=cornerM
 rw[g 0 1 0 0 1 0 0 (by decide +kernel) (by decide +kernel) (by decide +kernel) (by decide +kernel) (by decide +kernel) (by decide +kernel),
  g 1 0 0 1 0 1 0 (by decide +kernel) (by decide +kernel) (by decide +kernel) (by decide +kernel) (by decide +kernel) (by decide +kernel),
  g 2 (-1) (-1) 0 0 0 0 (by decide +kernel) (by decide +kernel) (by decide +kernel) (by decide +kernel) (by decide +kernel) (by decide +kernel),
  g 3 0 1 0 0 0 1 (by decide +kernel) (by decide +kernel) (by decide +kernel) (by decide +kernel) (by decide +kernel) (by decide +kernel),
  g 4 0 1 0 0 0 0 (by decide +kernel) (by decide +kernel) (by decide +kernel) (by decide +kernel) (by decide +kernel) (by decide +kernel),
  g 5 0 (-1) (-1) 0 0 0 (by decide +kernel) (by decide +kernel) (by decide +kernel) (by decide +kernel) (by decide +kernel) (by decide +kernel)]
 rfl
theorem Qfe:FrameFault cornerJ cornerB cornerH 0 0:=by
 refine .inr (.inr ⟨by rintro(h|h|h|h)<;>exact absurd h (by decide),?_,.inr ⟨?_,rfl,rfl⟩⟩)
 .
  intro i x a
  match i,a with
  |0,a=>
   cases a;exact .inr ⟨⟨by decide,by decide⟩,⟨by decide,by decide⟩,_,_,rfl,rfl,0,0,1,0,1,-1,2,q0_of,q0_of,q1_of,q0_of,q1_of,qm_of,q2_of,by decide +kernel⟩
  |1,a=>
   cases a;exact .inr ⟨⟨by decide,by decide⟩,⟨by decide,by decide⟩,_,_,rfl,rfl,1,0,0,1,1,-1,2,q1_of,q0_of,q0_of,q1_of,q1_of,qm_of,q2_of,by decide +kernel⟩
  |2,a=>
   cases a;exact .inr ⟨⟨by decide,by decide⟩,⟨by decide,by decide⟩,_,_,rfl,rfl,0,1,0,0,1,-1,2,q0_of,q1_of,q0_of,q0_of,q1_of,qm_of,q2_of,by decide +kernel⟩
  |n+3,a=>cases a
 .
  intro i x a
  match i,a with
  |0,a=>cases a;decide
  |1,a=>cases a;decide
  |2,a=>cases a;decide
  |n+3,a=>cases a
def cornerL:List L3:=[⟨2,tx1,tx0⟩]
def cornerVS:List (Nat × Rat × Rat):=[(2,1,0)]
theorem Qna:∀(i:Nat) (l:L3) (p:Nat × Rat × Rat),cornerL[i]?=some l->cornerVS[i]?=some p->LoadV 3 l p:=by
 intro i l p hl a
 match i,hl,a with
 |0,hl,a=>
  cases hl;cases a;exact⟨rfl,by decide,q1_of,q0_of,by decide,by decide⟩
 |n+1,hl,a=>cases hl
theorem Qnb:(List.range 6).map (agn cornerVS)= [0,0,0,0,-1,0]:=by decide +kernel
theorem qt1:QText tx1.data.toList 1:=⟨[49],⟨[49],.inr ⟨by decide,[1],⟨fun d a=>by simp at a;omega,.inr (by simp),by simp[val]⟩,by decide⟩,by decide⟩,.inl ⟨by decide,rfl⟩⟩
theorem qtm:QText (⟨#[45,49]⟩:ByteArray).data.toList (-1):=⟨[45,49],⟨[49],.inr ⟨by decide,[1],⟨fun d a=>by simp at a;omega,.inr (by simp),by simp[val]⟩,by decide⟩,by decide⟩,.inl ⟨by decide,rfl⟩⟩
def TLst(w:Vz)(a:Vx)(l:Vt):Prop:=∀(i:Nat) (s:Vs),l[i]?=some s->∃b off,a=some ⟨b,off,none⟩/\b<w.heap.size/\w.cell? ⟨b,off+i,none⟩=some (.string s)
theorem TLst.below{w w':Vz}{a:Vx}{l:Vt}(h:TLst w a l)(d:Bl w w'):TLst w' a l:=fun i s f=>by
 obtain⟨b,c,g,e,j⟩:=h i s f;exact⟨b,c,g,Nat.lt_of_lt_of_le e d.size,ce d e j⟩
theorem SB.texts{w:Vz}{g:Nat}{t:Vr}{l:Vt}(h:SB w g t (textsV l).toArray):TLst w (some ⟨g,0,none⟩) l:=fun i s a=>⟨g,0,rfl,h.lt,by
 rw[Nat.zero_add,h.cell]
 simp[textsV,a]⟩
theorem Qfz(a b:Vx)(c d:Nat)(l:Vt)(w:Vz)(m:TLst w a l)(n:TLst w b l)(x:l.length<=1000000):
 Calls prog 41 #[.slice a l.length c,.slice b l.length d] w fun e w'=>e=.returned (.bool true)/\Below w.heap.size w w':=by
 obtain⟨s,t⟩:=Ia m n;clear m n;go_enter func41,ntmps41;go_wp2_with fail;go_loopw [13] (fun h wr=>∃i:Nat,i<=l.length/\h=.int .i64 i/\Below w.heap.size w wr) (fun h _=>l.length - (intOf h).toNat)
 case atStart=>exact⟨0,by omega,rfl,Below.refl _ _⟩
 case round=>
  obtain⟨i,y,rfl,g⟩:=hrel;have p:=Hi g;by_cases j:i<l.length
  .
   obtain⟨f,k⟩:∃f,l[i]?=some f:=⟨l[i],gE j⟩;obtain⟨z,A,rfl,q,d1⟩:=s.o i f k;obtain⟨B,C,rfl,r,d2⟩:=t.o i f k;have u:=ce g q d1;have v:=ce g r d2;have D:((i:Int)<(l.length:Int)):=by omega
   clear k d1 d2 g q r;go_wp2_with fail;go_region;go_wp2;go_roundw
   case rel=>exact⟨i+1,by omega,by go_num,p.o.drew⟩
   case measure=>simp[intOf];omega
  .
   obtain rfl:i=l.length:=by omega
   clear g;go_wp2;go_ret;exact⟨rfl,p.o⟩
theorem Qnc(a b k i:Vx)(c d t u:Nat)(x y:Vt)(w:Vz)(E:TLst w a x)(F:TLst w b y)(l:TLst w k x)(m:TLst w i y)(J:x.length<=1000000)(K:y.length<=1000000):
 Calls prog 61 #[.agg #[.slice a x.length c,.slice b y.length d],.agg #[.slice k x.length t,.slice i y.length u]] w fun e w'=>e=.returned (.bool true)/\Below w.heap.size w w':=by
 obtain⟨V,j⟩:=nm ((w.alloc (.cells #[.slice a x.length c,.slice b y.length d] 45)).alloc (.cells #[.slice k x.length t,.slice i y.length u] 45));obtain⟨G,h⟩:=nm w.heap.size;have f:Bl w V:=by rw[<-j];exact Below.new2 w _ _
 have v:SB V G 45 #[.slice a x.length c,.slice b y.length d]:=by rw[<-j,<-h];exact(SB.new w _ _).alloc _
 have z:SB V (G+1) 45 #[.slice k x.length t,.slice i y.length u]:=by rw[<-j,<-h];exact Qai w _ _ _
 obtain⟨A,H⟩:=Ia (Qfz a k c t x V (E.below f) (l.below f) J) (⟨F.below f,m.below f⟩:TLst V b y/\TLst V i y);obtain⟨I,-⟩:=zc v;obtain⟨k1,-⟩:=zc z;obtain⟨n,p,q⟩:=Ib v z f;rw[<-j,<-h] at I k1;obtain⟨L,B⟩:=Ia j h;clear j h f v z E l F m;go_enter func61,ntmps61;go_wp2_with fail;rw[L.o,B.o];go_fit A.o;rintro e M ⟨rfl,g⟩;obtain⟨r,C⟩:=Ia (q.o.trans (g.mono q.o.size)) (Qfz b i d u y M (H.o.1.below g) (H.o.2.below g) K);obtain⟨-,m0,-⟩:=zc (n.o.below g n.o.lt);obtain⟨-,N,-⟩:=zc (p.o.below g p.o.lt);clear g I k1;go_wp2_with fail;go_fit C.o
 rintro e O ⟨rfl,s⟩;have D:=Hi (r.o.trans (s.mono r.o.size));clear s m0 N;go_wp2;go_ret;exact⟨rfl,D.o⟩
theorem Qnd{w w':Vz}{e:Ending}(h:CarrySays 3 3 cornerM [0,0,0,0,-1,0] w e w'):
 ∃l m,e=.returned (.tuple #[.agg #[.slice (some ⟨l,0,none⟩) 3 3,.slice (some ⟨m,0,none⟩) 3 3],.agg #[.int .i64 0,.int .i64 0]])/\TLst w' (some ⟨l,0,none⟩) [⟨#[49]⟩,⟨#[45,49]⟩,⟨#[49]⟩]/\TLst w' (some ⟨m,0,none⟩) [⟨#[45,49]⟩,⟨#[45,49]⟩,⟨#[49]⟩]/\Below w.heap.size w w':=by
 have d:Sol 6 cornerM [0,0,0,0,-1,0] (vec [1,-1,1,-1,-1,1]):=(Qfo _).2 (by decide +kernel);obtain⟨h,v⟩:=h;rcases h with ⟨_,h⟩|⟨_,x,y,n,o,c,R,b⟩|⟨l,m,x,y,us,rfl,z,A,f,g,B,j⟩
 . exact absurd d (h _)
 .
  exfalso
  obtain⟨C,D,E,F,G,H⟩:=(Qfo x).1 n;obtain⟨I,J,K,L,M,N⟩:=(Qfo y).1 o;have e:c=0∨c=1∨c=2∨c=3∨c=4∨c=5:=by omega
  rcases e with rfl|rfl|rfl|rfl|rfl|rfl
  . exact b (C.trans I.symm)
  . exact b (D.trans J.symm)
  . exact b (E.trans K.symm)
  . exact b (F.trans L.symm)
  . exact b (G.trans M.symm)
  . exact b (H.trans N.symm)
 .
  have O:=(j _).1 d;have a:∀(s t:Vs) (q:Rat),QText s.data.toList q->QText t.data.toList q->s=t:=fun s t q n o=>by
   have:=n.inj o;cases s;cases t
   congr 1
   exact Array.toList_inj.1 this
  have k:∀(i:Nat),i<6->∃t,us[i]?=some t/\vec [1,-1,1,-1,-1,1] i=t.q:=fun i p=>⟨us[i]'(by omega),gE (by omega),O i _ (gE (by omega))⟩
  have P:x= [⟨#[49]⟩,⟨#[45,49]⟩,⟨#[49]⟩]:=by
   have hl:x.length=3:=by rw[f.1,List.length_take];omega
   have at_:∀i s,i<3->x[i]?=some s->QText s.data.toList (vec [1,-1,1,-1,-1,1] i):=fun i s p r=>by
    obtain⟨t,u,e⟩:=k i (by omega);rw[e];exact f.2 i t s (by rw[List.getElem?_take_of_lt p];exact u) r
   match x,hl,at_ with
   | [s0,s1,s2],_,at_=>
     rw[a s0 ⟨#[49]⟩ 1 (at_ 0 s0 (by decide) rfl) qt1,a s1 ⟨#[45,49]⟩ (-1) (at_ 1 s1 (by decide) rfl) qtm,a s2 ⟨#[49]⟩ 1 (at_ 2 s2 (by decide) rfl) qt1]
  have Q:y= [⟨#[45,49]⟩,⟨#[45,49]⟩,⟨#[49]⟩]:=by
   have hl:y.length=3:=by rw[g.1,List.length_drop];omega
   have at_:∀i s,i<3->y[i]?=some s->QText s.data.toList (vec [1,-1,1,-1,-1,1] (3+i)):=fun i s p r=>by
    obtain⟨t,u,e⟩:=k (3+i) (by omega);rw[e];exact g.2 i t s (by rw[List.getElem?_drop];exact u) r
   match y,hl,at_ with
   | [s0,s1,s2],_,at_=>
     rw[a s0 ⟨#[45,49]⟩ (-1) (at_ 0 s0 (by decide) rfl) qtm,a s1 ⟨#[45,49]⟩ (-1) (at_ 1 s1 (by decide) rfl) qtm,a s2 ⟨#[49]⟩ 1 (at_ 2 s2 (by decide) rfl) qt1]
  subst P;subst Q;exact⟨l,m,rfl,z.texts,A.texts,v⟩
def textD{H:Type}(s:Vs):DataW H:=.lit (.string s.data.toList)
section
variable {H:Type} {enc:TypeId × Value->H} {P:Program} {w:Vz} {base:Nat} {spare:Nat->Bool} {held:Bool} {fuel:Nat} {cs:Vv} {x:DataW H × List MemPlace} {tE tS tQ tI tI':Vr} {f0 f1 f2 f3 f4 f5:Field}
theorem Qdg{α:Type}{c:α->List Value}{dat:α->DataW H}{sz:Nat}{t:Vr}(C:α)(g:0<sz)(I:∀e,(c e).length=sz)(Y:P.underlying t=some (.slice tE))(Z:P.cellsOf tE=sz)
 (E:∀(fuel:Nat) (cs:Vv) (x:DataW H × List MemPlace),DataW.trod enc P w base spare held fuel tE cs=some x->∃e,cs=c e/\x.1=dat e)
 (h:DataW.trod enc P w base spare held fuel t cs=some x):
 ∃(a:Vx) (o:Nat) (J:List α),cs= [.slice a J.length o]/\ARow c w a o J/\(∀l r,x.1=.slice l r->l=J.map dat)/\((J= []/\x.1=.nil)∨∃l r,x.1=.slice l r):=by
 rcases Deep.open_slice Y h with ⟨rfl,rfl⟩|⟨a,d,o,m,n,D,Pl,rfl,hb,M,aa,hm,rfl,hD⟩
 . exact⟨none,0,[],rfl,⟨by simp,⟨fun j u B=>by simp at B⟩⟩,fun l r e=>by simp at e,.inl ⟨rfl,rfl⟩⟩
 have ab:d<=m:=by rw[hm];split<;>omega
 have p:∀i,∃f:α,i<d->w.cells? base (a.add (i*sz)) sz=some (c f)/\D i=dat f:=by
  intro i;by_cases N:i<d
  .
   obtain⟨ad,K,L⟩:=hD i (by omega);obtain⟨f,rfl,hd⟩:=E _ _ _ L;rw[Z] at K;exact⟨f,fun _=>⟨K,hd⟩⟩
  . exact⟨C,fun h=>absurd h N⟩
 obtain⟨F,O⟩:=Classical.axiomOfChoice p;refine⟨some a,o,(List.range d).map F,by simp,⟨by simpa using M,⟨?_⟩⟩,?_,.inr ⟨_,_,rfl⟩⟩
 .
  intro j u B;have q:=(gZ B).1;rw[Qay I] at q;simp only[List.length_map,List.length_range] at q;have s:=(Nat.div_lt_iff_lt_mul g).2 q;have Q:j % sz<sz:=Nat.mod_lt _ g;obtain⟨V,G⟩:∃V,(c (F (j / sz)))[j % sz]?=some V:=⟨_,gE (by rw[I];exact Q)⟩;have K:((List.range d).map F)[j / sz]?=some (F (j / sz)):=by simp[s]
  have L:=Qa8 I _ _ _ _ _ K G;rw[Nat.div_add_mod' j sz,B] at L;obtain rfl:=Option.some.inj L;obtain⟨R,_⟩:=O _ s;obtain⟨_,_,y⟩:=World.cells?_some R;obtain⟨b,A,W⟩:=a;have S:=y (j % sz) (by omega);have z:=(World.cells?_some (O 0 (Nat.lt_of_le_of_lt (Nat.zero_le _) s)).1).2.2 0 g;have T:W=none:=by
   cases W with
   |none=>rfl
   |some v=>
    exfalso
    obtain⟨X,U⟩:∃X,(c (F 0))[0]?=some X:=⟨_,gE (by rw[I];exact g)⟩;rw[U] at z;simp only[Nat.zero_mul,Addr.add,if_true,World.cell?] at z
    split at z<;>simp at z
  subst T;have ea:∀j k,(Addr.add ⟨b,A,none⟩ j).add k=⟨b,A+j+k,none⟩:=by
   intro j k;unfold Addr.add;by_cases B:j=0<;>by_cases hk:k=0<;>simp[B,hk]
  rw[ea,G,Nat.add_assoc,Nat.div_add_mod'] at S;exact⟨b,A,rfl,World.block_lt_of_cell? _ _ S,S⟩
 .
  intro l r e;have e1:(List.range d).map D=l:=by simpa using (DataW.slice.inj e).1
  rw[<-e1,List.map_map];refine List.map_congr_left fun i N=>?_
  exact(O i (by simpa using N)).2
end
def spotD{H:Type}(s:S2):DataW H:=.agg [textD s.x,textD s.y]
def barD{H:Type}(b:B6):DataW H:=.agg [.lit (.int .i64 b.a),.lit (.int .i64 b.b),textD b.c,textD b.e,textD b.l,textD b.m]
def holdD{H:Type}(h:H3):DataW H:=.agg [.lit (.int .i64 h.j),.lit (.int .i64 h.w),textD h.q]
def loadD{H:Type}(l:L3):DataW H:=.agg [.lit (.int .i64 l.j),.agg [textD l.x,textD l.y]]
section
variable {H:Type} {enc:TypeId × Value->H} {P:Program} {w:Vz} {base:Nat} {spare:Nat->Bool} {held:Bool} {fuel:Nat} {cs:Vv} {x:DataW H × List MemPlace} {tE tS tQ tI tI':Vr} {f0 f1 f2 f3 f4 f5:Field}
theorem Qus(u:P.underlying tE=some (.struct #[f0,f1,f2,f3,f4,f5]))(f:P.underlying tQ=some .string)(s:P.underlying tI=some (.int .i64))(v:P.cellsOf tE=6)(g:P.cellsOf tQ=1)(t:P.cellsOf tI=1)
 (t0:f0.type=tI) (t1:f1.type=tI) (t2:f2.type=tQ) (t3:f3.type=tQ) (t4:f4.type=tQ) (t5:f5.type=tQ) (y:f0.offset=0) (z:f1.offset=1) (A:f2.offset=2) (B:f3.offset=3) (C:f4.offset=4) (D:f5.offset=5)
 (h:DataW.trod enc P w base spare held fuel tE cs=some x):∃b:B6,cs=b.cells/\x.1=barD b:=by
 obtain⟨xs,n,rfl,rfl,hl,i,d⟩:=DataW.trod_struct u h;rw[v] at hl;clear h;have j:=d 0 f0 rfl;have k:=d 1 f1 rfl;have o:=d 2 f2 rfl;have p:=d 3 f3 rfl;have q:=d 4 f4 rfl;have r:=d 5 f5 rfl;rw[t0,y,t] at j;rw[t1,z,t] at k;rw[t2,A,g] at o;rw[t3,B,g] at p;rw[t4,C,g] at q;rw[t5,D,g] at r;clear d
 match cs,hl,xs,i with
 | [v0,v1,v2,v3,v4,v5],_,[y0,y1,y2,y3,y4,y5],_=>
   simp only[List.drop_zero,List.drop_succ_cons,List.take_succ_cons,List.take_zero,List.getElem?_cons_zero,List.getElem?_cons_succ] at j k o p q r;obtain⟨a,E,rfl,_⟩:=DataW.trod_int s j;obtain⟨b,F,rfl,_⟩:=DataW.trod_int s k;obtain⟨c,G,rfl,_⟩:=DataW.trod_string f o;obtain⟨e,I,rfl,_⟩:=DataW.trod_string f p;obtain⟨l,J,rfl,_⟩:=DataW.trod_string f q;obtain⟨m,K,rfl,_⟩:=DataW.trod_string f r;obtain rfl:v0=_:=by simpa using E
   obtain rfl:v1=_:=by simpa using F
   obtain rfl:v2=_:=by simpa using G
   obtain rfl:v3=_:=by simpa using I
   obtain rfl:v4=_:=by simpa using J
   obtain rfl:v5=_:=by simpa using K
   exact⟨⟨a,b,c,e,l,m⟩,rfl,rfl⟩
theorem Qut(l:P.underlying tE=some (.struct #[f0,f1,f2]))(m:P.underlying tQ=some .string)(o:P.underlying tI=some (.int .i64))(e:P.underlying tI'=some (.int .i64))(p:P.cellsOf tE=3)(q:P.cellsOf tQ=1)(r:P.cellsOf tI=1)(f:P.cellsOf tI'=1)
 (t0:f0.type=tI) (t1:f1.type=tI') (t2:f2.type=tQ) (s:f0.offset=0) (t:f1.offset=1) (u:f2.offset=2)
 (h:DataW.trod enc P w base spare held fuel tE cs=some x):∃b:H3,cs=b.cells/\x.1=holdD b:=by
 obtain⟨xs,n,rfl,rfl,hl,g,d⟩:=DataW.trod_struct l h;rw[p] at hl;clear h;have i:=d 0 f0 rfl;have j:=d 1 f1 rfl;have k:=d 2 f2 rfl;rw[t0,s,r] at i;rw[t1,t,f] at j;rw[t2,u,q] at k;clear d
 match cs,hl,xs,g with
 | [v0,v1,v2],_,[y0,y1,y2],_=>
   simp only[List.drop_zero,List.drop_succ_cons,List.take_succ_cons,List.take_zero,List.getElem?_cons_zero,List.getElem?_cons_succ] at i j k;obtain⟨a,v,rfl,_⟩:=DataW.trod_int o i;obtain⟨b,y,rfl,_⟩:=DataW.trod_int e j;obtain⟨c,z,rfl,_⟩:=DataW.trod_string m k;obtain rfl:v0=_:=by simpa using v
   obtain rfl:v1=_:=by simpa using y
   obtain rfl:v2=_:=by simpa using z
   exact⟨⟨a,b,c⟩,rfl,rfl⟩
theorem Quu(u:P.underlying tE=some (.struct #[f0,f1,f2]))(k:P.cellsOf tE=3){t0 t1 t2:Vr}(l:f0.type=t0)(m:f1.type=t1)(o:f2.type=t2)(p:P.cellsOf t0=1)(k1:P.cellsOf t1=1)(k2:P.cellsOf t2=1)(q:f0.offset=0)(r:f1.offset=1)(s:f2.offset=2)
 (h:DataW.trod enc P w base spare held fuel tE cs=some x):∃n a b c d y1 y2,cs= [a,b,c]/\x.1=.agg [d.1,y1.1,y2.1]/\DataW.trod enc P w base spare held n t0 [a]=some d/\DataW.trod enc P w base spare held n t1 [b]=some y1/\DataW.trod enc P w base spare held n t2 [c]=some y2:=by
 obtain⟨xs,n,rfl,rfl,hl,f,e⟩:=DataW.trod_struct u h;rw[k] at hl;clear h;have g:=e 0 f0 rfl;have i:=e 1 f1 rfl;have j:=e 2 f2 rfl;rw[l,q,p] at g;rw[m,r,k1] at i;rw[o,s,k2] at j;clear e
 match cs,hl,xs,f with
 | [a,b,c],_,[d,y1,y2],_=>
   simp only[List.drop_zero,List.drop_succ_cons,List.take_succ_cons,List.take_zero,List.getElem?_cons_zero,List.getElem?_cons_succ] at g i j;exact⟨n,a,b,c,d,y1,y2,rfl,rfl,g,i,j⟩
end
open Go.ChangeShapes Go.WideShapes Go.ChangeAt Go.RowKit
theorem Ql3:prog.cellsOf 84=6:=by kernel_rfl
theorem Ql4:prog.cellsOf 86=3:=by kernel_rfl
theorem Qvr:prog.cellsOf 22=1:=by kernel_rfl
theorem Qvs:prog.cellsOf 23=1:=by kernel_rfl
theorem Qvt:prog.cellsOf 24=1:=by kernel_rfl
theorem Qvu:prog.cellsOf 26=3:=by kernel_rfl
theorem Qvv:prog.readableRec 26=true:=by kernel_rfl
theorem Qvw:26<prog.types.size:=by refine of_decide_eq_true ?_;kernel_rfl
section
variable {H:Type}
theorem Qdj{α:Type}(dat:α->DataW H)(b:∀e,1<=Rows.uptoBulk (dat e))(a:List α):a.length<=Rows.uptoBulkAll (a.map dat):=by
 induction a with
 |nil=>simp
 |cons e l c=>
  have:=b e;simp only[List.map_cons,Rows.uptoBulkAll,List.length_cons];omega
theorem Qb5{α:Type}{dat:α->DataW H}{a:List α}{d:DataW H}{N:Nat}(b:Rows.uptoBulk d<=N)(hl:∀l r,d=.slice l r->l=a.map dat)(c:(a= []/\d=.nil)∨∃l r,d=.slice l r):Rows.uptoBulkAll (a.map dat)<=N:=by
 rcases c with ⟨rfl,_⟩|⟨l,r,rfl⟩
 . simp[Rows.uptoBulkAll]
 . rw[<-hl l r rfl]
   exact Nat.le_trans (Qvk l r) b
theorem Qvx(s:Vs):s.size<=Rows.uptoBulk (textD (H:=H) s):=by
 simp[textD,Rows.uptoBulk]
theorem Qg9(s:S2):1<=Rows.uptoBulk (spotD (H:=H) s)/\s.x.size+s.y.size<=Rows.uptoBulk (spotD (H:=H) s):=by
 simp[spotD,textD,Rows.uptoBulk,Rows.uptoBulkAll];omega
theorem Qha(b:B6):1<=Rows.uptoBulk (barD (H:=H) b)/\b.c.size+b.e.size+b.l.size+b.m.size<=Rows.uptoBulk (barD (H:=H) b):=by
 simp[barD,textD,Rows.uptoBulk,Rows.uptoBulkAll];omega
theorem Ql5(h:H3):1<=Rows.uptoBulk (holdD (H:=H) h)/\h.q.size<=Rows.uptoBulk (holdD (H:=H) h):=by
 simp[holdD,textD,Rows.uptoBulk,Rows.uptoBulkAll];omega
theorem Qhb{α:Type}(dat:α->DataW H){a:List α}{e:α}(b:e∈ a):Rows.uptoBulk (dat e)<=Rows.uptoBulkAll (a.map dat):=Qg8 (List.mem_map.2 ⟨e,b,rfl⟩)
variable {enc:TypeId × Value->H} {W:Vz}
theorem Qvy{b:Vw}{d:DataW H}{E:List MemPlace}(v:Rows.uptoBulk d<=1048576)
 (h:DataW.Trod enc prog W 0 (fun _=>true) true 26 (.agg b) d E):
 ∃(m o q:Vx) (c1 c2 c3:Nat) (f:List S2) (g:List B6) (i:List H3),b=#[.slice m f.length c1,.slice o g.length c2,.slice q i.length c3]/\FrRow W m o q c1 c2 c3 f g i/\FrSized f g i/\f.length<=1048576/\g.length<=1048576/\i.length<=1048576/\Rows.uptoBulkAll (f.map (spotD (H:=H)))+Rows.uptoBulkAll (g.map (barD (H:=H)))<=Rows.uptoBulk d:=by
 obtain⟨a,h⟩:=h;obtain⟨n,F,G,I,y,y1,y2,k,j,J,K,L⟩:=Quu underlying26 Qvu rfl rfl rfl Qvr Qvs Qvt rfl rfl rfl h;have z:(Value.agg b).cells.toList=b.toList:=by rfl
 rw[z] at k;clear h z;obtain⟨m,c1,f,M,N,A,B⟩:=Qdg (c:=S2.cells) (dat:=spotD) (sz:=2) ⟨⟨#[]⟩,⟨#[]⟩⟩ (by decide) (fun _=>rfl) underlying22 Qgy (fun a b x j=>by
  obtain⟨s,t,e,w,_⟩:=Qlk underlying34 underlying32 Qgy Qdh rfl rfl rfl rfl j
  exact⟨⟨s,t⟩,e,w⟩) J
 obtain⟨o,c2,g,O,P,C,D⟩:=Qdg (c:=B6.cells) (dat:=barD) (sz:=6) ⟨0,0,⟨#[]⟩,⟨#[]⟩,⟨#[]⟩,⟨#[]⟩⟩ (by decide) (fun _=>rfl) underlying23 Ql3 (fun a b x j=>Qus underlying84 underlying32 underlying3 Ql3 Qdh cellsInt rfl rfl rfl rfl rfl rfl rfl rfl rfl rfl rfl rfl j) K;obtain⟨q,c3,i,Q,R,S,T⟩:=Qdg (c:=H3.cells) (dat:=holdD) (sz:=3) ⟨0,0,⟨#[]⟩⟩ (by decide) (fun _=>rfl) underlying24 Ql4 (fun a b x j=>Qut underlying86 underlying32 underlying3 underlying3 Ql4 Qdh cellsInt cellsInt rfl rfl rfl rfl rfl rfl j) L;obtain rfl:F=_:=by simpa using M
 obtain rfl:G=_:=by simpa using O
 obtain rfl:I=_:=by simpa using Q
 have w:d=.agg [y.1,y1.1,y2.1]:=j;subst w;have U:Rows.uptoBulk y.1<=1048576:=Nat.le_trans (by simp only[Rows.uptoBulk,Rows.uptoBulkAll];omega) v;have V:Rows.uptoBulk y1.1<=1048576:=Nat.le_trans (by simp only[Rows.uptoBulk,Rows.uptoBulkAll];omega) v;have X:Rows.uptoBulk y2.1<=1048576:=Nat.le_trans (by simp only[Rows.uptoBulk,Rows.uptoBulkAll];omega) v;have Y:=Qb5 U A B;have k1:=Qb5 V C D;have k2:=Qb5 X S T;have Z:=Qdj (H:=H) spotD (fun e=>(Qg9 e).1) f;have n1:=Qdj (H:=H) barD (fun e=>(Qha e).1) g;have n2:=Qdj (H:=H) holdD (fun e=>(Ql5 e).1) i;refine⟨m,o,q,c1,c2,c3,f,g,i,by rw[<-Array.toArray_toList (xs:=b),k],⟨N,P,R⟩,⟨fun p l=>?_,fun p l=>?_,fun p l=>?_⟩,by omega,by omega,by omega,by
  have r:=Qb5 lZ A B;have u:=Qb5 lZ C D;simp only[Rows.uptoBulk,Rows.uptoBulkAll] at r u ⊢
  omega⟩
 .
  have r:=Qhb (H:=H) spotD l;have u:=(Qg9 (H:=H) p).2;omega
 .
  have r:=Qhb (H:=H) barD l;have u:=(Qha (H:=H) p).2;omega
 .
  have r:=Qhb (H:=H) holdD l;have u:=(Ql5 (H:=H) p).2;omega
end
def unitV(c:Nat):Vec:=fun i=>if i=c then 1 else 0
def nullF(c:Nat)(S:List Vec)(hs:Vy):Nat->Vec
 |0=>unitV c
 |k+1=>upd (nullF c S hs k) (hs.getD k 0) (-(S.getD k (fun _=>0) c))
theorem Qel{c:Nat}{S:List Vec}{a:Vy}{k h:Nat}{r:Vec}(b:a[k]?=some h)(d:S[k]?=some r):nullF c S a (k+1)=upd (nullF c S a k) h (-(r c)):=by
 simp[nullF,List.getD,b,d]
theorem Qku{c:Nat}{S:List Vec}{a:Vy}(P:Rat->Prop)(b:P 0)(d:P 1)(e:∀r,r∈ S->P (-(r c)))(hl:S.length=a.length):∀k,k<=a.length->∀i,P (nullF c S a k i)
 |0,_,i=>by
  unfold nullF unitV
  split
  . exact d
  . exact b
 |k+1,hk,i=>by
  rw[Qel (gE (by omega)) (gE (by omega))];unfold upd
  split
  . exact e _ (List.getElem_mem _)
  . exact Qku P b d e hl k (by omega) i
theorem Qde{c:Nat}{S:List Vec}{a:Vy}(hl:S.length=a.length){d:Nat}(f:d ∉ a):∀k,k<=a.length->nullF c S a k d=unitV c d
 |0,_=>rfl
 |k+1,hk=>by
  have b:k<a.length:=by omega
  rw[Qel (gE b) (gE (by omega)),Qap _ _ (fun e=>f (by rw[e];exact List.getElem_mem _))];exact Qde hl f k (by omega)
theorem Ech.lt_at:∀{S:List Vec} {c:Vy} {lo d:Nat},Ech lo d S c->∀(i j a b:Nat),i<j->c[i]?=some a->c[j]?=some b->a<b
 |r :: S,h :: c,lo,d,⟨_,_,_,h4⟩,0,j+1,a,b,_,ha,hb=>by
  obtain rfl:=Option.some.inj (show some h=some a from ha);have:=(h4.head b (mO (show c[j]?=some b from hb))).1;omega
 |r :: S,h :: c,lo,d,⟨_,_,_,h4⟩,i+1,j+1,a,b,hij,ha,hb=>h4.lt_at i j a b (by omega) ha hb
 | [],[],_,_,_,i,j,a,b,_,ha,_=>by simp at ha
 | [],_ :: _,_,_,h,_,_,_,_,_,_,_=>h.elim
 |_ :: _,[],_,_,h,_,_,_,_,_,_,_=>h.elim
theorem Qkv{c lo i:Nat}{S:List Vec}{b:Vy}(d:Ech lo i S b){t h:Nat}{r:Vec}(f:b[t]?=some h)(g:S[t]?=some r):∀k,k<=b.length->t<k->nullF c S b k h= -(r c)
 |0,_,ht=>by omega
 |k+1,hk,ht=>by
  have a:k<b.length:=by omega
  have hl:=d.len;rw[Qel (gE a) (gE (by omega))];by_cases e:t=k
  .
   subst e;obtain rfl:=Option.some.inj ((gE a).symm.trans f);obtain⟨_,rfl⟩:=gZ g;exact Qa4 _ _ _
  .
   have:=d.lt_at t k h b[k] (by omega) f (gE a);rw[Qap _ _ (by omega)];exact Qkv d f g k (by omega) (by omega)
theorem Qtq(W:Nat)(r x:Vec)(h c:Nat)(f:h<W)(g:c<W)(a:h≠c)(j:∀i,i<W->i≠h->i≠c->r i*x i=0):dot W r x=r h*x h+r c*x c:=by
 have e:=Qc5 W r (upd x h 0) h (x h) f;have k:upd (upd x h 0) h (x h)=x:=by
  funext i;unfold upd
  split
  . next q=>rw[q]
  . rfl
 rw[k,Qa4] at e;rw[e,Qef W r (upd x h 0) c g (fun i l b=>?_),Qap _ _ (Ne.symm a)]
 . grind
 .
  by_cases d:i=h
  . rw[d,Qa4];grind
  . rw[Qap _ _ d];exact j i l d b
theorem Qtr{c W:Nat}{S:List Vec}{a:Vy}(d:Cln 0 W S a)(o:c<W)(k:c ∉ a):Null W S (nullF c S a a.length):=by
 intro r p;obtain⟨t,q,rfl⟩:=List.getElem_of_mem p;have hl:=d.ech.len;have l:=gE q;obtain⟨h,f⟩:∃h,a[t]?=some h:=⟨a[t]'(by omega),gE _⟩;obtain⟨s,u,v⟩:=d.at t S[t] h l f;have m:=mO f;have g:=(d.ech.head h m).2;have j:h≠c:=fun e=>k (e ▸ m)
 rw[Qtq W _ _ h c g o j (fun i x y w=>?_)]
 .
  rw[Qkv d.ech f l a.length lZ (by omega),s,Qde hl k a.length lZ];simp only[unitV,if_pos];grind
 .
  by_cases b:i∈ a
  .
   rcases Nat.lt_or_ge i h with n|n
   . rw[u i n];grind
   . rw[v i b (by omega)];grind
  .
   rw[Qde hl b a.length lZ];simp only[unitV,if_neg w];grind
def freeTo(hs:Vy)(k:Nat):List Nat:=(List.range k).filter (fun c=>decide (c ∉ hs))
theorem Qkw(a:Vy)(k:Nat):freeTo a (k+1)=if k∈ a then freeTo a k else freeTo a k++ [k]:=by
 unfold freeTo;rw[List.range_succ,List.filter_append];by_cases h:k∈ a
 . rw[if_pos h,List.filter_cons_of_neg (by simpa using h)]
   simp
 . rw[if_neg h,List.filter_cons_of_pos (by simpa using h)]
   simp
theorem freeTo_mem{a:Vy}{k c:Nat}:c∈ freeTo a k↔c<k/\c ∉ a:=by
 unfold freeTo;rw[List.mem_filter,List.mem_range];simp
theorem Qem(a:Vy)(k:Nat):(freeTo a k).length<=k:=by
 unfold freeTo;have:=List.length_filter_le (fun c=>decide (c ∉ a)) (List.range k);rw[List.length_range] at this;exact this
def sumQ:Nat->(Nat->Rat)->Rat
 |0,_=>0
 |n+1,f=>sumQ n f+f n
theorem Qkx:∀(n:Nat) (f:Nat->Rat),(∀p,p<n->f p=0)->sumQ n f=0
 |0,_,_=>rfl
 |n+1,f,h=>by rw[sumQ,Qkx n f (fun p a=>h p (by omega)),h n (by omega)];grind
theorem Qgq:∀(n:Nat) (f:Nat->Rat) (a:Nat),a<n->(∀p,p<n->p≠a->f p=0)->sumQ n f=f a
 |n+1,f,a,ha,h=>by
  rw[sumQ];by_cases e:a=n
  . subst e
    rw[Qkx a f (fun p b=>h p (by omega) (by omega)),Rat.zero_add]
  . rw[Qgq n f a (by omega) (fun p b=>h p (by omega)),h n (by omega) (by omega),Rat.add_zero]
theorem Qky:∀(n:Nat) (f:Nat->Rat) (a b:Nat),a<n->b<n->a≠b->(∀p,p<n->p≠a->p≠b->f p=0)->sumQ n f=f a+f b
 |n+1,f,a,b,ha,hb,hab,h=>by
  rw[sumQ];by_cases e:a=n
  .
   subst e;rw[Qgq a f b (by omega) (fun p d c=>h p (by omega) (by omega) c)];grind
  .
   by_cases g:b=n
   . subst g
     rw[Qgq b f a (by omega) (fun p d c=>h p (by omega) c (by omega))]
   . rw[Qky n f a b (by omega) (by omega) hab (fun p d=>h p (by omega)),h n (by omega) (by omega) (by omega),Rat.add_zero]
structure NRow (w:Vz) (g W K:Nat) (us:List FE) (x:Vec):Prop where
 blk:QBlk w g us
 len:us.length=W
 sz:∀t,t∈ us->t.k<=K
 q:∀(i:Nat) (t:FE),us[i]?=some t->t.q=x i
theorem NRow.below{w w':Vz}{g W K:Nat}{us:List FE}{x:Vec}(h:NRow w g W K us x)(a:Bl w w'):NRow w' g W K us x:=⟨h.blk.below a,h.len,h.sz,h.q⟩
theorem NRow.put{w:Vz}{g W K i:Nat}{us:List FE}{x:Vec}{a b c:Value}{q:Rat}(h:NRow w g W K us x)(n:i<W)(k:FracV w (.agg #[a,b,c]) q)(l:Fits q K)(m:0<K):NRow (((w.setCell ⟨g,i*3,none⟩ a).setCell ⟨g,i*3+1,none⟩ b).setCell ⟨g,i*3+2,none⟩ c) g W K (us.set i ⟨a,b,c,q,K⟩) (upd x i q):=by
 have hl:i<us.length:=by have:=h.len;omega
 refine⟨Qe6 h.blk hl k l m,by rw[List.length_set];exact h.len,fun t f=>?_,fun j t d=>?_⟩
 .
  rcases List.mem_or_eq_of_mem_set f with f|rfl
  . exact h.sz t f
  . exact Nat.le_refl _
 .
  by_cases e:j=i
  .
   subst e;rw[List.getElem?_set_self hl] at d;cases d;exact(Qa4 _ _ _).symm
  .
   rw[List.getElem?_set_ne (Ne.symm e)] at d;rw[Qap _ _ e];exact h.q j t d
theorem NRow.new(w:Vz)(W K:Nat)(C:Vw)(hC:C=((List.replicate W FE.zero).flatMap FE.cells).toArray)(a:0<K):NRow (w.alloc (.cells C 107)) w.heap.size W K (List.replicate W FE.zero) (fun _=>0):=
 ⟨QBlk.new w W C hC,by simp,fun t b=>by obtain⟨_,rfl⟩:=List.mem_replicate.1 b;exact a,fun i t c=>by obtain⟨_,rfl⟩:=List.mem_replicate.1 (mO c);rfl⟩
theorem NRow.cells{w:Vz}{g W K i:Nat}{us:List FE}{x:Vec}(h:NRow w g W K us x)(b:i<W):∃e:FE,w.cell? ⟨g,i*3,none⟩=some e.x/\w.cell? ⟨g,i*3+1,none⟩=some e.y/\w.cell? ⟨g,i*3+2,none⟩=some e.z/\w.frozen? ⟨g,i*3,none⟩=false/\w.frozen? ⟨g,i*3+1,none⟩=false/\w.frozen? ⟨g,i*3+2,none⟩=false:=by
 have hl:i<us.length:=by have:=h.len;omega
 obtain⟨c,d,a,_,t0,t1,t2⟩:=h.blk.row.at (gE hl);cases a;simp only[Nat.zero_add] at t0 t1 t2;exact⟨us[i],t0,t1,t2,h.blk.blk.free _,h.blk.blk.free _,h.blk.blk.free _⟩
theorem NRow.mr{w:Vz}{g W K:Nat}{us:List FE}{x:Vec}(h:NRow w g W K us x)(b:∀i,W<=i->x i=0):MOk w W K ⟨some ⟨g,0,none⟩,W,us⟩/\(⟨some ⟨g,0,none⟩,W,us⟩:MR).q=x:=by
 refine⟨⟨?_,h.len,h.sz⟩,?_⟩
 .
  have:=h.blk.row;rw[h.len] at this;exact this
 .
  funext i;rcases Nat.lt_or_ge i W with a|a
  . rw[MR.q_at (r:=⟨some ⟨g,0,none⟩,W,us⟩) (e:=us[i]'(by have:=h.len;omega)) (gE _)]
    exact h.q i _ (gE _)
  . rw[MR.q_beyond (by show us.length<=i;have:=h.len;omega),b i a]
theorem Qw1(a b:Vx)(ca cb W K c:Nat)(S:List MR)(d:Vy)(w:Vz)(hg:Glob w)(hr:CRow w a (S.map MR.val))(hh:CRow w b (headsV d))(J:Oks w W K S)(D:S.length=d.length)(L:∀h,h∈ d->h<W)(hc:c<W)(hW:W<=1000)(hl:d.length<=1000)(bf:1<K):
 Calls prog 159 #[.agg #[.int .i64 W,.slice a S.length ca,.slice b d.length cb],.int .i64 c] w fun e w'=>∃(g:Nat) (us:List FE),e=.returned (.slice (some ⟨g,0,none⟩) W W)/\NRow w' g W K us (nullF c (S.map MR.q) d d.length)/\Below w.heap.size w w':=by
 obtain⟨HG,HR,HH,an,M,ao⟩:=Ie hg hr hh J D L;have N:=fun w=>Qa3 W (by omega) w
 obtain⟨MC,E⟩:=nm (((List.replicate W FE.zero).flatMap FE.cells).toArray);rw[E] at N;have ap:=Hi E.symm;clear hg hr hh J D L E;obtain⟨B0,F⟩:=nm w.heap.size;obtain⟨W1,n⟩:=nm (w.alloc (.cells #[.int .i64 W,.slice a S.length ca,.slice b d.length cb] 195));have u:=Ua n;have l:=Uf n F;obtain⟨W2,v⟩:=nm (W1.alloc (.cells MC 107));obtain⟨g,t⟩:=nm W1.heap.size;have P:w.heap.size+1=g:=by rw[<-t,<-n,World.size_alloc]
 have f:=Ua v;have ar:O (NRow W2 g W K (List.replicate W FE.zero) (fun _=>0)):=Hi (by rw[<-v,<-t];exact NRow.new W1 W K MC ap.o (by omega));obtain⟨x0,-⟩:=zc l.o;obtain⟨-,-,x2,-⟩:=zc (l.o.below f.o l.o.lt);obtain⟨au,av,aw,Q,ax,ay⟩:=Ie n v F t P (Qe5 (q:=1) (s:=⟨#[49]⟩) ((HG.o.below u.o).below f.o) one_q (by decide));have R:O (w.heap.size<=g):=Hi (by rw[<-t];exact u.o.size);rw[<-n] at x0;clear n v F t P;go_enter func159,ntmps159;go_wp2_with fail;rw[au.o,av.o]
 try rw[ax.o]
 try rw[aw.o]
 go_fit ay.o;rintro e w3 ⟨⟨vn,rfl,m⟩,x⟩;obtain⟨nq,aq,lq,dq,mq,oq,pq,rfl,m⟩:=m;have az:O (FracV w3 (.agg #[.bool nq,.slice aq lq dq,.slice mq oq pq]) 1):=Hi ⟨nq,aq,lq,dq,mq,oq,pq,rfl,m⟩;have T:=Hi (ar.o.below x);obtain⟨e0,c0,c1,c2,f0,f1,f2⟩:=T.o.cells hc;obtain⟨a0,a1⟩:=Ia ((l.o.below f.o l.o.lt).below x (l.o.below f.o l.o.lt).lt) (u.o.trans ((f.o.trans (x.mono f.o.size)).mono u.o.size));obtain⟨V,H⟩:=nm (((w3.setCell ⟨g,c*3,none⟩ (.bool nq)).setCell ⟨g,c*3+1,none⟩ (.slice aq lq dq)).setCell ⟨g,c*3+2,none⟩ (.slice mq oq pq));have a2:O (NRow V g W K ((List.replicate W FE.zero).set c ⟨.bool nq,.slice aq lq dq,.slice mq oq pq,1,K⟩) (upd (fun _=>0) c 1)):=Hi (by rw[<-H];exact T.o.put hc az.o (Fits.one.mono (by omega)) (by omega));have a3:O (Bl w V):=Hi (by
  rw[<-H];have y:=R.o
  exact((a1.o.setCell (p:=⟨g,c*3,none⟩) y _).setCell (p:=⟨g,c*3+1,none⟩) y _).setCell (p:=⟨g,c*3+2,none⟩) y _)
 have U:O (SB V B0 195 #[.int .i64 W,.slice a S.length ca,.slice b d.length cb]):=Hi (by
  rw[<-H];have a4:B0≠g:=by have y:=l.o.lt;have h2:=Q.o;omega
  exact a0.o.only ((((Only.refl g w3).setCell _ _).setCell _ _).setCell _ _) a4)
 obtain⟨-,-,y2,-⟩:=zc U.o;have a5:=Hi H;rw[<-H] at y2;have a6:O (upd (fun _=>0) c 1=nullF c (S.map MR.q) d 0):=Hi (by
  funext i;unfold upd nullF unitV
  rfl)
 clear m x H x0 x2 N;go_wp2_with fail;rw[a5.o];clear y2 c0 c1 c2 f0 f1 f2;go_loopw [18] (fun iv wr=>∃(k:Nat) (us:List FE),k<=d.length/\iv=.int .i64 k/\NRow wr g W K us (nullF c (S.map MR.q) d k)/\SB wr B0 195 #[.int .i64 W,.slice a S.length ca,.slice b d.length cb]/\Below w.heap.size w wr) (fun iv _=>d.length - (intOf iv).toNat)
 case atStart=>exact⟨0,_,Nat.zero_le _,rfl,a6.o ▸ a2.o,U.o,a3.o⟩
 case round=>
  obtain⟨k,us,hk,rfl,X,Y,Z⟩:=hrel;obtain⟨HN,HS,I⟩:=Ib X Y Z;clear X Y Z;by_cases a7:k<d.length
  .
   obtain⟨r,z⟩:∃r,S[k]?=some r:=⟨S[k]'(by have:=M.o;omega),gE _⟩;obtain⟨A,B⟩:∃A,d[k]?=some A:=⟨d[k],gE a7⟩;have aa:=ao.o A (mO B);have j:=(an.o.fr (Fr.of_below I.o)) r (mO z);obtain⟨e,he⟩:∃e,r.ts[c]?=some e:=⟨r.ts[c]'(by have:=j.len;omega),gE _⟩;obtain⟨rb,ro,ab,bg,d0,d1,d2⟩:=j.row.at he;have G:=j.row.get he;have ad:=j.sz e (mO he);obtain⟨bh,bi,rfl,bj,a8⟩:=(HH.o.below I.o).cell k (.int .i64 (A:Nat)) (by simp[headsV,B]);obtain⟨gb,go,rfl,bk,ae⟩:=(HR.o.below I.o).cell k r.val (by rw[List.getElem?_map,z];rfl);rw[MR.val,ab,j.len] at ae;obtain⟨-,x1,-⟩:=zc HS.o;have q2:((k:Int)<(d.length:Int)):=by omega
   have q3:((c:Int)<(W:Int)):=by omega
   have q4:((k:Int)<(S.length:Int)):=by have:=M.o;omega
   obtain⟨a9,ba⟩:=Ia (Qci G.1) (Fits.neg (G.2.1.mono ad));have bb:O (nullF c (S.map MR.q) d (k+1)=upd (nullF c (S.map MR.q) d k) A (-e.q)):=Hi (by
    rw[Qel B (r:=r.q) (by rw[List.getElem?_map,z];rfl),MR.q_at he])
   clear j he G ad z B ab;go_wp2_with fail;go_fit a9.o;rintro e' w4 ⟨⟨vn,rfl,m⟩,C⟩;obtain⟨af,ag,ah,ai,aj,ak,al,rfl,m⟩:=m;have bc:O (FracV w4 (.agg #[.bool af,.slice ag ah ai,.slice aj ak al]) (-e.q)):=Hi ⟨af,ag,ah,ai,aj,ak,al,rfl,m⟩;obtain⟨am,bd,be⟩:=Ib (HN.o.below C) (HS.o.below C HS.o.lt) (I.o.trans (C.mono I.o.size));obtain⟨e0,c0,c1,c2,f0,f1,f2⟩:=am.o.cells aa;have q5:((A:Int)<(W:Int)):=by omega
   clear m C ae a8 x1 d0 d1 d2;go_wp2;go_roundw
   case rel=>
    have y:=R.o;refine⟨k+1,_,by omega,by go_num,bb.o ▸ am.o.put aa bc.o ba.o (by omega),bd.o.only ((((Only.refl g w4).setCell _ _).setCell _ _).setCell _ _) ?_,((be.o.setCell (p:=⟨g,A*3,none⟩) y _).setCell (p:=⟨g,A*3+1,none⟩) y _).setCell (p:=⟨g,A*3+2,none⟩) y _⟩;have y:=l.o.lt;have h2:=Q.o;omega
   case measure=>simp[intOf];omega
  .
   obtain rfl:k=d.length:=by omega
   go_wp2;go_ret;exact⟨g,us,rfl,HN.o,I.o⟩
theorem Grow.row{w:Vz}{B nb c:Nat}{v:Value}{a:List MR}{r:MR}(h:Grow w B 98 1 IsSl v a.length (a.map MR.val))(g:w.cell? ⟨nb,0,none⟩=some r.val)(s:a.length<=1000)(hB:B<=w.heap.size)(ty:Vr):
 ∃d w',appR prog 148 ty v (.slice (some ⟨nb,0,none⟩) 1 c) w=.ok d w'/\Grow w' B 98 1 IsSl d (a++ [r]).length ((a++ [r]).map MR.val)/\w.grownBy w' v.ownBlock:=by
 obtain⟨i,k,l⟩:=Option.map_eq_some_iff.1 Qct;injection l with m e
 injection e with e n
 obtain⟨d,w',o,p,q,_⟩:=h.app (P:=prog) (t:=148) (ty:=ty) underlying148 k m e n rfl (by decide) (fun u b=>⟨none,0,0,by simpa [Value.cells] using b⟩) ⟨nb,0,none⟩ 1 c [r.val] rfl (fun j u f=>by
  match j,f with
  |0,f=>
   obtain rfl:=Option.some.inj f
   exact g) (fun u b=>by obtain rfl:=List.mem_singleton.1 b;rfl) (fun u b=>by obtain rfl:=List.mem_singleton.1 b;exact⟨_,_,_,rfl⟩) (by omega) (by decide) hB
 refine⟨d,w',o,?_,q⟩;rw[List.length_append,List.length_singleton,List.map_append];exact p
theorem Qdm{w w':Vz}{B:Nat}{v:Value}(h:w.grownBy w' v.ownBlock)(a:∀g,v.ownBlock=some g->B<=g)(hB:B<=w.heap.size):Below B w w':=
 ⟨h.os,h.tape,h.output,h.size,fun b c=>h.block b (by omega) (fun e=>by have:=a b e.symm;omega)⟩
theorem Qw2{w w':Vz}{B n:Nat}{v:Value}{xs:Vv}(a:Grow w B 98 1 IsSl v n xs)(h:w.grownBy w' v.ownBlock):Fr w w':=a.only h (fun C hC=>IsSl.plain hC)
structure NullsAt (w w':Vz) (W K:Nat) (v:Value) (vs:List Vec) (ns:List MR):Prop where
 list:Grow w' w.heap.size 98 1 IsSl v ns.length (ns.map MR.val)
 ok:Oks w' W K ns
 own:∀r,r∈ ns->∃g,r.a=some ⟨g,0,none⟩/\r.cap=W
 q:ns.map MR.q=vs
 base:Bl w w'
theorem Qw3(a:Vx)(F W K:Nat)(rs:List MR)(w:Vz)(af:Glob w)(I:Nat->List Vec->List Vec->List Nat->Prop)(hI:Going K I)(h:ARow MR.cells w a F rs)(ag:Oks w W K rs)(hl:rs.length<=1000)(hW:W<=1000)(a0:1<K)(hK:4*K+1<68719476000)(h0:I 0 (rs.map MR.q) [] [])
 (A:∀L S b,I W L S b->Ech 0 W S b/\clnFits K S b):
 Calls prog 97 #[.slice a rs.length F,.int .i64 W] w fun e w'=>∃(L S:List Vec) (b:Vy) (v:Value) (l:List MR),e=.returned v/\I W L S b/\NullsAt w w' W K v ((freeTo b W).map (fun c=>nullF c (cln S b) b b.length)) l:=by
 obtain⟨ah,HF,HG⟩:=Ib (Qhe a F W K W rs w I hI h ag hl hW lZ (by omega) hK h0) A af;clear hI h ag h0 A af;go_enter func97,ntmps97;go_wp2_with fail;go_fit ah.o;rintro e w2 ⟨⟨L,S,b,sv,hv,rfl,hi,bi,bj,G,H,ai⟩,aj⟩;obtain⟨b1,c1,rfl,_,_,_⟩:=G.slice;obtain⟨b2,c2,rfl,_,_,_⟩:=H.slice;obtain⟨p,ak⟩:=HF.o _ _ _ hi;obtain⟨HI,HE,a1,al,a2,a3,am,J⟩:=Ig hi p ak G H ai aj (by have:=p.len;simpa using this);clear hi G H ai aj p ak ah;obtain⟨B0,u⟩:=nm w2.heap.size;obtain⟨V,hV⟩:=nm (w2.alloc (.cells #[.int .i64 (W:Nat),.slice b1 S.length c1,.slice b2 b.length c2] 195));have s:=Ua hV
 have x:=Uf hV u;have an:=Hi (Qmi w.heap.size W K S b (.slice b1 S.length c1) (.slice b2 b.length c2) (W:Nat) V (al.o.below s.o) (a2.o.below s.o) (a3.o.fr (Fr.of_below s.o)) J.o (fun c hc=>(HE.o.head c hc).2) a1.o (by omega) (by omega) (by omega) hK);obtain⟨x0,x1,x2,-⟩:=zc x.o;obtain⟨a4,a5⟩:=Ia hV u;rw[<-hV] at x0 x1 x2;rw[<-u] at x0 x1 x2;clear hV u;go_wp2_with fail;rw[a4.o,a5.o];clear x0 x1 x2;go_fit an.o;rintro e w4 ⟨rfl,S',ao,ap,d⟩;have m:=Hi (am.o.trans (s.o.mono am.o.size))
 have t:O (Bl w w4):=Hi ⟨d.o.1.trans m.o.os,d.o.2.1.trans m.o.tape,d.o.2.2.1.trans m.o.output,Nat.le_trans m.o.size d.o.2.2.2,fun k hk=>(d.base k (Nat.lt_of_lt_of_le hk m.o.size) (fun e=>by have:=(d.rows.lt e).1;omega)).trans (m.o.block k hk)⟩;have B:O (SB w4 B0 195 #[.int .i64 (W:Nat),.slice b1 S.length c1,.slice b2 b.length c2]):=Hi (by
  have h1:=d.base B0 x.o.lt (fun e=>by
   obtain⟨D,d1,_⟩:=(al.o.below s.o).sb e
   exact x.o.unlike d1 row_stairs.symm rfl)
  have h2:=x.o;unfold SB at h2 ⊢;rw[h1]
  exact h2)
 obtain⟨a6,M,a7⟩:=Ib d ao ap;clear d ao ap an;go_wp2_with fail;go_loopw [14,6] (fun iv nv wr=>∃(k:Nat) (l:List MR),k<=W/\iv=.int .i64 k/\Grow wr w4.heap.size 98 1 IsSl nv l.length (l.map MR.val)/\Oks wr W K l/\(∀r,r∈ l->∃g,r.a=some ⟨g,0,none⟩/\r.cap=W)/\l.map MR.q=(freeTo b k).map (fun c=>nullF c (S'.map MR.q) b b.length)/\Below w4.heap.size w4 wr) (fun iv _ _=>W - (intOf iv).toNat)
 case atStart=>exact⟨0,[],Nat.zero_le _,rfl,Grow.nil _ _ _ _ _,okNil,(fun r n=>by cases n),rfl,Below.refl _ _⟩
 case round=>
  obtain⟨k,l,hk,rfl,aq,C,ar,hq,au⟩:=hrel;obtain⟨N,P,Q,HQ,f⟩:=Id ar aq C hq au;have a8:O (l.length<=1000):=Hi (by
   have h1:=congrArg List.length hq;rw[List.length_map,List.length_map] at h1;have h2:=Qem b k
   omega)
  clear aq C ar hq au;by_cases a9:k<W
  .
   have q1:((k:Int)<(W:Int)):=by omega
   have d:=a6.o.below f.o;obtain⟨x0,x1,x2,-⟩:=zc (B.o.below f.o B.o.lt);have ba:=Hi (Qmg b2 c2 k b wr d.heads.crow (by omega));have R:=Qw1 b1 b2 c1 c2 W K k S' b wr (HG.o.below (t.o.trans (f.o.mono t.o.size))) d.rows.crow d.heads.crow d.ok (by have:=M.o;have:=J.o;omega) (fun c hc=>(HE.o.head c hc).2) a9 hW (by omega) a0;rw[M.o] at R;have bb:=Hi R;clear d R;go_wp2_with fail;go_fit ba.o;rintro e w5 ⟨rfl,rfl⟩;by_cases y:k∈ b
   .
    rw[decide_eq_true y];have T:O (freeTo b (k+1)=freeTo b k):=Hi (by rw[Qkw,if_pos y]);clear y;go_wp2;go_roundw
    case rel=>exact⟨k+1,l,by omega,by go_num,P.o,Q.o,N.o,by rw[T.o];exact HQ.o,f.o⟩
    case measure=>simp[intOf];omega
   .
    rw[decide_eq_false y];have T:O (freeTo b (k+1)=freeTo b k++ [k]):=Hi (by rw[Qkw,if_neg y]);have bk:=Hi y;clear y;go_wp2_with fail;go_fit bb.o;rintro e U ⟨g,us,rfl,Y,Z⟩;have av:(S'.map MR.q).length=b.length:=by rw[List.length_map];have:=M.o;have:=J.o;omega
    obtain⟨aw,ax⟩:=Y.mr (fun i hi=>by
     rw[Qde av (fun y=>by have:=(HE.o.head i y).2;omega) b.length lZ]
     exact if_neg (by omega))
    obtain⟨X,hX⟩:=nm (U.alloc (.cells #[.slice (some ⟨g,0,none⟩) W W] 98));have aa:Bl U X:=by rw[<-hX];exact(Below.refl _ _).alloc lZ _
    have j:=Z.trans (aa.mono Z.size);have ay:X.cell? ⟨U.heap.size,0,none⟩=some (MR.val ⟨some ⟨g,0,none⟩,W,us⟩):=by
     rw[MR.val,Y.len,<-hX];exact Qbd U _ _
    have z:=P.o.below j;have ab:w4.heap.size<=X.heap.size:=by have h1:=f.o.size;have h2:=j.size;omega
    obtain⟨v7,w7,E,az,ad⟩:=z.row (r:=⟨some ⟨g,0,none⟩,W,us⟩) (c:=1) ay a8.o ab 148;have ae:=Qw2 z ad;have bc:=Hi az;have bd:O (Oks w7 W K (l++ [⟨some ⟨g,0,none⟩,W,us⟩])):=Hi (fun r n=>by
     rcases List.mem_append.1 n with n|n
     . exact((Q.o.fr (Fr.of_below j)).fr ae) r n
     . obtain rfl:=List.mem_singleton.1 n
       exact(aw.fr (Fr.of_below aa)).fr ae)
    have be:O (∀r,r∈ l++ [(⟨some ⟨g,0,none⟩,W,us⟩:MR)]->∃g,r.a=some ⟨g,0,none⟩/\r.cap=W):=Hi (fun r n=>by
     rcases List.mem_append.1 n with n|n
     . exact N.o r n
     . obtain rfl:=List.mem_singleton.1 n
       exact⟨_,rfl,rfl⟩)
    have bf:O ((l++ [(⟨some ⟨g,0,none⟩,W,us⟩:MR)]).map MR.q=(freeTo b (k+1)).map (fun c=>nullF c (S'.map MR.q) b b.length)):=Hi (by
     rw[T.o,List.map_append,List.map_append,HQ.o,List.map_singleton,List.map_singleton,ax])
    have bg:=Hi ((f.o.trans (j.mono f.o.size)).trans (Qdm ad (fun g hg=>(z.lt hg).1) ab));have bh:appR prog 148 148 u6 (.slice (some ⟨U.heap.size,0,none⟩) 1 1) (U.alloc (.cells #[.slice (some ⟨g,0,none⟩) W W] 98))=.ok v7 w7:=by rw[hX];exact E
    clear av aw ax hX aa j ay z ab E az ad ae Y Z x0 x1 x2;go_wp2;go_roundw
    case rel=>exact⟨k+1,_,by omega,by go_num,bc.o,bd.o,be.o,bf.o,bg.o⟩
    case measure=>simp[intOf];omega
  .
   obtain rfl:k=W:=by omega
   go_wp2;go_ret;refine⟨_,_,b,_,l,rfl,HI.o,P.o.mono t.o.size,Q.o,N.o,?_,t.o.trans (f.o.mono t.o.size)⟩;rw[HQ.o,a7.o]
end Go.Proofs.YtkkadnoecklepaaGreatDoor
