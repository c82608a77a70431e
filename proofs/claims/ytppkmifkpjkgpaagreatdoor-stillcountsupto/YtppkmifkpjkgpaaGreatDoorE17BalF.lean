import Derived.Test.YtppkmifkpjkgpaaGreatDoorE16BalB
namespace Go.Proofs.YtppkmifkpjkgpaaGreatDoor
open Go.RowKit
open Go.Proofs.Tryz
set_option linter.unusedSimpArgs false
set_option linter.unusedVariables false
set_option maxHeartbeats 8000000
set_option maxRecDepth 1000000
theorem one_q:QOf (⟨#[49]⟩:ByteArray).data.toList 1:=by
 have a:Lib.trimPrefix [49] [45]= [49]:=by decide
 have b:Lib.cut [49] [47]=([49],[],false):=by decide
 refine⟨1,.inl ⟨⟨⟨by rw[a,b];simp,?_⟩,?_⟩,?_⟩,?_⟩
 .
  rw[a,b];intro d c;simp at c;subst c;decide
 .
  rw[a,b];intro h;cases h
 . rw[a,b]
   decide
 .
  have e:Lib.hasPrefix [49] [45]=false:=by decide
  rw[e];rfl
theorem Fits.one:Fits 1 1:=⟨by decide,by decide⟩
def barAt(p:Nat × Nat × Rat × Rat)(r:Nat):Rat:=if r=2*p.1 then p.2.2.1 else if r=2*p.2.1 then -p.2.2.1 else if r=2*p.1+1 then p.2.2.2 else if r=2*p.2.1+1 then -p.2.2.2 else 0
def balM(vb:List (Nat × Nat × Rat × Rat))(nb:Nat)(vh:Vy)(r c:Nat):Rat:=match vb[c]? with
 |some p=>barAt p r
 |none=>match vh[c - nb]? with
  |some h=>if nb<=c/\r=h then 1 else 0
  |none=>0
structure BarV (n:Nat) (js:List S2) (b:B6) (p:Nat × Nat × Rat × Rat):Prop where
 a:b.a=(p.1:Nat)
 b:b.b=(p.2.1:Nat)
 ne:p.1≠p.2.1
 ex:∃(s t:S2) (x1 y1 x2 y2:Rat),js[p.1]?=some s/\js[p.2.1]?=some t/\s.x.size<=n/\s.y.size<=n/\t.x.size<=n/\t.y.size<=n/\QOf s.x.data.toList x1/\QOf s.y.data.toList y1/\QOf t.x.data.toList x2/\QOf t.y.data.toList y2/\p.2.2.1=x2 - x1/\p.2.2.2=y2 - y1
structure HoldV (nj:Nat) (h:H3) (r:Nat):Prop where
 ex:∃j:Nat,h.j=(j:Nat)/\j<nj/\r=if h.w=1 then 2*j else 2*j+1
theorem Qme{a:List (Nat × Nat × Rat × Rat)}{nb k:Nat}{p:Nat × Nat × Rat × Rat}(d:a[k]?=some p)(f:p.1≠p.2.1):
 ∀r c,updM (updM (updM (updM (balM (a.take k) nb []) (2*p.1) k p.2.2.1) (2*p.2.1) k (-p.2.2.1)) (2*p.1+1) k p.2.2.2) (2*p.2.1+1) k (-p.2.2.2) r c=balM (a.take (k+1)) nb [] r c:=by
 intro r c;have hk:=(gZ d).1;by_cases e:c=k
 .
  subst e;have b:(a.take (c+1))[c]?=some p:=by rw[List.getElem?_take_of_lt (by omega)];exact d
  have g:(a.take c)[c]?=none:=List.getElem?_eq_none (by rw[List.length_take];omega);simp only[balM,b,g,updM,barAt,and_true,List.getElem?_nil]
  repeat' split
  all_goals first|rfl|(exfalso;omega)
 .
  have b:(a.take (k+1))[c]?=(a.take k)[c]?:=by
   rcases Nat.lt_or_ge c k with h|h
   . rw[List.getElem?_take_of_lt (by omega),List.getElem?_take_of_lt h]
   . rw[List.getElem?_eq_none (by rw[List.length_take];omega),List.getElem?_eq_none (by rw[List.length_take];omega)]
  simp only[balM,b,updM,e,and_false,if_false]
theorem Qmf{a:List (Nat × Nat × Rat × Rat)}{vh:Vy}{nb k h:Nat}(hl:a.length=nb)(g:vh[k]?=some h):∀r c,updM (balM a nb (vh.take k)) h (nb+k) 1 r c=balM a nb (vh.take (k+1)) r c:=by
 intro r c;have hk:=(gZ g).1;rcases Nat.lt_or_ge c nb with i|i
 .
  obtain⟨p,e⟩:∃p,a[c]?=some p:=⟨a[c]'(by omega),gE (by omega)⟩;simp only[balM,e,updM];rw[if_neg (by omega)]
 .
  have j:a[c]?=none:=List.getElem?_eq_none (by omega);by_cases b:c=nb+k
  .
   subst b;have f:(vh.take (k+1))[nb+k - nb]?=some h:=by rw[Nat.add_sub_cancel_left,List.getElem?_take_of_lt (by omega)];exact g
   have l:(vh.take k)[nb+k - nb]?=none:=List.getElem?_eq_none (by rw[List.length_take];omega);simp only[balM,j,f,l,updM,and_true];by_cases d:r=h
   . rw[if_pos d,if_pos ⟨i,d⟩]
   . rw[if_neg d,if_neg (fun x=>d x.2)]
  .
   have f:(vh.take (k+1))[c - nb]?=(vh.take k)[c - nb]?:=by
    rcases Nat.lt_or_ge (c - nb) k with h|h
    . rw[List.getElem?_take_of_lt (by omega),List.getElem?_take_of_lt h]
    . rw[List.getElem?_eq_none (by rw[List.length_take];omega),List.getElem?_eq_none (by rw[List.length_take];omega)]
   simp only[balM,j,f,updM,b,and_false,if_false]
theorem Qmg(a1 a2 a3:Vx)(c1 c2 c3 n K:Nat)(X:List S2)(y:List B6)(hs:List H3)(vb:List (Nat × Nat × Rat × Rat))(vh:Vy)(w:Vz)(hg:Glob w)(hf:FrRow w a1 a2 a3 c1 c2 c3 X y hs)
 (hj:X.length<=10) (hb:y.length<=24) (hh:hs.length<=20) (cv:vb.length=y.length) (cw:vh.length=hs.length) (cz:∀(i:Nat) (b:B6) (p:Nat × Nat × Rat × Rat),y[i]?=some b->vb[i]?=some p->BarV n X b p) (c0:∀(i:Nat) (h:H3) (r:Nat),hs[i]?=some h->vh[i]?=some r->HoldV X.length h r)
 (hn:n<=1048576) (hK:4*n+1+(4*n+1)+1<=K):
 Calls prog 38 #[.agg #[.slice a1 X.length c1,.slice a2 y.length c2,.slice a3 hs.length c3]] w fun e w'=>∃(N W G:Nat) (T:Vy),N=2*X.length/\W=y.length+hs.length/\e=.returned (.slice (some ⟨G,0,none⟩) N N)/\T.length=N/\BM w w' #[.slice a1 X.length c1,.slice a2 y.length c2,.slice a3 hs.length c3] G W K T (balM vb y.length vh):=by
 obtain⟨HG,HF,aw,b2,eg,eh⟩:=Ie hg hf cv cw cz c0;obtain⟨N,hN⟩:=nm (2*X.length);obtain⟨W,hW⟩:=nm (y.length+hs.length);have c4:2*(X.length:Int)=(N:Int):=by omega
 have c5:(y.length:Int)+(hs.length:Int)=(W:Int):=by omega
 obtain⟨b3,b4⟩:=Ia (fun u=>Qeu a1 a2 a3 c1 c2 c3 X.length y.length hs.length u hj) (fun u=>Qdm a1 a2 a3 c1 c2 c3 X.length y.length hs.length u hb hh);simp only[c4] at b3;simp only[c5] at b4;obtain⟨c6,HN,HW⟩:=Ib (fun u=>Qhg N W u (by omega) (by omega)) hN hW;clear hg hf cv cw cz c0 c4 c5 hN hW;obtain⟨F,hF⟩:∃F:Vw,#[.slice a1 X.length c1,.slice a2 y.length c2,.slice a3 hs.length c3]=F:=⟨_,rfl⟩;obtain⟨V,hV⟩:=nm (w.alloc (.cells #[.slice a1 X.length c1,.slice a2 y.length c2,.slice a3 hs.length c3] 26));obtain⟨J,b5⟩:=nm w.heap.size;have br:=Ua hV;have d:=Uf hV b5;obtain⟨HV,ak,az⟩:=Ib hV b5 hF
 clear hV b5 hF;go_enter func38,ntmps38;go_wp2_with fail;rw[HV.o,ak.o];clear HV;have x0:V.cell? ⟨J,0,none⟩=some (.slice a1 X.length c1):=by
  have h:=d.o.cell 0
  simpa using h
 have x1:V.cell? ⟨J,1,none⟩=some (.slice (a2) y.length c2):=by
  have h:=d.o.cell 1
  simpa using h
 have x2:V.cell? ⟨J,2,none⟩=some (.slice (a3) hs.length c3):=by
  have h:=d.o.cell 2
  simpa using h
 have ag:=d;have L:O (Bl V V):=Hi bR;go_region_held3 (fun v=>v.cell? ⟨J,0,none⟩=some (.slice a1 X.length c1)/\v.cell? ⟨J,1,none⟩=some (.slice a2 y.length c2)/\v.cell? ⟨J,2,none⟩=some (.slice a3 hs.length c3)) ((first|(simp [*];done)|go_keep)) (first
  |(
   go_at_call 40;apply cM;apply b3.o;rintro e v1 ⟨rfl,M⟩;have f:=Hi ((by first|exact L.o|exact L.o.drew:Bl V _).trans (M.mono (by first|exact L.o.size|exact L.o.drew.size)));clear M L x0 x1 x2 d;have d:=Hi (ag.o.below f.o ag.o.lt);have x0:v1.cell? ⟨J,0,none⟩=some (.slice a1 X.length c1):=by
    have h:=d.o.cell 0
    simpa using h
   have x1:v1.cell? ⟨J,1,none⟩=some (.slice (a2) y.length c2):=by
    have h:=d.o.cell 1
    simpa using h
   have x2:v1.cell? ⟨J,2,none⟩=some (.slice (a3) hs.length c3):=by
    have h:=d.o.cell 2
    simpa using h
   skip)
  |(
   go_at_call 39;apply cM;apply b4.o;rintro e v2 ⟨rfl,M⟩;have x:=Hi ((by first|exact f.o|exact f.o.drew:Bl V _).trans (M.mono (by first|exact f.o.size|exact f.o.drew.size)));clear M f x0 x1 x2 d;have d:=Hi (ag.o.below x.o ag.o.lt);have x0:v2.cell? ⟨J,0,none⟩=some (.slice a1 X.length c1):=by
    have h:=d.o.cell 0
    simpa using h
   have x1:v2.cell? ⟨J,1,none⟩=some (.slice (a2) y.length c2):=by
    have h:=d.o.cell 1
    simpa using h
   have x2:v2.cell? ⟨J,2,none⟩=some (.slice (a3) hs.length c3):=by
    have h:=d.o.cell 2
    simpa using h
   skip)
  |(
   go_at_call 77;apply cM;apply c6.o;rintro e v3 ⟨⟨G,T,rfl,c7,c8,bt,bu,c9⟩,M⟩;have a0:=Hi ((by first|exact x.o|exact x.o.drew:Bl V _).trans (M.mono (by first|exact x.o.size|exact x.o.drew.size)));have ei:=Nat.le_trans x.o.size c8;obtain⟨bv,an,da,P⟩:=Ic bt bu c9 c7;clear M x x0 x1 x2 d bt bu c9 c7 c8;have d:=Hi (ag.o.below a0.o ag.o.lt);have x0:v3.cell? ⟨J,0,none⟩=some (.slice a1 X.length c1):=by
    have h:=d.o.cell 0
    simpa using h
   have x1:v3.cell? ⟨J,1,none⟩=some (.slice (a2) y.length c2):=by
    have h:=d.o.cell 1
    simpa using h
   have x2:v3.cell? ⟨J,2,none⟩=some (.slice (a3) hs.length c3):=by
    have h:=d.o.cell 2
    simpa using h
   skip)
  |fail)
 have db:O (BM w v3 F G W K T (balM (vb.take 0) y.length [])):=Hi (by
  have eu:V.heap.size=w.heap.size+1∨w.heap.size<V.heap.size:=.inr (by rw[ak.o];exact ag.o.lt);have bi:w.heap.size<V.heap.size:=by omega
  refine⟨⟨br.o.trans (a0.o.mono br.o.size),bv.o,fun r g hr=>⟨_,(an.o r g hr).1,by simp,fun c t ht=>?_⟩,da.o,fun r g hr=>by have:=(an.o r g hr).2;omega,by omega,fun r g hr=>by have:=(an.o r g hr).2;omega⟩,by rw[<-az.o,ak.o];exact d.o⟩;obtain⟨_,rfl⟩:=List.mem_replicate.1 (mO ht)
  exact⟨by simp[balM,FE.zero],by simp[FE.zero];omega⟩)
 clear d bv an da ag a0 b3 b4 c6 ei;go_wp2_with fail;go_loopw [18] (fun iv wr=>∃k:Nat,k<=y.length/\iv=.int .i64 k/\BM w wr F G W K T (balM (vb.take k) y.length [])) (fun iv _=>y.length - (intOf iv).toNat)
 case atStart=>exact⟨0,by omega,rfl,db.o⟩
 case round=>
  obtain⟨k,hk,rfl,a4⟩:=hrel;have U:=Hi a4;clear a4 x0 x1 x2;by_cases bi:k<y.length
  .
   obtain⟨b,bj⟩:∃b,y[k]?=some b:=⟨y[k],gE bi⟩;obtain⟨p,b6⟩:∃p,vb[k]?=some p:=⟨vb[k]'(by have:=aw.o;omega),gE (by have:=aw.o;omega)⟩;have ae:=eg.o k b p bj b6;obtain⟨bb,bo,rfl,ev,d0,d1,d2,d3,d4,d5⟩:=(HF.o.b.below U.o.base).bar bj;obtain⟨dc,ej,ew⟩:=Ib ae b6 bj;have q1:((k:Int)<(y.length:Int)):=by omega
   obtain⟨s,t,xs,ys,xt,yt,b7,b8,z1,z2,z3,z4,o1,o2,o3,o4,ex,ey⟩:=ae.ex;rw[ae.a] at d0;rw[ae.b] at d1;obtain⟨X1,aa⟩:=nm (wr.alloc (.cells #[.int .i64 (p.1:Nat),.int .i64 (p.2.1:Nat),.string b.c,.string b.e,.string b.l,.string b.m] 80));obtain⟨g0,ah⟩:=nm wr.heap.size;have a5:Bl wr X1:=by rw[<-aa];exact(Below.refl _ _).alloc lZ _
   have dd:SB X1 g0 80 #[.int .i64 (p.1:Nat),.int .i64 (p.2.1:Nat),.string b.c,.string b.e,.string b.l,.string b.m]:=by rw[<-aa,<-ah];exact SB.new wr _ _
   have ab:=Hi (U.o.below a5);have ao:=Qmc a1 (some ⟨bb,bo,none⟩) a3 c1 c2 c3 y.length hs.length p.1 p.2.1 n X b s t X1 (HG.o.below ab.o.base) (HF.o.j.below ab.o.base) ae.a ae.b b7 b8 hj z1 z2 z3 z4 (by omega) o1 o2 o3 o4;rw[ae.a,ae.b,<-ex,<-ey] at ao;obtain⟨ao,z⟩:=Ia ao dd;have ez:=(gZ b7).1;have e6:=(gZ b8).1;obtain⟨bk,b9⟩:=Ia ah aa;clear bj b6 ae b7 b8 z1 z2 z3 z4 o1 o2 o3 o4 ex ey a5 dd ah;have d:=Hi ab.o.box;rw[ak.o,<-az.o] at d;have x0:X1.cell? ⟨J,0,none⟩=some (.slice a1 X.length c1):=by
    have h:=d.o.cell 0
    simpa using h
   have x1:X1.cell? ⟨J,1,none⟩=some (.slice (some ⟨bb,bo,none⟩) y.length c2):=by
    have h:=d.o.cell 1
    simpa using h
   have x2:X1.cell? ⟨J,2,none⟩=some (.slice (a3) hs.length c3):=by
    have h:=d.o.cell 2
    simpa using h
   rw[<-aa] at x0 x1 x2;clear aa;go_wp2_with fail;rw[b9.o,bk.o];go_fit ao.o;rintro e w2 ⟨e7,e8,e9,fa,fb,fc,rfl,H⟩;obtain⟨nx,ax,lx,cx,mx,ox,px,rfl,rfl,rfl⟩:=Qb5 (H.get (List.Mem.tail _ (List.Mem.head _))).1;obtain⟨ny,ay,ly,cy,my,oy,py,rfl,rfl,rfl⟩:=Qb5 (H.get (List.Mem.head _)).1;obtain⟨de,df,_⟩:=H.get (List.Mem.tail _ (List.Mem.head _));obtain⟨dg,dh,_⟩:=H.get (List.Mem.head _);obtain⟨gx,bl⟩:=nm w2.heap.size;obtain⟨Y,hY⟩:=nm ((w2.alloc (.cells #[.bool nx,.slice ax lx cx,.slice mx ox px] 141)).alloc (.cells #[.bool ny,.slice ay ly cy,.slice my oy py] 141));have ap:Bl w2 Y:=by rw[<-hY];exact(bR.alloc lZ _).alloc (by simp) _
   have A:=Ug hY bl;have a6:O (SB Y (gx+1) 141 #[.bool ny,.slice ay ly cy,.slice my oy py]):=Hi (by rw[<-hY,<-bl];exact Qa1 w2 _ _ _);have a7:=H.base.trans (ap.mono H.base.size);obtain⟨ca,D,bm,di⟩:=Ic (ab.o.below a7) (z.o.below a7 z.o.lt) (de.below ap) (dg.below ap);have au:0<K:=by omega
   obtain⟨bw,bx⟩:=Ia (df.mono hK) (dh.mono hK);obtain⟨dj,dk⟩:=Ia bw.o.neg bx.o.neg;have ai:k<W:=by have:=HW.o;omega
   obtain⟨RA,dl⟩:=nm (2*p.1);obtain⟨RB,dm⟩:=nm (2*p.2.1);obtain⟨RC,dn⟩:=nm (2*p.1+1);obtain⟨RD,dp⟩:=nm (2*p.2.1+1);have ek:=HN.o;have dr:=dc.o.ne;obtain⟨gA,a8⟩:∃g,T[RA]?=some g:=⟨T[RA]'(by have:=P.o;omega),gE (by have:=P.o;omega)⟩;obtain⟨gB,a9⟩:∃g,T[RB]?=some g:=⟨T[RB]'(by have:=P.o;omega),gE (by have:=P.o;omega)⟩;obtain⟨gC,ba⟩:∃g,T[RC]?=some g:=⟨T[RC]'(by have:=P.o;omega),gE (by have:=P.o;omega)⟩;obtain⟨gD,bc⟩:∃g,T[RD]?=some g:=⟨T[RD]'(by have:=P.o;omega),gE (by have:=P.o;omega)⟩;have lA:=U.o.lt a8;have lB:=U.o.lt a9;have lC:=U.o.lt ba;have lD:=U.o.lt bc;rw[bk.o] at lA lB lC lD;have ds:g0<gx:=by
    have h1:=H.base.size;have h2:=z.o.lt;omega
   have fd:=U.o.ne RA gA a8;have fe:=U.o.ne RB gB a9;have ff:=U.o.ne RC gC ba;have fg:=U.o.ne RD gD bc;have fh:gA≠gB:=fun h=>by have:=U.o.nd RA RB gA a8 (by rw[h];exact a9);omega
   have fi:gC≠gD:=fun h=>by have:=U.o.nd RC RD gC ba (by rw[h];exact bc);omega
   have iA:((RA:Int)<(N:Int)):=by omega
   have iB:((RB:Int)<(N:Int)):=by omega
   have iC:((RC:Int)<(N:Int)):=by omega
   have iD:((RD:Int)<(N:Int)):=by omega
   have fj:((k:Int)<(W:Int)):=by omega
   have eA:2*(p.1:Int)=(RA:Int):=by omega
   have eB:2*(p.2.1:Int)=(RB:Int):=by omega
   have eC:2*(p.1:Int)+1=(RC:Int):=by omega
   have eD:2*(p.2.1:Int)+1=(RD:Int):=by omega
   obtain⟨dt,du,dv,dw⟩:=Ic (fun u=>Qdn p.1 u (by omega)) (fun u=>Qdn p.2.1 u (by omega)) (fun u=>Qdo p.1 u (by omega)) (fun u=>Qdo p.2.1 u (by omega));simp only[eA] at dt;simp only[eB] at du;simp only[eC] at dv;simp only[eD] at dw;have m1:gA≠g0:=by omega
   have m2:gB≠g0:=by omega
   have m3:gA≠gx:=by omega
   have m4:gB≠gx:=by omega
   have m5:gC≠g0:=by omega
   have m6:gD≠g0:=by omega
   have m7:gC≠gx+1:=by omega
   have m8:gD≠gx+1:=by omega
   have m9:gA≠gx+1:=by omega
   have em:gB≠gx+1:=by omega
   obtain⟨av,bd,be,bn,dx,HY,en⟩:=If a8 a9 ba bc (⟨dl,dm,dn,dp⟩:2*p.1=RA/\2*p.2.1=RB/\2*p.1+1=RC/\2*p.2.1+1=RD) hY bl;clear H de dg df dh ap a7 a8 a9 ba bc lA lB lC lD dl dm dn dp eA eB eC eD hY bl ds ek dr;clear x0 x1 x2 d0 d1 d2 d3 d4 d5;go_wp2_with fail;rw[HY.o,en.o];have s0:=D.o.cell 0;have s1:=D.o.cell 1;have s2:=ca.o.cell av.o;have s3:=ca.o.cell bd.o;have s4:=A.o.cell 0;have s5:=A.o.cell 1;have s6:=A.o.cell 2;simp at s0 s1 s4 s5 s6;have bz:=Hi (Qc3 bm.o)
   go_region_held3 (fun v=>v.cell? ⟨g0,0,none⟩=some (.int .i64 (p.1:Nat))/\v.cell? ⟨g0,1,none⟩=some (.int .i64 (p.2.1:Nat))/\v.cell? ⟨G,RA,none⟩=some (.slice (some ⟨gA,0,none⟩) W W)/\v.cell? ⟨G,RB,none⟩=some (.slice (some ⟨gB,0,none⟩) W W)/\v.cell? ⟨gx,0,none⟩=some (.bool nx)/\v.cell? ⟨gx,1,none⟩=some (.slice ax lx cx)/\v.cell? ⟨gx,2,none⟩=some (.slice mx ox px)) ((first|(simp [*];done)|go_keep)) (first
    |(
     go_at_call 80;apply cM;(first|apply dt.o|apply du.o)
     rintro e vz ⟨rfl,rfl⟩)
    |(
     go_at_call 79;apply cM;(first|exact bz.o|exact Qc3 (bm.o.below bR.drew));rintro e v6 ⟨⟨vn,rfl,E⟩,ad⟩;obtain⟨cb,cc,cd,ce,cf,cg,ch,rfl,E⟩:=E;(first
       |have I:O (Bl Y v6):=Hi ad
       |have I:O (Bl Y v6):=Hi (bR.drew.trans ad))
     have dy:O (FracV v6 (.agg #[.bool cb,.slice cc cd ce,.slice cf cg ch]) (-p.2.2.1)):=Hi ⟨cb,cc,cd,ce,cf,cg,ch,rfl,E⟩;clear E ad s0 s1 s2 s3 s4 s5 s6;have aj:=Hi (ca.o.below I.o);have s0:=(D.o.below I.o D.o.lt).cell 0;have s1:=(D.o.below I.o D.o.lt).cell 1;have s2:=aj.o.cell av.o;have s3:=aj.o.cell bd.o;have s4:=(A.o.below I.o A.o.lt).cell 0;have s5:=(A.o.below I.o A.o.lt).cell 1;have s6:=(A.o.below I.o A.o.lt).cell 2;simp at s0 s1 s4 s5 s6;obtain⟨e0,e1,e2,f0,f1,f2,f3,f4,f5⟩:=aj.o.at av.o ai;obtain⟨e3,e4,e5,k0,k1,k2,k3,k4,k5⟩:=aj.o.at bd.o ai
     skip)
    |fail)
   obtain⟨Z,hZ⟩:=nm (set3 (set3 v6 gA k (.bool nx) (.slice ax lx cx) (.slice mx ox px)) gB k (.bool cb) (.slice cc cd ce) (.slice cf cg ch));have bf:=aj.o.put av.o ai (bm.o.below I.o) bw.o au;have bp:O (BM w Z F G W K T _):=Hi (by
    rw[<-hZ]
    exact bf.put bd.o ai (aj.o.keepV av.o dy.o) dj.o au)
   have ar:O (FracV Z (.agg #[.bool ny,.slice ay ly cy,.slice my oy py]) p.2.2.2):=Hi (by
    rw[<-hZ]
    exact bf.keepV bd.o (aj.o.keepV av.o (di.o.below I.o)))
   have S:O (SB Z g0 80 #[.int .i64 (p.1:Nat),.int .i64 (p.2.1:Nat),.string b.c,.string b.e,.string b.l,.string b.m]):=Hi (by
    rw[<-hZ]
    exact keep3 (keep3 (D.o.below I.o D.o.lt) (fun h=>m1 h.symm)) (fun h=>m2 h.symm))
   have B:O (SB Z (gx+1) 141 #[.bool ny,.slice ay ly cy,.slice my oy py]):=Hi (by
    rw[<-hZ]
    exact keep3 (keep3 (a6.o.below I.o a6.o.lt) (fun h=>m9 h.symm)) (fun h=>em h.symm))
   have ci:=hZ;unfold set3 at ci;rw[ci];clear ci hZ bf s0 s1 s2 s3 s4 s5 s6 f0 f1 f2 f3 f4 f5 k0 k1 k2 k3 k4 k5 aj dy I di D a6 A bm bz;have s0:=S.o.cell 0;have s1:=S.o.cell 1;have s2:=bp.o.cell be.o;have s3:=bp.o.cell bn.o;have s4:=B.o.cell 0;have s5:=B.o.cell 1;have s6:=B.o.cell 2;simp at s0 s1 s4 s5 s6;have b0:=Hi (Qc3 ar.o);go_wp2_with fail;go_region_held3 (fun v=>v.cell? ⟨g0,0,none⟩=some (.int .i64 (p.1:Nat))/\v.cell? ⟨g0,1,none⟩=some (.int .i64 (p.2.1:Nat))/\v.cell? ⟨G,RC,none⟩=some (.slice (some ⟨gC,0,none⟩) W W)/\v.cell? ⟨G,RD,none⟩=some (.slice (some ⟨gD,0,none⟩) W W)/\v.cell? ⟨gx+1,0,none⟩=some (.bool ny)/\v.cell? ⟨gx+1,1,none⟩=some (.slice ay ly cy)/\v.cell? ⟨gx+1,2,none⟩=some (.slice my oy py)) ((first|(simp [*];done)|go_keep)) (first
    |(
     go_at_call 81;apply cM;(first|apply dv.o|apply dw.o)
     rintro e vz ⟨rfl,rfl⟩)
    |(
     go_at_call 79;apply cM;(first|exact b0.o|exact Qc3 (ar.o.below bR.drew));rintro e v7 ⟨⟨vn,rfl,E⟩,ad⟩;obtain⟨cj,ck,cl,cm,cn,cp,cq,rfl,E⟩:=E;(first
       |have af:O (Bl Z v7):=Hi ad
       |have af:O (Bl Z v7):=Hi (bR.drew.trans ad))
     have dz:O (FracV v7 (.agg #[.bool cj,.slice ck cl cm,.slice cn cp cq]) (-p.2.2.2)):=Hi ⟨cj,ck,cl,cm,cn,cp,cq,rfl,E⟩;clear E ad s0 s1 s2 s3 s4 s5 s6;have al:=Hi (bp.o.below af.o);have s0:=(S.o.below af.o S.o.lt).cell 0;have s1:=(S.o.below af.o S.o.lt).cell 1;have s2:=al.o.cell be.o;have s3:=al.o.cell bn.o;have s4:=(B.o.below af.o B.o.lt).cell 0;have s5:=(B.o.below af.o B.o.lt).cell 1;have s6:=(B.o.below af.o B.o.lt).cell 2;simp at s0 s1 s4 s5 s6;obtain⟨e0,e1,e2,f0,f1,f2,f3,f4,f5⟩:=al.o.at be.o ai;obtain⟨e3,e4,e5,k0,k1,k2,k3,k4,k5⟩:=al.o.at bn.o ai
     skip)
    |fail)
   obtain⟨Q,hQ⟩:∃Z,set3 (set3 v7 gC k (.bool ny) (.slice ay ly cy) (.slice my oy py)) gD k (.bool cj) (.slice ck cl cm) (.slice cn cp cq)=Z:=⟨_,rfl⟩;have b1:=al.o.put be.o ai (ar.o.below af.o) bx.o au;have ea:O (BM w Q F G W K T _):=Hi (by
    rw[<-hQ]
    exact b1.put bn.o ai (al.o.keepV be.o dz.o) dk.o au)
   have am:=hQ;unfold set3 at am;rw[am];have cr:O (BM w Q F G W K T (balM (vb.take (k+1)) y.length [])):=Hi (ea.o.congr (fun r c=>by
    have h:=Qme (nb:=y.length) ej.o dc.o.ne r c;obtain⟨h1,h2,h3,h4⟩:=dx.o;rw[h3,h4,h1,h2] at h
    exact h))
   clear am hQ b1 s0 s1 s2 s3 s4 s5 s6 f0 f1 f2 f3 f4 f5 k0 k1 k2 k3 k4 k5 al dz af ar S B b0 ea bp;go_wp2;go_roundw
   case rel=>exact⟨k+1,by omega,by go_num,cr.o⟩
   case measure=>simp[intOf];omega
  .
   obtain rfl:k=y.length:=by omega
   have eb:O (BM w wr F G W K T (balM vb y.length (vh.take 0))):=Hi (by
    have h:=U.o;rw[<-aw.o,List.take_length,aw.o] at h
    exact h)
   have d:=Hi eb.o.box;rw[ak.o,<-az.o] at d;have x0:wr.cell? ⟨J,0,none⟩=some (.slice a1 X.length c1):=by
    have h:=d.o.cell 0
    simpa using h
   have x1:wr.cell? ⟨J,1,none⟩=some (.slice (a2) y.length c2):=by
    have h:=d.o.cell 1
    simpa using h
   have x2:wr.cell? ⟨J,2,none⟩=some (.slice (a3) hs.length c3):=by
    have h:=d.o.cell 2
    simpa using h
   clear U db d;go_wp2_with fail;go_loopw [71] (fun iv wr=>∃k:Nat,k<=hs.length/\iv=.int .i64 k/\BM w wr F G W K T (balM vb y.length (vh.take k))) (fun iv _=>hs.length - (intOf iv).toNat)
   case atStart=>exact⟨0,by omega,rfl,eb.o⟩
   case round=>
    obtain⟨k,hk,rfl,a4⟩:=hrel;have U:=Hi a4;clear a4 x0 x1 x2;by_cases bi:k<hs.length
    .
     obtain⟨h,cs⟩:∃h,hs[k]?=some h:=⟨hs[k],gE bi⟩;obtain⟨R,ct⟩:∃R,vh[k]?=some R:=⟨vh[k]'(by have:=b2.o;omega),gE (by have:=b2.o;omega)⟩;obtain⟨j,ec,eo,cu⟩:=(eh.o k h R cs ct).ex;obtain⟨fk,fl,rfl,fm,d0,d1,d2⟩:=(HF.o.h.below U.o.base).hold cs;rw[ec] at d0;obtain⟨X1,aa⟩:=nm (wr.alloc (.cells #[.int .i64 (j:Nat),.int .i64 h.w,.string h.q] 83));obtain⟨g0,ah⟩:=nm wr.heap.size;have a5:Bl wr X1:=by rw[<-aa];exact(Below.refl _ _).alloc lZ _
     have z:=Uf aa ah;have ab:=Hi (U.o.below a5);have ep:R<N:=by
      have:=HN.o
      split at cu<;>omega
     obtain⟨gR,bg⟩:∃g,T[R]?=some g:=⟨T[R]'(by have:=P.o;omega),gE (by have:=P.o;omega)⟩;have lR:=U.o.lt bg;rw[ah] at lR;have m1:gR≠g0:=by omega
     have m2:=U.o.ne R gR bg;have m3:gR≠J:=by
      have:=U.o.los R gR bg;have:=ak.o;omega
     obtain⟨bh,eq⟩:=Ia bg ct;have eR:(if h.w=1 then 2*(j:Int) else 2*(j:Int)+1)=(R:Int):=by
      rw[cu]
      split<;>simp
     have ed:=Hi (fun u=>Qwe j h.w h.q u (by omega));simp only[eR] at ed;have er:=Hi (fun u (hu:Bl X1 u)=>of_val (q:=1) (s:=⟨#[49]⟩) ((HG.o.below ab.o.base).below hu) one_q (by decide));obtain⟨C,hC⟩:=nm (y.length+k);have ee:C<W:=by have:=HW.o;omega
     have wC:IntKind.i64.wrap ((y.length:Int)+(k:Int))=(C:Int):=by rw[wrap_i64 _ (by omega) (by omega)];omega
     have q1:((k:Int)<(hs.length:Int)):=by omega
     have iR:((R:Int)<(N:Int)):=by omega
     have iC:((C:Int)<(W:Int)):=by omega
     have au:0<K:=by omega
     obtain⟨es,b9,bk⟩:=Ib hC aa ah;clear cs ct ec eo cu aa ah a5 bg lR eR hC ep;go_wp2_with fail;rw[b9.o,bk.o];have d:=Hi ab.o.box;rw[ak.o,<-az.o] at d;have s0:=z.o.cell 0;have s1:=z.o.cell 1;have s2:=z.o.cell 2;have s3:=ab.o.cell bh.o;have s4:=d.o.cell 1;simp at s0 s1 s2 s4;have L:O (Bl X1 X1):=Hi bR;go_region_held3 (fun v=>v.cell? ⟨g0,0,none⟩=some (.int .i64 (j:Nat))/\v.cell? ⟨g0,1,none⟩=some (.int .i64 h.w)/\v.cell? ⟨g0,2,none⟩=some (.string h.q)/\v.cell? ⟨G,R,none⟩=some (.slice (some ⟨gR,0,none⟩) W W)/\v.cell? ⟨J,1,none⟩=some (.slice a2 y.length c2)) ((first|(simp [*];done)|go_keep)) (first
      |(
       go_at_call 83;apply cM;apply ed.o;rintro e v1 ⟨rfl,M⟩;have f:=Hi ((by first|exact L.o|exact L.o.drew:Bl X1 _).trans (M.mono (by first|exact L.o.size|exact L.o.drew.size)));clear M L s0 s1 s2 s3 s4;have s0:=(z.o.below f.o z.o.lt).cell 0;have s1:=(z.o.below f.o z.o.lt).cell 1;have s2:=(z.o.below f.o z.o.lt).cell 2;have s3:=(ab.o.below f.o).cell bh.o;have s4:=(d.o.below f.o d.o.lt).cell 1;simp at s0 s1 s2 s4
       skip)
      |(
       go_at_call 82;apply cM;apply er.o;(first|exact f.o|exact f.o.drew);rintro e v2 ⟨⟨vn,rfl,E⟩,ad⟩;obtain⟨nq,aq,lq,dq,mq,oq,pq,rfl,E⟩:=E;have x:=Hi ((by first|exact f.o|exact f.o.drew:Bl X1 _).trans (ad.mono (by first|exact f.o.size|exact f.o.drew.size)));have ef:O (FracV v2 (.agg #[.bool nq,.slice aq lq dq,.slice mq oq pq]) 1):=Hi ⟨nq,aq,lq,dq,mq,oq,pq,rfl,E⟩;clear E ad s0 s1 s2 s3 s4;have bq:=Hi (ab.o.below x.o);have s0:=(z.o.below x.o z.o.lt).cell 0;have s1:=(z.o.below x.o z.o.lt).cell 1;have s2:=(z.o.below x.o z.o.lt).cell 2;have s3:=bq.o.cell bh.o;have s4:=(d.o.below x.o d.o.lt).cell 1;simp at s0 s1 s2 s4;obtain⟨e0,e1,e2,f0,f1,f2,f3,f4,f5⟩:=bq.o.at bh.o ee
       skip)
      |fail)
     obtain⟨Q,hQ⟩:=nm (set3 v2 gR C (.bool nq) (.slice aq lq dq) (.slice mq oq pq));have cr:O (BM w Q F G W K T (balM vb y.length (vh.take (k+1)))):=Hi (by
      rw[<-hQ];refine(bq.o.put bh.o ee ef.o (Fits.one.mono (by omega)) au).congr (fun r c=>?_);have h:=Qmf aw.o eq.o r c;rw[es.o] at h
      exact h)
     have am:=hQ;unfold set3 at am;rw[am];clear am hQ s0 s1 s2 s3 s4 f0 f1 f2 f3 f4 f5 bq ef x d;go_wp2;go_roundw
     case rel=>exact⟨k+1,by omega,by go_num,cr.o⟩
     case measure=>simp[intOf];omega
    .
     obtain rfl:k=hs.length:=by omega
     have et:=Hi (by
      have h:=U.o;rw[<-b2.o,List.take_length] at h
      exact h)
     clear U;go_wp2;go_ret;exact⟨N,W,G,T,HN.o.symm,HW.o.symm,rfl,P.o,by rw[az.o];exact et.o⟩
theorem Qhh{P:Program}{e:Func}{p u v x:Tmp}{ty:Vr}(h:e.results=#[.tmp u,.tmp v,.tmp x,.cell p ty])(a:Vw)(w:Vz)(g:Nat)(t:Vr)(b:Vw)(f:Nat × Nat)(d:TypeDesc)
 (i:a.getD p undef=.pointer (some ⟨g,0,none⟩)) (j:w.heap[g]?=some (.cells b t f))
 (k:P.underlying ty=some d) (l:(match d with| .struct _| .array _ _=>true|_=>false)=true) (m:(P.info? ty).map (·.size)=some b.size):
 (results e a).run P w=.ok (.tuple #[a.getD u undef,a.getD v undef,a.getD x undef,.agg b]) w:=by
 have c:a[p]?.getD undef=.pointer (some ⟨g,0,none⟩):=by simpa using i
 simp[results,h,c,asAddr,run_loadVar_row w g t ty b f d j k l m]
theorem GM.rows{w u:Vz}{B G W K:Nat}{d:Vy}{M:Nat->Nat->Rat}(h:GM w u B G W K d M)(H:∀r c,W<=c->M r c=0):
 ∃rs:List MR,rs.length=d.length/\QMat u (some ⟨G,0,none⟩) d.length W rs/\Oks u W K rs/\(∀r,r∈ rs->∀t,t∈ r.ts->t.k<=K)/\rs.map MR.q=(List.range d.length).map M:=by
 have hex:∀r:Nat,∃m:MR,∀g,d[r]?=some g->m.a=some ⟨g,0,none⟩/\m.cap=W/\m.ts.length=W/\QBlk u g m.ts/\∀(c:Nat) (t:FE),m.ts[c]?=some t->t.q=M r c/\t.k<=K:=fun r=>by
  rcases j:d[r]? with _|g
  . exact⟨MR.none,fun g I=>by cases I⟩
  . obtain⟨us,x,s,v⟩:=h.row r g j
    exact⟨⟨some ⟨g,0,none⟩,W,us⟩,fun N C=>by cases C;exact⟨rfl,rfl,s,x,v⟩⟩
 obtain⟨f,J⟩:=Classical.axiomOfChoice hex;have n:∀r,r<d.length->∃g,d[r]?=some g/\(f r).a=some ⟨g,0,none⟩/\(f r).cap=W/\(f r).ts.length=W/\QBlk u g (f r).ts/\∀(c:Nat) (t:FE),(f r).ts[c]?=some t->t.q=M r c/\t.k<=K:=fun r j=>⟨d[r],gE j,J r _ (gE j)⟩
 have y:∀m,m∈ (List.range d.length).map f->∃r,r<d.length/\f r=m:=fun m e=>by
  obtain⟨r,j,rfl⟩:=List.mem_map.1 e;exact⟨r,List.mem_range.1 j,rfl⟩
 have l:(d.map (slRow W)).toArray.toList=((List.range d.length).map f).flatMap MR.cells:=by
  rw[Qes,List.map_map];apply List.ext_getElem?;intro i;simp only[List.getElem?_map,Function.comp];rcases Nat.lt_or_ge i d.length with p|p
  .
   obtain⟨g,x,s,v,z,_⟩:=n i p;rw[x,List.getElem?_range p];simp[slRow,MR.val,s,v,z]
  . rw[List.getElem?_eq_none p,List.getElem?_eq_none (by simpa using p)]
    rfl
 have b:∀m,m∈ (List.range d.length).map f->QRow u m.a m.cap m.ts/\m.ts.length=W/\∀t,t∈ m.ts->t.k<=K:=fun m e=>by
  obtain⟨r,j,rfl⟩:=y m e;obtain⟨g,x,s,v,z,E,D⟩:=n r j;refine⟨?_,z,fun t A=>?_⟩
  . rw[s,v,<-z]
    exact E.row
  . obtain⟨i,p,L⟩:=List.getElem_of_mem A
    exact(D i t (by rw[<-L];exact gE p)).2
 refine⟨(List.range d.length).map f,by simp,⟨h.o.arow l (by simp),fun m e=>⟨(b m e).1,(b m e).2.1⟩⟩,fun m e=>⟨(b m e).1,(b m e).2.1,(b m e).2.2⟩,fun m e=>(b m e).2.2,?_⟩;rw[List.map_map];apply List.map_congr_left;intro r j;obtain⟨g,x,s,v,z,E,D⟩:=n r (List.mem_range.1 j);funext c
 show (f r).q c=M r c
 rcases Nat.lt_or_ge c W with F|F
 .
  obtain⟨t,A⟩:∃t,(f r).ts[c]?=some t:=⟨(f r).ts[c]'(by omega),gE (by omega)⟩;rw[MR.q_at A];exact(D c t A).1
 . rw[MR.q_beyond (by omega),H r c F]
theorem Qcw{a:List (Nat × Nat × Rat × Rat)}{vh:Vy}{nb nh:Nat}(e:a.length=nb)(f:vh.length=nh):∀r c,nb+nh<=c->balM a nb vh r c=0:=by
 intro r c g;have b:a[c]?=none:=List.getElem?_eq_none (by omega);have d:vh[c - nb]?=none:=List.getElem?_eq_none (by omega);simp only[balM,b,d]
theorem Qdr(d f g:Vx)(c1 c2 c3:Nat)(a:List S2)(b:List B6)(hs:List H3)(w:Vz)(j:Glob w)(k:FrRow w d f g c1 c2 c3 a b hs)(l:FrSized a b hs)(h:FrameFault a b hs 0 0):
 Calls prog 36 #[.agg #[.slice d a.length c1,.slice f b.length c2,.slice g hs.length c3]] w fun e w'=>e=.returned (.agg #[.int .i64 0,.int .i64 0])/\Bl w w':=by
 refine(Qdi d f g c1 c2 c3 a b hs w j k l).mono ?_;rintro e w' ⟨c,m,rfl,i,n⟩;obtain⟨rfl,rfl⟩:=i.inj h;exact⟨rfl,n⟩
structure FrV (n:Nat) (js:List S2) (bs:List B6) (hs:List H3) (vb:List (Nat × Nat × Rat × Rat)) (vh:Vy):Prop where
 j:js.length<=10
 b:bs.length<=24
 h:hs.length<=20
 lb:vb.length=bs.length
 lh:vh.length=hs.length
 vb:∀(i:Nat) (b:B6) (p:Nat × Nat × Rat × Rat),bs[i]?=some b->vb[i]?=some p->BarV n js b p
 vh:∀(i:Nat) (h:H3) (r:Nat),hs[i]?=some h->vh[i]?=some r->HoldV js.length h r
 n:n<=1048576
def balRows(nj:Nat)(vb:List (Nat × Nat × Rat × Rat))(nb:Nat)(vh:Vy):List Vec:=(List.range (2*nj)).map (balM vb nb vh)
theorem Qds(g i l:Vx)(c1 c2 c3 n K:Nat)(d:List S2)(c:List B6)(hs:List H3)(m:List (Nat × Nat × Rat × Rat))(vh:Vy)(w:Vz)(v:Glob w)(x:FrRow w g i l c1 c2 c3 d c hs)(a:FrV n d c hs m vh)(y:4*n+1+(4*n+1)+1<=K):
 Calls prog 38 #[.agg #[.slice g d.length c1,.slice i c.length c2,.slice l hs.length c3]] w fun e w'=>∃(N G:Nat) (rs:List MR),N=2*d.length/\e=.returned (.slice (some ⟨G,0,none⟩) N N)/\rs.length=N/\QMat w' (some ⟨G,0,none⟩) N (c.length+hs.length) rs/\Oks w' (c.length+hs.length) K rs/\(∀r,r∈ rs->∀t,t∈ r.ts->t.k<=K)/\rs.map MR.q=balRows d.length m c.length vh/\Bl w w':=by
 refine(Qmg g i l c1 c2 c3 n K d c hs m vh w v x a.j a.b a.h a.lb a.lh a.vb a.vh a.n y).mono ?_;rintro e w' ⟨N,W,G,B,rfl,rfl,rfl,o,f⟩;obtain⟨rs,p,s,z,A,u⟩:=f.rows (Qcw a.lb a.lh);rw[o] at p s u;exact⟨_,G,rs,rfl,rfl,p,s,z,A,u,f.base⟩
theorem Qhi(m q r:Vx)(c1 c2 c3 n K:Nat)(i:List S2)(d:List B6)(hs:List H3)(vb:List (Nat × Nat × Rat × Rat))(vh:Vy)(w:Vz)(hg:Glob w)(hf:FrRow w m q r c1 c2 c3 i d hs)(hz:FrSized i d hs)(Z:FrameFault i d hs 0 0)(hv:FrV n i d hs vb vh)(hK:4*n+1+(4*n+1)+1<=K)(aq:4*K+1<68719476000)
 (I:Nat->List Vec->List Vec->List Nat->Prop) (hI:Going K I) (h0:I 0 (balRows i.length vb d.length vh) [] []):
 Calls prog 8 #[.agg #[.slice m i.length c1,.slice q d.length c2,.slice r hs.length c3]] w fun e w'=>(∃(L S:List Vec) (hh:Vy),e=.returned (.tuple #[.int .i64 (S.length:Nat),.int .i64 ((d.length:Int)+(hs.length:Int) - (S.length:Nat)),.int .i64 (2*(i.length:Int) - (S.length:Nat)),.agg #[.int .i64 0,.int .i64 0]])/\S.length<=d.length+hs.length/\I (d.length+hs.length) L S hh)/\Bl w w':=by
 obtain⟨HG,HF,HZ,ar,HV,HI,H0⟩:=If hg hf hz Z hv hI h0;have n1:=hv.j;have n2:=hv.b;have n3:=hv.h;clear hg hf hz Z hv hI h0;obtain⟨c,H⟩:=nm w.heap.size;obtain⟨V0,D⟩:=nm ((w.alloc (.cells #[.slice m i.length c1,.slice q d.length c2,.slice r hs.length c3] 26)).alloc (.cells #[.int .i64 0,.int .i64 0] 31));have k:=Ub D;have Q:=Ug D H;have R:=Uh D H;obtain⟨aa,T,ab⟩:=Ib D H (Qdr m q r c1 c2 c3 i d hs V0 (HG.o.below k.o) (HF.o.below k.o) HZ.o ar.o);clear D H
 go_enter func8,ntmps8;go_wp2_with fail;rw[aa.o,T.o];clear aa;go_fit ab.o;rintro e w1 ⟨rfl,l⟩;have ad:=Q.o.below l Q.o.lt;have E:=R.o.below l R.o.lt;obtain⟨V,hV⟩:=nm ((w1.setCell ⟨c+1,0,none⟩ (.int .i64 0)).setCell ⟨c+1,1,none⟩ (.int .i64 0));have ho:Only (c+1) w1 V:=by rw[<-hV];exact((Only.refl _ _).setCell _ _).setCell _ _
 have f:=Hi (ad.only ho (by omega));have g:O (SB V (c+1) 31 #[.int .i64 0,.int .i64 0]):=Hi (by rw[<-hV];exact(E.set 0 _).set 1 _);have y:=Hi ((k.o.trans (l.mono k.o.size)).trans (ho.below (by have:=T.o;omega) (k.o.trans (l.mono k.o.size)).size));obtain⟨z0,z1,-⟩:=zc E;have f0:=E.free 0;have f1:=E.free 1;obtain⟨k0,k1,-⟩:=zc g.o;have au:=Hi hV;rw[<-hV] at k0 k1;clear l ad E ho Q R ab hV;go_wp2_with fail;rw[au.o];have a:=f;have F:V.cell? ⟨c,0,none⟩=some (.slice m i.length c1):=by
  have h:=a.o.cell 0
  simpa using h
 have x1:V.cell? ⟨c,1,none⟩=some (.slice q d.length c2):=by
  have h:=a.o.cell 1
  simpa using h
 have x2:V.cell? ⟨c,2,none⟩=some (.slice r hs.length c3):=by
  have h:=a.o.cell 2
  simpa using h
 clear z0 z1 f0 f1 k0 k1;have s:O (Bl V V):=Hi bR;obtain⟨U,X,ae⟩:=Ib (fun u (hu:Bl V u)=>Qds m q r c1 c2 c3 n K i d hs vb vh u (HG.o.below (y.o.trans (hu.mono y.o.size))) (HF.o.below (y.o.trans (hu.mono y.o.size))) HV.o hK) (fun u=>Qdm m q r c1 c2 c3 i.length d.length hs.length u n2 n3) (fun u=>Qeu m q r c1 c2 c3 i.length d.length hs.length u n1);obtain⟨W,hW⟩:=nm (d.length+hs.length);obtain⟨Y,af⟩:=nm (2*i.length);have eW:(d.length:Int)+(hs.length:Int)=(W:Int):=by omega
 have eN:2*(i.length:Int)=(Y:Int):=by omega
 simp only[eW] at X;simp only[eN] at ae;rw[hW] at U;obtain⟨ag,av,aw,ax⟩:=Ic hW af eW eN;have ay:W<=100:=by omega
 have az:Y<=100:=by omega
 have a0:0<K:=by omega
 clear eW eN hW af;go_region_held3 (fun v=>v.cell? ⟨c,0,none⟩=some (.slice m i.length c1)/\v.cell? ⟨c,1,none⟩=some (.slice q d.length c2)/\v.cell? ⟨c,2,none⟩=some (.slice r hs.length c3)) ((first|(simp [*];done)|go_keep)) (first
  |(
   go_at_call 38;apply cM;apply U.o;(first|exact s.o|exact s.o.drew);rintro e v1 ⟨N,G,rs,hN,rfl,ah,ai,M,_,hq,l⟩;obtain rfl:Y=N:=by rw[hN];exact av.o.symm
   obtain⟨aj,ak,P,HQ⟩:=Ic ah ai.row M hq;clear hN ah ai M hq;have z:=Hi ((by first|exact s.o|exact s.o.drew:Bl V _).trans (l.mono (by first|exact s.o.size|exact s.o.drew.size)));clear l s F x1 x2 a;have a:=Hi (f.o.below z.o f.o.lt);have F:v1.cell? ⟨c,0,none⟩=some (.slice m i.length c1):=by
    have h:=a.o.cell 0
    simpa using h
   have x1:v1.cell? ⟨c,1,none⟩=some (.slice q d.length c2):=by
    have h:=a.o.cell 1
    simpa using h
   have x2:v1.cell? ⟨c,2,none⟩=some (.slice r hs.length c3):=by
    have h:=a.o.cell 2
    simpa using h
   skip)
  |(
   go_at_call 39;apply cM;apply X.o;rintro e v2 ⟨rfl,J⟩;(first
     |have x:=Hi J
     |have x:O (Bl v1 v2):=Hi (bR.drew.trans J))
   have A:=Hi ((by first|exact z.o|exact z.o.drew:Bl V _).trans (J.mono (by first|exact z.o.size|exact z.o.drew.size)));clear J z F x1 x2 a;have a:=Hi (f.o.below A.o f.o.lt);have F:v2.cell? ⟨c,0,none⟩=some (.slice m i.length c1):=by
    have h:=a.o.cell 0
    simpa using h
   have x1:v2.cell? ⟨c,1,none⟩=some (.slice q d.length c2):=by
    have h:=a.o.cell 1
    simpa using h
   have x2:v2.cell? ⟨c,2,none⟩=some (.slice r hs.length c3):=by
    have h:=a.o.cell 2
    simpa using h
   skip)
  |(
   go_at_call 37;apply cM
   (have al:=Qv6 (some ⟨G,0,none⟩) Y W K rs v2 I HI.o (ak.o.below x.o) (P.o.fr (Fr.of_below x.o)) (by rw[aj.o];omega) (by omega) a0 aq (by rw[HQ.o];exact H0.o)
    rw[aj.o] at al
    exact al)
   rintro e v3 ⟨⟨L,S,hh,rfl,a4,hi⟩,am⟩;have HJ:=Hi hi;clear hi;have t:=Hi ((by first|exact A.o|exact A.o.drew:Bl V _).trans (am.mono (by first|exact A.o.size|exact A.o.drew.size)));clear am A F x1 x2 a;have a:=Hi (f.o.below t.o f.o.lt);have F:v3.cell? ⟨c,0,none⟩=some (.slice m i.length c1):=by
    have h:=a.o.cell 0
    simpa using h
   have x1:v3.cell? ⟨c,1,none⟩=some (.slice q d.length c2):=by
    have h:=a.o.cell 1
    simpa using h
   have x2:v3.cell? ⟨c,2,none⟩=some (.slice r hs.length c3):=by
    have h:=a.o.cell 2
    simpa using h
   skip)
  |fail)
 have a5:IntKind.i64.wrap ((W:Int) - (S.length:Int))=(W:Int) - (S.length:Int):=wrap_i64 _ (by omega) (by omega);have a6:IntKind.i64.wrap ((Y:Int) - (S.length:Int))=(Y:Int) - (S.length:Int):=wrap_i64 _ (by omega) (by omega);have a9:=Hi (g.o.below t.o g.o.lt);clear ak P HQ x U;go_wp2_with fail;go_region_held3 (fun v=>v.cell? ⟨c,0,none⟩=some (.slice m i.length c1)/\v.cell? ⟨c,1,none⟩=some (.slice q d.length c2)/\v.cell? ⟨c,2,none⟩=some (.slice r hs.length c3)) ((first|(simp [*];done)|go_keep)) (first
  |(
   go_at_call 39;apply cM;apply X.o;rintro e v4 ⟨rfl,an⟩;have B:=Hi ((by first|exact t.o|exact t.o.drew:Bl V _).trans (an.mono (by first|exact t.o.size|exact t.o.drew.size)));clear an t F x1 x2 a;have a:=Hi (f.o.below B.o f.o.lt);have F:v4.cell? ⟨c,0,none⟩=some (.slice m i.length c1):=by
    have h:=a.o.cell 0
    simpa using h
   have x1:v4.cell? ⟨c,1,none⟩=some (.slice q d.length c2):=by
    have h:=a.o.cell 1
    simpa using h
   have x2:v4.cell? ⟨c,2,none⟩=some (.slice r hs.length c3):=by
    have h:=a.o.cell 2
    simpa using h
   skip)
  |(
   go_at_call 40;apply cM;apply ae.o;rintro e v5 ⟨rfl,ao⟩;have C:=Hi ((by first|exact B.o|exact B.o.drew:Bl V _).trans (ao.mono (by first|exact B.o.size|exact B.o.drew.size)));clear ao B F x1 x2 a;have a:=Hi (f.o.below C.o f.o.lt);have F:v5.cell? ⟨c,0,none⟩=some (.slice m i.length c1):=by
    have h:=a.o.cell 0
    simpa using h
   have x1:v5.cell? ⟨c,1,none⟩=some (.slice q d.length c2):=by
    have h:=a.o.cell 1
    simpa using h
   have x2:v5.cell? ⟨c,2,none⟩=some (.slice r hs.length c3):=by
    have h:=a.o.cell 2
    simpa using h
   obtain⟨y0,y1,-⟩:=zc (g.o.below C.o g.o.lt);have g0:=(g.o.below C.o g.o.lt).free 0;have g1:=(g.o.below C.o g.o.lt).free 1
   skip)
  |fail)
 obtain⟨a7,a8⟩:=Ia (g.o.below C.o g.o.lt) (y.o.trans (C.o.mono y.o.size));have ap:w.heap.size<=c+1:=by have:=T.o;omega
 clear F x1 x2 y0 y1 g0 g1 a5 a6;go_wp2;refine bodyPost_ret (Qhh rfl _ _ (c+1) 31 #[.int .i64 0,.int .i64 0] (0,0) _ rfl ((a7.o.set 0 _).set 1 _) underlying31 rfl Tryz.faultInfo) rfl ?_;exact⟨⟨L,S,hh,by rw[aw.o,ax.o];rfl,by rw[ag.o];exact a4,by rw[ag.o];exact HJ.o⟩,(a8.o.setCell (p:=⟨c+1,0,none⟩) ap _).setCell (p:=⟨c+1,1,none⟩) ap _⟩
def LoadsFault(nj en:Nat)(ls:List L3)(c at_:Int):Prop:=
 (20<ls.length/\c=2/\at_=(en:Nat))∨
 (ls.length<=20/\((∃(k:Nat) (l:L3),ls[k]?=some l/\(∀(i:Nat) (x:L3),i<k->ls[i]?=some x->IsJ nj x.j)/\¬IsJ nj l.j/\c=4/\at_=(en:Nat)+(k:Nat))∨
 ((∀(i:Nat) (x:L3),ls[i]?=some x->IsJ nj x.j)/\c=0/\at_=0)))
theorem Qmh(A W X Y:Vx)(c1 c2 c3 Z m nb nh:Nat)(b:List L3)(w:Vz)(hl:ARow L3.cells w Y Z b)(n1:m<=10)(n2:nb<=24)(n3:nh<=20)(aa:b.length<=9223372036854775807):
 Calls prog 58 #[.agg #[.slice A m c1,.slice W nb c2,.slice X nh c3],.slice Y b.length Z] w fun e w'=>∃c D,e=.returned (.agg #[.int .i64 c,.int .i64 D])/\LoadsFault m (nb+nh) b c D/\Bl w w':=by
 have HL:=Hi hl;clear hl;obtain⟨n,f⟩:=nm w.heap.size;obtain⟨V,B⟩:=nm ((w.alloc (.cells #[.slice A m c1,.slice W nb c2,.slice X nh c3] 26)).alloc (.cells #[.int .i64 0,.int .i64 0] 31));have d:=Ub B;have t:=Ug B f;have g:=Uh B f;obtain⟨y,E⟩:=nm (nb+nh);have ei:(nb:Int)+(nh:Int)=(y:Int):=by omega
 obtain⟨-,x1,x2,-⟩:=zc t.o;obtain⟨J,y1,-⟩:=zc g.o;have K:=g.o.free 0;have L:=g.o.free 1;rw[<-B,<-f] at x1 x2 J y1 K L;obtain⟨F,q,G⟩:=Ib B f E;have r:w.heap.size<=n+1:=by omega
 have O:y<=44:=by omega
 clear B f E;go_enter func58,ntmps58;by_cases P:20<b.length
 .
  have Q:(20:Int)<(b.length:Int):=by omega
  go_wp2;simp only[F.o,q.o,ei];refine bodyPost_ret (results_cell_row rfl _ _ (n+1) 31 #[.int .i64 2,.int .i64 (y:Int)] (0,0) _ rfl (by rw[<-q.o];exact Qa1 w _ _ _) underlying31 rfl Tryz.faultInfo) rfl ?_;exact⟨2,(y:Nat),rfl,.inl ⟨P,rfl,by rw[G.o]⟩,(by have:=q.o;subst this;exact Below.new2 _ _ _)⟩
 .
  have Q:¬((20:Int)<(b.length:Int)):=by omega
  go_wp2_with fail;simp only[F.o,q.o,ei];clear x1 x2 J y1 K L;go_loopw [21] (fun R wr=>∃k:Nat,k<=b.length/\R=.int .i64 k/\(∀(i:Nat) (x:L3),i<k->b[i]?=some x->IsJ m x.j)/\Bl V wr) (fun R _=>b.length - (intOf R).toNat)
  case atStart=>exact⟨0,by omega,rfl,fun i x hi=>by omega,Below.refl _ _⟩
  case round=>
   obtain⟨k,hk,rfl,s,M⟩:=hrel;obtain⟨S,N,HX,a⟩:=Ic s M (t.o.below M t.o.lt) (g.o.below M g.o.lt);clear s M;by_cases T:k<b.length
   .
    obtain⟨l,hl⟩:∃l,b[k]?=some l:=⟨b[k],gE T⟩;obtain⟨lb,lo,rfl,ab,d0,d1,d2⟩:=(HL.o.below (d.o.trans (N.o.mono d.o.size))).load hl;obtain⟨x0,-⟩:=zc HX.o;have q1:((k:Int)<(b.length:Int)):=by omega
    have H:=Hi hl;have wE:IntKind.i64.wrap ((y:Int)+(k:Int))=(y:Int)+(k:Int):=wrap_i64 _ (by omega) (by omega);clear hl;by_cases C:IsJ m l.j
    .
     obtain⟨U,z⟩:=Ia (fun u=>Qbc A m c1 l.j u C) C;clear C;go_wp2_with fail;go_region_held3 (fun v=>v.cell? ⟨n,0,none⟩=some (.slice A m c1)/\v.cell? ⟨lb,lo+k*3,none⟩=some (.int .i64 l.j)) ((first|(simp [*];done)|go_keep)) (first
      |(
       go_at_call 99;apply cM;apply U.o
       rintro e v1 ⟨rfl,rfl⟩)
      |fail)
     go_wp2;go_roundw
     case rel=>
      refine⟨k+1,by omega,by go_num,fun i x hi I=>?_,N.o.drew⟩;rcases Nat.lt_or_ge i k with h|h
      . exact S.o i x h I
      .
       obtain rfl:i=k:=by omega
       rw[<-Option.some.inj (H.o.symm.trans I)];exact z.o
     case measure=>simp[intOf];omega
    .
     obtain⟨U,z⟩:=Ia (fun u=>Qeo A m c1 l.j u C) C;obtain⟨J,y1,-⟩:=zc a.o;have K:=a.o.free 0;have L:=a.o.free 1;clear C;go_wp2_with fail;go_region_held3 (fun v=>v.cell? ⟨n,0,none⟩=some (.slice A m c1)/\v.cell? ⟨lb,lo+k*3,none⟩=some (.int .i64 l.j)) ((first|(simp [*];done)|go_keep)) (first
      |(
       go_at_call 99;apply cM;apply U.o
       rintro e v1 ⟨rfl,rfl⟩)
      |fail)
     go_wp2;refine bodyPost_ret (results_cell_row rfl _ _ (n+1) 31 #[.int .i64 (4),.int .i64 ((y:Int)+(k:Int))] (0,0) _ rfl ((a.o.set 0 _).set 1 _) underlying31 rfl Tryz.faultInfo) rfl ?_;exact⟨4,_,rfl,.inr ⟨by omega,.inl ⟨k,l,H.o,S.o,z.o,rfl,by rw[G.o]⟩⟩,(((d.o.trans (N.o.mono d.o.size)).setCell (p:=⟨n+1,0,none⟩) r _).setCell (p:=⟨n+1,1,none⟩) r _).drew⟩
   .
    obtain rfl:k=b.length:=by omega
    obtain⟨J,y1,-⟩:=zc a.o;have K:=a.o.free 0;have L:=a.o.free 1;go_wp2;refine bodyPost_ret (results_cell_row rfl _ _ (n+1) 31 #[.int .i64 (0),.int .i64 (0)] (0,0) _ rfl ((a.o.set 0 _).set 1 _) underlying31 rfl Tryz.faultInfo) rfl ?_;exact⟨0,0,rfl,.inr ⟨by omega,.inr ⟨fun i x I=>S.o i x (gZ I).1 I,rfl,rfl⟩⟩,((d.o.trans (N.o.mono d.o.size)).setCell (p:=⟨n+1,0,none⟩) r _).setCell (p:=⟨n+1,1,none⟩) r _⟩
end Go.Proofs.YtppkmifkpjkgpaaGreatDoor
