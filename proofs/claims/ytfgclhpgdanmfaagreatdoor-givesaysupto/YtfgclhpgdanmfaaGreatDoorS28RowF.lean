import Derived.Test.YtfgclhpgdanmfaaGreatDoorS27BalB
namespace Go.Proofs.YtfgclhpgdanmfaaGreatDoor
set_option linter.defProp false
open Go.RowKit
open Go.Proofs.Tryz
set_option linter.unusedSimpArgs false
set_option linter.unusedVariables false
set_option maxHeartbeats 8000000
set_option maxRecDepth 1000000
variable{a:Aa}{k:Nat}{w:Vz}{l:Vt}{H:Type}
def Dj:il (⟨#[49]⟩:ByteArray).data.toList 1:=by
 have a:Lib.trimPrefix [49] [45]= [49]:=dD;have b:Lib.cut [49] [47]=([49],[],false):=dD;refine⟨1,.inl ⟨⟨⟨by rw[a,b];simp,?_⟩,?_⟩,?_⟩,?_⟩
 . rw[a,b];intro d c;simp at c;subst c;decide
 . rw[a,b];intro h;cases h
 . rw[a,b]
   decide
 . have e:Lib.hasPrefix [49] [45]=false:=dD;rw[e];rfl
def Fits.one:Fits 1 1:=⟨dD,dD⟩
def mN(p:Al)(r:Nat):Rat:=if r=2*p.1 then p.2.2.1 else if r=2*p.2.1 then -p.2.2.1 else if r=2*p.1+1 then p.2.2.2 else if r=2*p.2.1+1 then -p.2.2.2 else 0
def dP(vb:Aa)(nb:Nat)(vh:Vy)(r c:Nat):Rat:=match vb[c]? with
 |some p=>mN p r
 |none=>match vh[c - nb]? with
  |some h=>if nb<=c/\r=h then 1 else 0
  |none=>0
structure wL (n:Nat) (js:Ad) (b:B6) (p:Al):Prop where
 a:b.a=(p.1:Nat)
 b:b.b=(p.2.1:Nat)
 ne:p.1≠p.2.1
 ex:∃(s t:S2)(x1 y1 x2 y2:Rat),js[p.1]?=some s/\js[p.2.1]?=some t/\s.x.size<=n/\s.y.size<=n/\t.x.size<=n/\t.y.size<=n/\il s.x.data.toList x1/\il s.y.data.toList y1/\il t.x.data.toList x2/\il t.y.data.toList y2/\p.2.2.1=x2 - x1/\p.2.2.2=y2 - y1
structure uP (nj:Nat) (h:H3) (r:Nat):Prop where
 ex:∃j:Nat,h.j=(j:Nat)/\j<nj/\r=if h.w=1 then 2*j else 2*j+1
def YI{nb:Nat}{p:Al}(d:a[k]?=some p)(f:p.1≠p.2.1):
 ∀r c,qC (qC (qC (qC (dP (a.take k) nb []) (2*p.1) k p.2.2.1) (2*p.2.1) k (-p.2.2.1)) (2*p.1+1) k p.2.2.2) (2*p.2.1+1) k (-p.2.2.2) r c=dP (a.take (k+1)) nb [] r c:=by
 intro r c;have hk:=(gZ d).1;by_cases e:c=k
 .
  subst e;have b:(a.take (c+1))[c]?=some p:=by rw[aW oO];exact d
  have g:(a.take c)[c]?=none:=aO tO;simp only[dP,b,g,qC,mN,jE,List.getElem?_nil]
  repeat' split
  all_goals first|rfl|(exfalso;omega)
 .
  have b:(a.take (k+1))[c]?=(a.take k)[c]?:=by
   rcases bB c k with h|h
   . rw[aW oO,aW h]
   . rw[aO tO,aO tO]
  simp only[dP,b,qC,e,and_false,EB]
def YH{vh:Vy}{nb h:Nat}(hl:a.length=nb)(g:vh[k]?=some h):∀r c,qC (dP a nb (vh.take k)) h (nb+k) 1 r c=dP a nb (vh.take (k+1)) r c:=by
 intro r c;have hk:=(gZ g).1;rcases bB c nb with i|i
 . obtain⟨p,e⟩:∃p,a[c]?=some p:=⟨a[c]' oO,gE oO⟩;simp only[dP,e,qC];rw[aH oO]
 .
  have j:a[c]?=none:=aO oO;by_cases b:c=nb+k
  .
   subst b;have f:(vh.take (k+1))[nb+k - nb]?=some h:=by rw[fI,aW oO];exact g
   have l:(vh.take k)[nb+k - nb]?=none:=aO tO;simp only[dP,j,f,l,qC,jE];by_cases d:r=h
   . rw[aN d,aN ⟨i,d⟩]
   . rw[aH d,aH (fun x=>d x.2)]
  .
   have f:(vh.take (k+1))[c - nb]?=(vh.take k)[c - nb]?:=by
    rcases bB (c - nb) k with h|h
    . rw[aW oO,aW h]
    . rw[aO tO,aO tO]
   simp only[dP,j,f,qC,b,and_false,EB]
def Qb(a1 a2 a3:Vx)(c1 c2 c3 n K:Nat)(js:Ad)(z:Ap)(S:Ak)(vb:Aa)(vh:Vy)(w:Vz)(hg:jq w)(hf:ja w a1 a2 a3 c1 c2 c3 js z S)(hj:js.length<=10)(hb:z.length<=24)(hh:S.length<=20)(cu:vb.length=z.length)(cv:vh.length=S.length)(cw:∀(i:Nat)(b:B6)(p:Al),z[i]?=some b->vb[i]?=some p->wL n js b p)(cz:∀(i:Nat)(h:H3)(r:Nat),S[i]?=some h->vh[i]?=some r->uP js.length h r)(hn:n<=1048576)(hK:4*n+1+(4*n+1)+1<=K):
 Calls prog 96 #[.agg #[.slice a1 js.length c1,.slice a2 z.length c2,.slice a3 S.length c3]] w fun e w'=>∃(N W G:Nat)(T:Vy),N=2*js.length/\W=z.length+S.length/\e=.returned (.slice (some ⟨G,0,none⟩) N N)/\T.length=N/\BM w w' #[.slice a1 js.length c1,.slice a2 z.length c2,.slice a3 S.length c3] G W K T (dP vb z.length vh):=by
 obtain⟨HG,HF,av,b1,ef,eg⟩:=Ie hg hf cu cv cw cz;obtain⟨N,hN⟩:=nm (2*js.length);obtain⟨W,hW⟩:=nm (z.length+S.length);have c0:2*(js.length:Int)=(N:Int):=oO;have c4:(z.length:Int)+(S.length:Int)=(W:Int):=oO;obtain⟨b2,b3⟩:=Ia (fun u=>Fv a1 a2 a3 c1 c2 c3 js.length z.length S.length u hj) (fun u=>Ng a1 a2 a3 c1 c2 c3 js.length z.length S.length u hb hh);simp only[c0]at b2;simp only[c4]at b3;obtain⟨c5,HN,HW⟩:=Ib (fun u=>IT N W u oO oO) hN hW;clear hg hf cu cv cw cz c0 c4 hN hW;obtain⟨F,hF⟩:∃F:Vw,#[.slice a1 js.length c1,.slice a2 z.length c2,.slice a3 S.length c3]=F:=⟨_,rfl⟩;obtain⟨V,hV⟩:=nm (w.alloc (.cells #[.slice a1 js.length c1,.slice a2 z.length c2,.slice a3 S.length c3] 26));obtain⟨B0,b4⟩:=nm w.heap.size;have bq:=Ua hV;have d:=Uf hV b4;obtain⟨HV,aj,aw⟩:=Ib hV b4 hF;clear hV b4 hF;go_enter func96,ntmps96;go_wp2_with fail;rw[HV.o,aj.o];clear HV;obtain⟨x0,x1,x2⟩:=lQ d.o;have af:=d;have J:O (Bl V V):=Hi bR;go_region_held3 (fun v=>v.cell? ⟨B0,0,none⟩=some (.slice a1 js.length c1)/\v.cell? ⟨B0,1,none⟩=some (.slice a2 z.length c2)/\v.cell? ⟨B0,2,none⟩=some (.slice a3 S.length c3)) ((first|(simp [*];done)|go_keep)) (first
  |(
   go_at_call 87;apply cM;apply b2.o;rintro e v1 ⟨rfl,L⟩;have f:=Hi ((by first|exact J.o|exact J.o.drew:Bl V _).trans (L.mono (by first|exact J.o.size|exact J.o.drew.size)));clear L J x0 x1 x2 d;have d:=Hi (af.o.below f.o af.o.lt);obtain⟨x0,x1,x2⟩:=lQ d.o
   skip)
  |(
   go_at_call 52;apply cM;apply b3.o;rintro e v2 ⟨rfl,L⟩;have x:=Hi ((by first|exact f.o|exact f.o.drew:Bl V _).trans (L.mono (by first|exact f.o.size|exact f.o.drew.size)));clear L f x0 x1 x2 d;have d:=Hi (af.o.below x.o af.o.lt);obtain⟨x0,x1,x2⟩:=lQ d.o
   skip)
  |(
   go_at_call 146;apply cM;apply c5.o;rintro e v3 ⟨⟨G,T,rfl,c6,c7,br,bt,c8⟩,L⟩;have az:=Hi ((by first|exact x.o|exact x.o.drew:Bl V _).trans (L.mono (by first|exact x.o.size|exact x.o.drew.size)));have eh:=aE x.o.size c7;obtain⟨bu,am,c9,M⟩:=Ic br bt c8 c6;clear L x x0 x1 x2 d br bt c8 c6 c7;have d:=Hi (af.o.below az.o af.o.lt);obtain⟨x0,x1,x2⟩:=lQ d.o
   skip)
  |fail)
 have da:O (BM w v3 F G W K T (dP (vb.take 0) z.length [])):=Hi (by
  have et:V.heap.size=w.heap.size+1∨w.heap.size<V.heap.size:=.inr (by rw[aj.o];exact af.o.lt);have bh:w.heap.size<V.heap.size:=oO;refine⟨⟨bq.o.trans (az.o.mono bq.o.size),bu.o,fun r g hr=>⟨_,(am.o r g hr).1,sS,fun c t ht=>?_⟩,c9.o,fun r g hr=>by have:=(am.o r g hr).2;omega,oO,fun r g hr=>by have:=(am.o r g hr).2;omega⟩,by rw[<-aw.o,aj.o];exact d.o⟩;obtain⟨_,rfl⟩:=fM.1 (mO ht)
  exact⟨by simp[dP,FE.zero],by simp[FE.zero];omega⟩)
 clear d bu am c9 af az b2 b3 c5 eh;go_wp2_with fail;go_loopw [18] (fun iv wr=>∃k:Nat,k<=z.length/\iv=.int .i64 k/\BM w wr F G W K T (dP (vb.take k) z.length [])) (fun iv _=>z.length - (intOf iv).toNat)
 case atStart=>exact⟨0,oO,rfl,da.o⟩
 case round=>
  obtain⟨k,hk,rfl,a0⟩:=hrel;have U:=Hi a0;clear a0 x0 x1 x2;by_cases bh:k<z.length
  .
   obtain⟨b,bi⟩:∃b,z[k]?=some b:=⟨z[k],gE bh⟩;obtain⟨p,b5⟩:∃p,vb[k]?=some p:=⟨vb[k]'(oB av.o),gE (oB av.o)⟩;have ad:=ef.o k b p bi b5;obtain⟨bb,bo,rfl,eu,d0,d1,d2,d3,d4,d5⟩:=(HF.o.b.below U.o.base).bar bi;obtain⟨db,ei,ev⟩:=Ib ad b5 bi;have q1:((k:Int)<(z.length:Int)):=oO;obtain⟨s,t,xs,ys,xt,yt,b6,b7,z1,z2,z3,z4,o1,o2,o3,o4,ex,ey⟩:=ad.ex;rw[ad.a]at d0;rw[ad.b]at d1;obtain⟨X1,X⟩:=nm (wr.alloc (.cells #[.int .i64 (p.1:Nat),.int .i64 (p.2.1:Nat),.string b.c,.string b.e,.string b.l,.string b.m] 72));obtain⟨g0,ag⟩:=nm wr.heap.size;have a4:Bl wr X1:=by rw[<-X];exact(ac _ _).alloc lZ _
   have dc:SB X1 g0 72 #[.int .i64 (p.1:Nat),.int .i64 (p.2.1:Nat),.string b.c,.string b.e,.string b.l,.string b.m]:=by rw[<-X,<-ag];exact cK wr _ _
   have aa:=Hi (U.o.below a4);have an:=Qc a1 (some ⟨bb,bo,none⟩) a3 c1 c2 c3 z.length S.length p.1 p.2.1 n js b s t X1 (HG.o.below aa.o.base) (HF.o.j.below aa.o.base) ad.a ad.b b6 b7 hj z1 z2 z3 z4 oO o1 o2 o3 o4;rw[ad.a,ad.b,<-ex,<-ey]at an;obtain⟨an,y⟩:=Ia an dc;have ew:=(gZ b6).1;have ez:=(gZ b7).1;obtain⟨bj,b8⟩:=Ia ag X;clear bi b5 ad b6 b7 z1 z2 z3 z4 o1 o2 o3 o4 ex ey a4 dc ag;have d:=Hi aa.o.box;rw[aj.o,<-aw.o]at d;obtain⟨x0,x1,x2⟩:=lQ d.o;rw[<-X]at x0 x1 x2;clear X;go_wp2_with fail;rw[b8.o,bj.o];go_fit an.o;rintro e w2 ⟨e6,e7,e8,e9,fa,fb,rfl,H⟩;obtain⟨nx,ax,lx,cx,mx,ox,px,rfl,rfl,rfl⟩:=IV (H.get (cU _ (bM _))).1;obtain⟨ny,ay,ly,cy,my,oy,py,rfl,rfl,rfl⟩:=IV (H.get (bM _)).1;obtain⟨dd,de,_⟩:=H.get (cU _ (bM _));obtain⟨df,dg,_⟩:=H.get (bM _);obtain⟨gx,bk⟩:=nm w2.heap.size;obtain⟨Y,hY⟩:=nm ((w2.alloc (.cells #[.bool nx,.slice ax lx cx,.slice mx ox px] 99)).alloc (.cells #[.bool ny,.slice ay ly cy,.slice my oy py] 99));have ao:Bl w2 Y:=by rw[<-hY];exact(bR.alloc lZ _).alloc sS _
   have A:=Ug hY bk;have a5:O (SB Y (gx+1) 99 #[.bool ny,.slice ay ly cy,.slice my oy py]):=Hi (by rw[<-hY,<-bk];exact ww w2 _ _ _);have a6:=H.base.trans (ao.mono H.base.size);obtain⟨b9,D,bl,dh⟩:=Ic (aa.o.below a6) (y.o.below a6 y.o.lt) (dd.below ao) (df.below ao);have ar:0<K:=oO;obtain⟨bv,bw⟩:=Ia (de.mono hK) (dg.mono hK);obtain⟨di,dj⟩:=Ia bv.o.neg bw.o.neg;have ah:k<W:=oB HW.o;obtain⟨RA,dk⟩:=nm (2*p.1);obtain⟨RB,dl⟩:=nm (2*p.2.1);obtain⟨RC,dm⟩:=nm (2*p.1+1);obtain⟨RD,dn⟩:=nm (2*p.2.1+1);have ej:=HN.o;have dp:=db.o.ne;obtain⟨gA,a7⟩:∃g,T[RA]?=some g:=⟨T[RA]'(oB M.o),gE (oB M.o)⟩;obtain⟨gB,a8⟩:∃g,T[RB]?=some g:=⟨T[RB]'(oB M.o),gE (oB M.o)⟩;obtain⟨gC,a9⟩:∃g,T[RC]?=some g:=⟨T[RC]'(oB M.o),gE (oB M.o)⟩;obtain⟨gD,ba⟩:∃g,T[RD]?=some g:=⟨T[RD]'(oB M.o),gE (oB M.o)⟩;have lA:=U.o.lt a7;have lB:=U.o.lt a8;have lC:=U.o.lt a9;have lD:=U.o.lt ba;rw[bj.o]at lA lB lC lD;have dr:g0<gx:=by have h1:=H.base.size;have h2:=y.o.lt;omega
   have fc:=U.o.ne RA gA a7;have fd:=U.o.ne RB gB a8;have fe:=U.o.ne RC gC a9;have ff:=U.o.ne RD gD ba;have fg:gA≠gB:=fun h=>by have:=U.o.nd RA RB gA a7 (by rw[h];exact a8);omega
   have fh:gC≠gD:=fun h=>by have:=U.o.nd RC RD gC a9 (by rw[h];exact ba);omega
   have iA:((RA:Int)<(N:Int)):=oO;have iB:((RB:Int)<(N:Int)):=oO;have iC:((RC:Int)<(N:Int)):=oO;have iD:((RD:Int)<(N:Int)):=oO;have fi:((k:Int)<(W:Int)):=oO;have eA:2*(p.1:Int)=(RA:Int):=oO;have eB:2*(p.2.1:Int)=(RB:Int):=oO;have eC:2*(p.1:Int)+1=(RC:Int):=oO;have eD:2*(p.2.1:Int)+1=(RD:Int):=oO;obtain⟨ds,dt,du,dv⟩:=Ic (fun u=>Fu p.1 u oO) (fun u=>Fu p.2.1 u oO) (fun u=>Ft p.1 u oO) (fun u=>Ft p.2.1 u oO);simp only[eA]at ds;simp only[eB]at dt;simp only[eC]at du;simp only[eD]at dv;have m1:gA≠g0:=oO;have m2:gB≠g0:=oO;have m3:gA≠gx:=oO;have m4:gB≠gx:=oO;have m5:gC≠g0:=oO;have m6:gD≠g0:=oO;have m7:gC≠gx+1:=oO;have m8:gD≠gx+1:=oO;have m9:gA≠gx+1:=oO;have ek:gB≠gx+1:=oO;obtain⟨au,bc,bd,bm,dw,HY,em⟩:=If a7 a8 a9 ba (⟨dk,dl,dm,dn⟩:2*p.1=RA/\2*p.2.1=RB/\2*p.1+1=RC/\2*p.2.1+1=RD) hY bk;clear H dd df de dg ao a6 a7 a8 a9 ba lA lB lC lD dk dl dm dn eA eB eC eD hY bk dr ej dp;clear x0 x1 x2 d0 d1 d2 d3 d4 d5;go_wp2_with fail;rw[HY.o,em.o];have s0:=D.o.cell 0;have s1:=D.o.cell 1;have s2:=b9.o.cell au.o;have s3:=b9.o.cell bc.o;have s4:=A.o.cell 0;have s5:=A.o.cell 1;have s6:=A.o.cell 2;simp at s0 s1 s4 s5 s6;have bx:=Hi (GQ bl.o);go_region_held3 (fun v=>v.cell? ⟨g0,0,none⟩=some (.int .i64 (p.1:Nat))/\v.cell? ⟨g0,1,none⟩=some (.int .i64 (p.2.1:Nat))/\v.cell? ⟨G,RA,none⟩=some (.slice (some ⟨gA,0,none⟩) W W)/\v.cell? ⟨G,RB,none⟩=some (.slice (some ⟨gB,0,none⟩) W W)/\v.cell? ⟨gx,0,none⟩=some (.bool nx)/\v.cell? ⟨gx,1,none⟩=some (.slice ax lx cx)/\v.cell? ⟨gx,2,none⟩=some (.slice mx ox px)) ((first|(simp [*];done)|go_keep)) (first
    |(
     go_at_call 88;apply cM;(first|apply ds.o|apply dt.o)
     rintro e vz ⟨rfl,rfl⟩)
    |(
     go_at_call 98;apply cM;(first|exact bx.o|exact GQ (bl.o.below bR.drew));rintro e v6 ⟨⟨vn,rfl,E⟩,ab⟩;obtain⟨ca,cb,cc,cd,ce,cf,cg,rfl,E⟩:=E;(first
       |have I:O (Bl Y v6):=Hi ab
       |have I:O (Bl Y v6):=Hi (bR.drew.trans ab))
     have dx:O (eF v6 (.agg #[.bool ca,.slice cb cc cd,.slice ce cf cg]) (-p.2.2.1)):=Hi ⟨ca,cb,cc,cd,ce,cf,cg,rfl,E⟩;clear E ab s0 s1 s2 s3 s4 s5 s6;have ai:=Hi (b9.o.below I.o);have s0:=(D.o.below I.o D.o.lt).cell 0;have s1:=(D.o.below I.o D.o.lt).cell 1;have s2:=ai.o.cell au.o;have s3:=ai.o.cell bc.o;have s4:=(A.o.below I.o A.o.lt).cell 0;have s5:=(A.o.below I.o A.o.lt).cell 1;have s6:=(A.o.below I.o A.o.lt).cell 2;simp at s0 s1 s4 s5 s6;obtain⟨e0,e1,e2,f0,f1,f2,f3,f4,f5⟩:=ai.o.at au.o ah;obtain⟨e3,e4,e5,k0,k1,k2,k3,k4,k5⟩:=ai.o.at bc.o ah
     skip)
    |fail)
   obtain⟨Z,hZ⟩:=nm (rC (rC v6 gA k (.bool nx) (.slice ax lx cx) (.slice mx ox px)) gB k (.bool ca) (.slice cb cc cd) (.slice ce cf cg));have be:=ai.o.put au.o ah (bl.o.below I.o) bv.o ar;have bn:O (BM w Z F G W K T _):=Hi (by
    rw[<-hZ]
    exact be.put bc.o ah (ai.o.xN au.o dx.o) di.o ar)
   have ap:O (eF Z (.agg #[.bool ny,.slice ay ly cy,.slice my oy py]) p.2.2.2):=Hi (by
    rw[<-hZ]
    exact be.xN bc.o (ai.o.xN au.o (dh.o.below I.o)))
   have P:O (SB Z g0 72 #[.int .i64 (p.1:Nat),.int .i64 (p.2.1:Nat),.string b.c,.string b.e,.string b.l,.string b.m]):=Hi (by
    rw[<-hZ]
    exact xW (xW (D.o.below I.o D.o.lt) (fun h=>m1 h.symm)) (fun h=>m2 h.symm))
   have B:O (SB Z (gx+1) 99 #[.bool ny,.slice ay ly cy,.slice my oy py]):=Hi (by
    rw[<-hZ]
    exact xW (xW (a5.o.below I.o a5.o.lt) (fun h=>m9 h.symm)) (fun h=>ek h.symm))
   have ch:=hZ;unfold rC at ch;rw[ch];clear ch hZ be s0 s1 s2 s3 s4 s5 s6 f0 f1 f2 f3 f4 f5 k0 k1 k2 k3 k4 k5 ai dx I dh D a5 A bl bx;have s0:=P.o.cell 0;have s1:=P.o.cell 1;have s2:=bn.o.cell bd.o;have s3:=bn.o.cell bm.o;have s4:=B.o.cell 0;have s5:=B.o.cell 1;have s6:=B.o.cell 2;simp at s0 s1 s4 s5 s6;have bz:=Hi (GQ ap.o);go_wp2_with fail;go_region_held3 (fun v=>v.cell? ⟨g0,0,none⟩=some (.int .i64 (p.1:Nat))/\v.cell? ⟨g0,1,none⟩=some (.int .i64 (p.2.1:Nat))/\v.cell? ⟨G,RC,none⟩=some (.slice (some ⟨gC,0,none⟩) W W)/\v.cell? ⟨G,RD,none⟩=some (.slice (some ⟨gD,0,none⟩) W W)/\v.cell? ⟨gx+1,0,none⟩=some (.bool ny)/\v.cell? ⟨gx+1,1,none⟩=some (.slice ay ly cy)/\v.cell? ⟨gx+1,2,none⟩=some (.slice my oy py)) ((first|(simp [*];done)|go_keep)) (first
    |(
     go_at_call 89;apply cM;(first|apply du.o|apply dv.o)
     rintro e vz ⟨rfl,rfl⟩)
    |(
     go_at_call 98;apply cM;(first|exact bz.o|exact GQ (ap.o.below bR.drew));rintro e v7 ⟨⟨vn,rfl,E⟩,ab⟩;obtain⟨ci,cj,ck,cl,cm,cn,cp,rfl,E⟩:=E;(first
       |have ae:O (Bl Z v7):=Hi ab
       |have ae:O (Bl Z v7):=Hi (bR.drew.trans ab))
     have dy:O (eF v7 (.agg #[.bool ci,.slice cj ck cl,.slice cm cn cp]) (-p.2.2.2)):=Hi ⟨ci,cj,ck,cl,cm,cn,cp,rfl,E⟩;clear E ab s0 s1 s2 s3 s4 s5 s6;have ak:=Hi (bn.o.below ae.o);have s0:=(P.o.below ae.o P.o.lt).cell 0;have s1:=(P.o.below ae.o P.o.lt).cell 1;have s2:=ak.o.cell bd.o;have s3:=ak.o.cell bm.o;have s4:=(B.o.below ae.o B.o.lt).cell 0;have s5:=(B.o.below ae.o B.o.lt).cell 1;have s6:=(B.o.below ae.o B.o.lt).cell 2;simp at s0 s1 s4 s5 s6;obtain⟨e0,e1,e2,f0,f1,f2,f3,f4,f5⟩:=ak.o.at bd.o ah;obtain⟨e3,e4,e5,k0,k1,k2,k3,k4,k5⟩:=ak.o.at bm.o ah
     skip)
    |fail)
   obtain⟨Q,hQ⟩:∃Z,rC (rC v7 gC k (.bool ny) (.slice ay ly cy) (.slice my oy py)) gD k (.bool ci) (.slice cj ck cl) (.slice cm cn cp)=Z:=⟨_,rfl⟩;have b0:=ak.o.put bd.o ah (ap.o.below ae.o) bw.o ar;have dz:O (BM w Q F G W K T _):=Hi (by
    rw[<-hQ]
    exact b0.put bm.o ah (ak.o.xN bd.o dy.o) dj.o ar)
   have al:=hQ;unfold rC at al;rw[al];have cq:O (BM w Q F G W K T (dP (vb.take (k+1)) z.length [])):=Hi (dz.o.congr (fun r c=>by
    have h:=YI (nb:=z.length) ei.o db.o.ne r c;obtain⟨h1,h2,h3,h4⟩:=dw.o;rw[h3,h4,h1,h2]at h
    exact h))
   clear al hQ b0 s0 s1 s2 s3 s4 s5 s6 f0 f1 f2 f3 f4 f5 k0 k1 k2 k3 k4 k5 ak dy ae ap P B bz dz bn;go_wp2;go_roundw
   case rel=>exact⟨k+1,oO,by go_num,cq.o⟩
   case measure=>exact mI
  .
   obtain rfl:k=z.length:=oO;have ea:O (BM w wr F G W K T (dP vb z.length (vh.take 0))):=Hi (by
    have h:=U.o;rw[<-av.o,dB,av.o]at h
    exact h)
   have d:=Hi ea.o.box;rw[aj.o,<-aw.o]at d;obtain⟨x0,x1,x2⟩:=lQ d.o;clear U da d;go_wp2_with fail;go_loopw [71] (fun iv wr=>∃k:Nat,k<=S.length/\iv=.int .i64 k/\BM w wr F G W K T (dP vb z.length (vh.take k))) (fun iv _=>S.length - (intOf iv).toNat)
   case atStart=>exact⟨0,oO,rfl,ea.o⟩
   case round=>
    obtain⟨k,hk,rfl,a0⟩:=hrel;have U:=Hi a0;clear a0 x0 x1 x2;by_cases bh:k<S.length
    .
     obtain⟨h,cr⟩:∃h,S[k]?=some h:=⟨S[k],gE bh⟩;obtain⟨R,cs⟩:∃R,vh[k]?=some R:=⟨vh[k]'(oB b1.o),gE (oB b1.o)⟩;obtain⟨j,eb,en,ct⟩:=(eg.o k h R cr cs).ex;obtain⟨fj,fk,rfl,fl,d0,d1,d2⟩:=(HF.o.h.below U.o.base).sJ cr;rw[eb]at d0;obtain⟨X1,X⟩:=nm (wr.alloc (.cells #[.int .i64 (j:Nat),.int .i64 h.w,.string h.q] 74));obtain⟨g0,ag⟩:=nm wr.heap.size;have a4:Bl wr X1:=by rw[<-X];exact(ac _ _).alloc lZ _
     have y:=Uf X ag;have aa:=Hi (U.o.below a4);have eo:R<N:=by
      have:=HN.o
      split at ct<;>omega
     obtain⟨gR,bf⟩:∃g,T[R]?=some g:=⟨T[R]'(oB M.o),gE (oB M.o)⟩;have lR:=U.o.lt bf;rw[ag]at lR;have m1:gR≠g0:=oO;have m2:=U.o.ne R gR bf;have m3:gR≠B0:=by have:=U.o.los R gR bf;have:=aj.o;omega
     obtain⟨bg,ep⟩:=Ia bf cs;have eR:(if h.w=1 then 2*(j:Int) else 2*(j:Int)+1)=(R:Int):=by
      rw[ct]
      split<;>simp
     have ec:=Hi (fun u=>Iy j h.w h.q u oO);simp only[eR]at ec;have eq:=Hi (fun u (hu:Bl X1 u)=>of_val (q:=1) (s:=⟨#[49]⟩) ((HG.o.below aa.o.base).below hu) Dj dD);obtain⟨C,hC⟩:=nm (z.length+k);have ed:C<W:=oB HW.o;have wC:IntKind.i64.wrap ((z.length:Int)+(k:Int))=(C:Int):=by rw[wrap_i64 _ oO oO];omega
     have q1:((k:Int)<(S.length:Int)):=oO;have iR:((R:Int)<(N:Int)):=oO;have iC:((C:Int)<(W:Int)):=oO;have ar:0<K:=oO;obtain⟨er,b8,bj⟩:=Ib hC X ag;clear cr cs eb en ct X ag a4 bf lR eR hC eo;go_wp2_with fail;rw[b8.o,bj.o];have d:=Hi aa.o.box;rw[aj.o,<-aw.o]at d;have s0:=y.o.cell 0;have s1:=y.o.cell 1;have s2:=y.o.cell 2;have s3:=aa.o.cell bg.o;have s4:=d.o.cell 1;simp at s0 s1 s2 s4;have J:O (Bl X1 X1):=Hi bR;go_region_held3 (fun v=>v.cell? ⟨g0,0,none⟩=some (.int .i64 (j:Nat))/\v.cell? ⟨g0,1,none⟩=some (.int .i64 h.w)/\v.cell? ⟨g0,2,none⟩=some (.string h.q)/\v.cell? ⟨G,R,none⟩=some (.slice (some ⟨gR,0,none⟩) W W)/\v.cell? ⟨B0,1,none⟩=some (.slice a2 z.length c2)) ((first|(simp [*];done)|go_keep)) (first
      |(
       go_at_call 46;apply cM;apply ec.o;rintro e v1 ⟨rfl,L⟩;have f:=Hi ((by first|exact J.o|exact J.o.drew:Bl X1 _).trans (L.mono (by first|exact J.o.size|exact J.o.drew.size)));clear L J s0 s1 s2 s3 s4;have s0:=(y.o.below f.o y.o.lt).cell 0;have s1:=(y.o.below f.o y.o.lt).cell 1;have s2:=(y.o.below f.o y.o.lt).cell 2;have s3:=(aa.o.below f.o).cell bg.o;have s4:=(d.o.below f.o d.o.lt).cell 1;simp at s0 s1 s2 s4
       skip)
      |(
       go_at_call 53;apply cM;apply eq.o;(first|exact f.o|exact f.o.drew);rintro e v2 ⟨⟨vn,rfl,E⟩,ab⟩;obtain⟨nq,aq,lq,dq,mq,oq,pq,rfl,E⟩:=E;have x:=Hi ((by first|exact f.o|exact f.o.drew:Bl X1 _).trans (ab.mono (by first|exact f.o.size|exact f.o.drew.size)));have ee:O (eF v2 (.agg #[.bool nq,.slice aq lq dq,.slice mq oq pq]) 1):=Hi ⟨nq,aq,lq,dq,mq,oq,pq,rfl,E⟩;clear E ab s0 s1 s2 s3 s4;have bp:=Hi (aa.o.below x.o);have s0:=(y.o.below x.o y.o.lt).cell 0;have s1:=(y.o.below x.o y.o.lt).cell 1;have s2:=(y.o.below x.o y.o.lt).cell 2;have s3:=bp.o.cell bg.o;have s4:=(d.o.below x.o d.o.lt).cell 1;simp at s0 s1 s2 s4;obtain⟨e0,e1,e2,f0,f1,f2,f3,f4,f5⟩:=bp.o.at bg.o ed
       skip)
      |fail)
     obtain⟨Q,hQ⟩:=nm (rC v2 gR C (.bool nq) (.slice aq lq dq) (.slice mq oq pq));have cq:O (BM w Q F G W K T (dP vb z.length (vh.take (k+1)))):=Hi (by
      rw[<-hQ];refine(bp.o.put bg.o ed ee.o (Fits.one.mono oO) ar).congr (fun r c=>?_);have h:=YH av.o ep.o r c;rw[er.o]at h
      exact h)
     have al:=hQ;unfold rC at al;rw[al];clear al hQ s0 s1 s2 s3 s4 f0 f1 f2 f3 f4 f5 bp ee x d;go_wp2;go_roundw
     case rel=>exact⟨k+1,oO,by go_num,cq.o⟩
     case measure=>exact mI
    . obtain rfl:k=S.length:=oO;have es:=Hi (by
       have h:=U.o;rw[<-b1.o,dB]at h
       exact h)
      clear U;go_wp2;go_ret;exact⟨N,W,G,T,HN.o.symm,HW.o.symm,rfl,M.o,by rw[aw.o];exact es.o⟩
def GM.rows{u:Vz}{B G W K:Nat}{d:Vy}{M:Ae}(h:GM w u B G W K d M)(H:∀r c,W<=c->M r c=0):
 ∃rs:AA,rs.length=d.length/\sD u (some ⟨G,0,none⟩) d.length W rs/\wB u W K rs/\(∀r,r∈ rs->∀t,t∈ r.ts->t.k<=K)/\rs.map MR.q=(List.range d.length).map M:=by
 have hex:∀r:Nat,∃m:MR,∀g,d[r]?=some g->m.a=some ⟨g,0,none⟩/\m.cap=W/\m.ts.length=W/\iQ u g m.ts/\∀(c:Nat)(t:FE),m.ts[c]?=some t->t.q=M r c/\t.k<=K:=fun r=>by
  rcases j:d[r]? with _|g
  . exact⟨MR.none,fun g I=>by cases I⟩
  . obtain⟨us,x,s,v⟩:=h.row r g j
    exact⟨⟨some ⟨g,0,none⟩,W,us⟩,fun N C=>by cases C;exact⟨rfl,rfl,s,x,v⟩⟩
 obtain⟨f,J⟩:=gQ hex;have n:∀r,r<d.length->∃g,d[r]?=some g/\(f r).a=some ⟨g,0,none⟩/\(f r).cap=W/\(f r).ts.length=W/\iQ u g (f r).ts/\∀(c:Nat)(t:FE),(f r).ts[c]?=some t->t.q=M r c/\t.k<=K:=fun r j=>⟨d[r],gE j,J r _ (gE j)⟩
 have y:∀m,m∈ (List.range d.length).map f->∃r,r<d.length/\f r=m:=fun m e=>by obtain⟨r,j,rfl⟩:=bZ.1 e;exact⟨r,dL.1 j,rfl⟩
 have l:(d.map (jR W)).toArray.toList=((List.range d.length).map f).flatMap MR.cells:=by
  rw[IA,kG];apply fK;intro i;simp only[aP,Function.comp];rcases bB i d.length with p|p
  . obtain⟨g,x,s,v,z,_⟩:=n i p;rw[x,gM p];simp[jR,MR.val,s,v,z]
  . rw[aO p,aO (sU p)]
    rfl
 have b:∀m,m∈ (List.range d.length).map f->lK u m.a m.cap m.ts/\m.ts.length=W/\∀t,t∈ m.ts->t.k<=K:=fun m e=>by
  obtain⟨r,j,rfl⟩:=y m e;obtain⟨g,x,s,v,z,E,D⟩:=n r j;refine⟨?_,z,fun t A=>?_⟩
  . rw[s,v,<-z]
    exact E.row
  . obtain⟨i,p,L⟩:=nV A
    exact(D i t (by rw[<-L];exact gE p)).2
 refine⟨(List.range d.length).map f,sS,⟨h.o.tL l sS,fun m e=>⟨(b m e).1,(b m e).2.1⟩⟩,fun m e=>⟨(b m e).1,(b m e).2.1,(b m e).2.2⟩,fun m e=>(b m e).2.2,?_⟩;rw[kG];apply mg;intro r j;obtain⟨g,x,s,v,z,E,D⟩:=n r (dL.1 j);funext c
 show (f r).q c=M r c
 rcases bB c W with F|F
 . obtain⟨t,A⟩:∃t,(f r).ts[c]?=some t:=⟨(f r).ts[c]' oO,gE oO⟩;rw[nQ A];exact(D c t A).1
 . rw[ob oO,H r c F]
def Qa(f g h:Vx)(c1 c2 c3:Nat)(a:Ad)(b:Ap)(d:Ak)(w:Vz)(k:jq w)(l:ja w f g h c1 c2 c3 a b d)(m:jL a b d)(i:dW a b d 0 0):
 Calls prog 40 #[.agg #[.slice f a.length c1,.slice g b.length c2,.slice h d.length c3]] w fun e w'=>e=.returned (.agg #[.int .i64 0,.int .i64 0])/\Below w.heap.size w w':=by
 refine(Hx f g h c1 c2 c3 a b d w k l m).mono ?_;rintro e w' ⟨c,n,rfl,j,hb⟩;obtain⟨rfl,rfl⟩:=j.inj i;exact⟨rfl,hb⟩
structure rZ (n:Nat) (js:Ad) (bs:Ap) (hs:Ak) (vb:Aa) (vh:Vy):Prop where
 j:js.length<=10
 b:bs.length<=24
 h:hs.length<=20
 lb:vb.length=bs.length
 lh:vh.length=hs.length
 vb:∀(i:Nat)(b:B6)(p:Al),bs[i]?=some b->vb[i]?=some p->wL n js b p
 vh:∀(i:Nat)(h:H3)(r:Nat),hs[i]?=some h->vh[i]?=some r->uP js.length h r
 n:n<=1048576
def jI(nj en:Nat)(ls:AE)(c at_:Int):Prop:=
 (20<ls.length/\c=2/\at_=(en:Nat))∨
 (ls.length<=20/\((∃(k:Nat)(l:L3),ls[k]?=some l/\(∀(i:Nat)(x:L3),i<k->ls[i]?=some x->qn nj x.j)/\¬qn nj l.j/\c=4/\at_=(en:Nat)+(k:Nat))∨
 ((∀(i:Nat)(x:L3),ls[i]?=some x->qn nj x.j)/\c=0/\at_=0)))
def P9(A U W X:Vx)(c1 c2 c3 Y m nb nh:Nat)(b:AE)(w:Vz)(hl:eO L3.cells w X Y b)(n1:m<=10)(n2:nb<=24)(n3:nh<=20)(aa:b.length<=9223372036854775807):
 Calls prog 41 #[.agg #[.slice A m c1,.slice U nb c2,.slice W nh c3],.slice X b.length Y] w fun e w'=>∃c D,e=.returned (.agg #[.int .i64 c,.int .i64 D])/\jI m (nb+nh) b c D/\Below w.heap.size w w':=by
 have HL:=Hi hl;clear hl;obtain⟨n,f⟩:=nm w.heap.size;obtain⟨V,B⟩:=nm ((w.alloc (.cells #[.slice A m c1,.slice U nb c2,.slice W nh c3] 26)).alloc (.cells #[.int .i64 0,.int .i64 0] 41));have d:=Ub B;have t:=Ug B f;have g:=Uh B f;obtain⟨y,E⟩:=nm (nb+nh);have Z:(nb:Int)+(nh:Int)=(y:Int):=oO;obtain⟨-,x1,x2,-⟩:=zc t.o;obtain⟨J,y1,-⟩:=zc g.o;have K:=g.o.free 0;have L:=g.o.free 1;rw[<-B,<-f]at x1 x2 J y1 K L;obtain⟨F,q,G⟩:=Ib B f E;have r:w.heap.size<=n+1:=oO;have N:y<=44:=oO;clear B f E;go_enter func41,ntmps41;by_cases O:20<b.length
 . have P:(20:Int)<(b.length:Int):=oO;go_wp2;simp only[F.o,q.o,Z];refine bK (bG rfl _ _ (n+1) 41 #[.int .i64 2,.int .i64 (y:Int)] (0,0) _ rfl (by rw[<-q.o];exact ww w _ _ _) underlying41 rfl iy) rfl ?_;exact⟨2,(y:Nat),rfl,.inl ⟨O,rfl,by rw[G.o]⟩,(by have:=q.o;subst this;exact lN _ _ _)⟩
 .
  have P:¬((20:Int)<(b.length:Int)):=oO;go_wp2_with fail;simp only[F.o,q.o,Z];clear x1 x2 J y1 K L;go_loopw [21] (fun Q wr=>∃k:Nat,k<=b.length/\Q=.int .i64 k/\(∀(i:Nat)(x:L3),i<k->b[i]?=some x->qn m x.j)/\Below V.heap.size V wr) (fun Q _=>b.length - (intOf Q).toNat)
  case atStart=>exact⟨0,oO,rfl,fun i x hi=>oO,ac _ _⟩
  case round=>
   obtain⟨k,hk,rfl,s,hb⟩:=hrel;obtain⟨R,M,HX,a⟩:=Ic s hb (t.o.below hb t.o.lt) (g.o.below hb g.o.lt);clear s hb;by_cases S:k<b.length
   .
    obtain⟨l,hl⟩:∃l,b[k]?=some l:=⟨b[k],gE S⟩;obtain⟨lb,lo,rfl,ab,d0,d1,d2⟩:=(HL.o.below (d.o.trans (M.o.mono d.o.size))).load hl;obtain⟨x0,-⟩:=zc HX.o;have q1:((k:Int)<(b.length:Int)):=oO;have H:=Hi hl;have wE:IntKind.i64.wrap ((y:Int)+(k:Int))=(y:Int)+(k:Int):=wrap_i64 _ oO oO;clear hl;by_cases C:qn m l.j
    .
     obtain⟨T,z⟩:=Ia (fun u=>GG A m c1 l.j u C) C;clear C;go_wp2_with fail;go_region_held3 (fun v=>v.cell? ⟨n,0,none⟩=some (.slice A m c1)/\v.cell? ⟨lb,lo+k*3,none⟩=some (.int .i64 l.j)) ((first|(simp [*];done)|go_keep)) (first
      |(
       go_at_call 86;apply cM;apply T.o
       rintro e v1 ⟨rfl,rfl⟩)
      |fail)
     go_wp2;go_roundw
     case rel=>
      refine⟨k+1,oO,by go_num,fun i x hi I=>?_,M.o.drew⟩;rcases bB i k with h|h
      . exact R.o i x h I
      . obtain rfl:i=k:=oO;rw[<-aD (H.o.symm.trans I)];exact z.o
     case measure=>exact mI
    .
     obtain⟨T,z⟩:=Ia (fun u=>Hy A m c1 l.j u C) C;obtain⟨J,y1,-⟩:=zc a.o;have K:=a.o.free 0;have L:=a.o.free 1;clear C;go_wp2_with fail;go_region_held3 (fun v=>v.cell? ⟨n,0,none⟩=some (.slice A m c1)/\v.cell? ⟨lb,lo+k*3,none⟩=some (.int .i64 l.j)) ((first|(simp [*];done)|go_keep)) (first
      |(
       go_at_call 86;apply cM;apply T.o
       rintro e v1 ⟨rfl,rfl⟩)
      |fail)
     go_wp2;refine bK (bG rfl _ _ (n+1) 41 #[.int .i64 (4),.int .i64 ((y:Int)+(k:Int))] (0,0) _ rfl ((a.o.set 0 _).set 1 _) underlying41 rfl iy) rfl ?_;exact⟨4,_,rfl,.inr ⟨oO,.inl ⟨k,l,H.o,R.o,z.o,rfl,by rw[G.o]⟩⟩,(((d.o.trans (M.o.mono d.o.size)).setCell (p:=⟨n+1,0,none⟩) r _).setCell (p:=⟨n+1,1,none⟩) r _).drew⟩
   . obtain rfl:k=b.length:=oO;obtain⟨J,y1,-⟩:=zc a.o;have K:=a.o.free 0;have L:=a.o.free 1;go_wp2;refine bK (bG rfl _ _ (n+1) 41 #[.int .i64 (0),.int .i64 (0)] (0,0) _ rfl ((a.o.set 0 _).set 1 _) underlying41 rfl iy) rfl ?_;exact⟨0,0,rfl,.inr ⟨oO,.inr ⟨fun i x I=>R.o i x (gZ I).1 I,rfl,rfl⟩⟩,((d.o.trans (M.o.mono d.o.size)).setCell (p:=⟨n+1,0,none⟩) r _).setCell (p:=⟨n+1,1,none⟩) r _⟩
def L5{P:Au}{q:Func}{p u:Tmp}{ty b:Vr}(h:q.results=#[.cell p ty,.cell u b])(a:Vw)(w:Vz)(g f:Nat)(t r:Vr)(i c:Vw)(fr e:Nat × Nat)(d j:TypeDesc)(s:a.getD p undef=.pointer (some ⟨g,0,none⟩))(v:w.heap[g]?=some (.cells i t fr))(k:a.getD u undef=.pointer (some ⟨f,0,none⟩))(l:w.heap[f]?=some (.cells c r e))(x:P.underlying ty=some d)(y:(match d with| .struct _| .array _ _=>true|_=>false)=true)(z:(P.info? ty).map (·.size)=some i.size)(m:P.underlying b=some j)(n:(match j with| .struct _| .array _ _=>true|_=>false)=true)(o:(P.info? b).map (·.size)=some c.size):
 (results q a).run P w=.ok (.tuple #[.agg i,.agg c]) w:=by
 have A:a[p]?.getD undef=.pointer (some ⟨g,0,none⟩):=sU s;have B:a[u]?.getD undef=.pointer (some ⟨f,0,none⟩):=sU k;simp[results,h,A,B,asAddr,qX w g t ty i fr d v x y z,qX w f r b c e j l m n o]
def Gp{l t a:Vu}{v q:Rat}(b:Lib.trimPrefix l [45]=t)(c:Lib.cut t [47]=(a,[],false))(d:nO a)(e:v=mkRat (dE a:Nat) 1)(f:q=if Lib.hasPrefix l [45]=true then -v else v):il l q:=by
 refine⟨v,.inl ⟨⟨?_,?_⟩,?_⟩,f⟩
 . rw[b,c];exact d
 . rw[b,c];intro h;cases h
 . rw[b,c];simpa using e
def P7{c:AP}(a:48<=c.toNat)(b:c.toNat<=57):nO [c]:=⟨sS,fun d e=>by
 obtain rfl:d=c:=sU e
 exact⟨a,b⟩⟩
def pU:il Gm.data.toList 0:=Gp (l:=[48]) (t:=[48]) (a:=[48]) (v:=0) dD dD (P7 dD dD) dD dD
def rL:il EF.data.toList 1:=Dj
def Gq:il (⟨#[50]⟩:ByteArray).data.toList 2:=Gp (l:=[50]) (t:=[50]) (a:=[50]) (v:=2) dD dD (P7 dD dD) dD dD
def vg:jL mF xZ xY:=by
 refine⟨?_,?_,?_⟩
 . intro p a;simp[mF]at a;rcases a with rfl|rfl|rfl<;>exact⟨dD,dD⟩
 . intro b hb;simp[xZ,qN]at hb;rcases hb with rfl|rfl|rfl<;>exact⟨dD,dD,dD,dD⟩
 . intro x c;simp[xY]at c;rcases c with rfl|rfl|rfl<;>decide
def QE:iK EF.data.toList 1:=⟨[49],⟨[49],.inr ⟨dD,[1],⟨fun d a=>by simp at a;omega,.inr sS,by simp[val]⟩,dD⟩,dD⟩,.inl ⟨dD,rfl⟩⟩
def Mm:iK (⟨#[45,49]⟩:ByteArray).data.toList (-1):=⟨[45,49],⟨[49],.inr ⟨dD,[1],⟨fun d a=>by simp at a;omega,.inr sS,by simp[val]⟩,dD⟩,dD⟩,.inl ⟨dD,rfl⟩⟩
def nz(w:Vz)(a:Vx)(l:Vt):Prop:=∀(i:Nat)(s:Vs),l[i]?=some s->∃b off,a=some ⟨b,off,none⟩/\b<w.heap.size/\w.cell? ⟨b,off+i,none⟩=some (.string s)
def nz.below{w':Vz}{a:Vx}(h:nz w a l)(hb:Bl w w'):nz w' a l:=fun i s e=>by obtain⟨b,c,f,d,g⟩:=h i s e;exact⟨b,c,f,aF d hb.size,ce hb d g⟩
def SB.zY{g:Nat}{t:Vr}(h:SB w g t (iq l).toArray):nz w (some ⟨g,0,none⟩) l:=fun i s a=>⟨g,0,rfl,h.lt,by
 rw[cC,h.cell]
 simp[iq,a]⟩
def Lx(a b:Vx)(c d:Nat)(l:Vt)(w:Vz)(k:nz w a l)(m:nz w b l)(v:l.length<=1000000):
 Calls prog 27 #[.slice a l.length c,.slice b l.length d] w fun e w'=>e=.returned (.bool true)/\Below w.heap.size w w':=by
 obtain⟨r,s⟩:=Ia k m;clear k m;go_enter func27,ntmps27;go_wp2_with fail;go_loopw [13] (fun g wr=>∃i:Nat,i<=l.length/\g=.int .i64 i/\Below w.heap.size w wr) (fun g _=>l.length - (intOf g).toNat)
 case atStart=>exact⟨0,oO,rfl,ac _ _⟩
 case round=>
  obtain⟨i,x,rfl,hb⟩:=hrel;have n:=Hi hb;by_cases h:i<l.length
  . obtain⟨f,j⟩:∃f,l[i]?=some f:=⟨l[i],gE h⟩;obtain⟨b1,y,rfl,p,d1⟩:=r.o i f j;obtain⟨b2,z,rfl,q,d2⟩:=s.o i f j;have t:=ce hb p d1;have u:=ce hb q d2;have A:((i:Int)<(l.length:Int)):=oO;clear j d1 d2 hb p q;go_wp2_with fail;go_region;go_wp2;go_roundw
    case rel=>exact⟨i+1,oO,by go_num,n.o.drew⟩
    case measure=>exact mI
  . obtain rfl:i=l.length:=oO;clear hb;go_wp2;go_ret;exact⟨rfl,n.o⟩
def YG(a b k i:Vx)(c d t u:Nat)(x y:Vt)(w:Vz)(E:nz w a x)(F:nz w b y)(l:nz w k x)(m:nz w i y)(J:x.length<=1000000)(K:y.length<=1000000):
 Calls prog 51 #[.agg #[.slice a x.length c,.slice b y.length d],.agg #[.slice k x.length t,.slice i y.length u]] w fun e w'=>e=.returned (.bool true)/\Below w.heap.size w w':=by
 obtain⟨V,j⟩:=nm ((w.alloc (.cells #[.slice a x.length c,.slice b y.length d] 45)).alloc (.cells #[.slice k x.length t,.slice i y.length u] 45));obtain⟨G,h⟩:=nm w.heap.size;have f:Bl w V:=by rw[<-j];exact lN w _ _
 have v:SB V G 45 #[.slice a x.length c,.slice b y.length d]:=by rw[<-j,<-h];exact(cK w _ _).alloc _
 have z:SB V (G+1) 45 #[.slice k x.length t,.slice i y.length u]:=by rw[<-j,<-h];exact ww w _ _ _
 obtain⟨A,H⟩:=Ia (Lx a k c t x V (E.below f) (l.below f) J) (⟨F.below f,m.below f⟩:nz V b y/\nz V i y);obtain⟨I,-⟩:=zc v;obtain⟨k1,-⟩:=zc z;obtain⟨n,p,q⟩:=Ib v z f;rw[<-j,<-h]at I k1;obtain⟨L,B⟩:=Ia j h;clear j h f v z E l F m;go_enter func51,ntmps51;go_wp2_with fail;rw[L.o,B.o];go_fit A.o;rintro e w1 ⟨rfl,g⟩;obtain⟨r,C⟩:=Ia (q.o.trans (g.mono q.o.size)) (Lx b i d u y w1 (H.o.1.below g) (H.o.2.below g) K);obtain⟨-,m0,-⟩:=zc (n.o.below g n.o.lt);obtain⟨-,M,-⟩:=zc (p.o.below g p.o.lt);clear g I k1;go_wp2_with fail;go_fit C.o;rintro e w2 ⟨rfl,s⟩;have D:=Hi (r.o.trans (s.mono r.o.size));clear s m0 M;go_wp2;go_ret;exact⟨rfl,D.o⟩
def mh(s:Vs):DataW H:=.lit (.string s.data.toList)
section
variable {H:Type} {enc:TypeId × Value->H} {P:Au} {w:Vz} {base:Nat} {spare:AH} {held:Bool} {fuel:Nat} {cs:Vv} {x:DataW H × List MemPlace} {tE tS tQ tI tI':Vr} {f0 f1 f2 f3 f4 f5:Field}
def G0{α:Type}{c:α->List Value}{dat:α->DataW H}{sz:Nat}{t:Vr}(B:α)(g:0<sz)(G:∀e,(c e).length=sz)(X:P.underlying t=some (.slice tE))(Y:P.cellsOf tE=sz)(C:∀(fuel:Nat)(cs:Vv)(x:DataW H × List MemPlace),DataW.trod enc P w base spare held fuel tE cs=some x->∃e,cs=c e/\x.1=dat e)(h:DataW.trod enc P w base spare held fuel t cs=some x):
 ∃(a:Vx)(cap:Nat)(I:List α),cs= [.slice a I.length cap]/\eO c w a cap I/\(∀l r,x.1=.slice l r->l=I.map dat)/\((I= []/\x.1=.nil)∨∃l r,x.1=.slice l r):=by
 rcases Deep.open_slice X h with ⟨rfl,rfl⟩|⟨a,d,cap,m,n,D,Pl,rfl,hb,L,Z,hm,rfl,hD⟩
 . exact⟨none,0,[],rfl,⟨sS,⟨fun j u A=>by simp at A⟩⟩,fun l r e=>by simp at e,.inl ⟨rfl,rfl⟩⟩
 have aa:d<=m:=by rw[hm];split<;>omega
 have o:∀i,∃f:α,i<d->w.cells? base (a.add (i*sz)) sz=some (c f)/\D i=dat f:=by
  intro i;by_cases M:i<d
  . obtain⟨ab,J,K⟩:=hD i oO;obtain⟨f,rfl,hd⟩:=C _ _ _ K;rw[Y]at J;exact⟨f,fun _=>⟨J,hd⟩⟩
  . exact⟨B,fun h=>absurd h M⟩
 obtain⟨F,N⟩:=gQ o;refine⟨some a,cap,(List.range d).map F,sS,⟨by simpa using L,⟨?_⟩⟩,?_,.inr ⟨_,_,rfl⟩⟩
 .
  intro j u A;have p:=(gZ A).1;rw[xz G]at p;simp only[bF,jm]at p;have q:=(fL g).2 p;have O:j % sz<sz:=eU _ g;obtain⟨U,E⟩:∃U,(c (F (j / sz)))[j % sz]?=some U:=⟨_,gE (by rw[G];exact O)⟩;have J:((List.range d).map F)[j / sz]?=some (F (j / sz)):=by simp[q]
  have K:=EO G _ _ _ _ _ J E;rw[Nat.div_add_mod' j sz,A]at K;obtain rfl:=aD K;obtain⟨Q,_⟩:=N _ q;obtain⟨_,_,s⟩:=World.cells?_some Q;obtain⟨b,y,V⟩:=a;have R:=s (j % sz) oO;have z:=(World.cells?_some (N 0 (bQ (cJ _) q)).1).2.2 0 g;have S:V=none:=by
   cases V with
   |none=>rfl
   |some v=>
    exfalso
    obtain⟨W,T⟩:∃W,(c (F 0))[0]?=some W:=⟨_,gE (by rw[G];exact g)⟩;rw[T]at z;simp only[qP,Addr.add,tN,World.cell?]at z
    split at z<;>simp at z
  subst S;have ea:∀j k,(Addr.add ⟨b,y,none⟩ j).add k=⟨b,y+j+k,none⟩:=by intro j k;unfold Addr.add;by_cases A:j=0<;>by_cases hk:k=0<;>simp[A,hk]
  rw[ea,E,gT,Nat.div_add_mod']at R;exact⟨b,y,rfl,bI _ _ R,R⟩
 . intro l r e;have e1:(List.range d).map D=l:=sU ((DataW.slice.inj e).1);rw[<-e1,kG];refine mg fun i M=>?_
   exact(N i (sU M)).2
end
def sG(s:S2):DataW H:=.agg [mh s.x,mh s.y]
def uB(b:B6):DataW H:=.agg [.lit (.int .i64 b.a),.lit (.int .i64 b.b),mh b.c,mh b.e,mh b.l,mh b.m]
def q8(h:H3):DataW H:=.agg [.lit (.int .i64 h.j),.lit (.int .i64 h.w),mh h.q]
def rN(l:L3):DataW H:=.agg [.lit (.int .i64 l.j),.agg [mh l.x,mh l.y]]
section
variable {H:Type} {enc:TypeId × Value->H} {P:Au} {w:Vz} {base:Nat} {spare:AH} {held:Bool} {fuel:Nat} {cs:Vv} {x:DataW H × List MemPlace} {tE tS tQ tI tI':Vr} {f0 f1 f2 f3 f4 f5:Field}
theorem NS(u:P.underlying tE=some (.struct #[f0,f1,f2,f3,f4,f5]))(f:P.underlying tQ=some .string)(s:P.underlying tI=some (.int .i64))(v:P.cellsOf tE=6)(g:P.cellsOf tQ=1)(t:P.cellsOf tI=1)(t0:f0.type=tI)(t1:f1.type=tI)(t2:f2.type=tQ)(t3:f3.type=tQ)(t4:f4.type=tQ)(t5:f5.type=tQ)(y:f0.offset=0)(z:f1.offset=1)(A:f2.offset=2)(B:f3.offset=3)(C:f4.offset=4)(D:f5.offset=5)(h:DataW.trod enc P w base spare held fuel tE cs=some x):∃b:B6,cs=b.cells/\x.1=uB b:=by
 obtain⟨xs,n,rfl,rfl,hl,i,d⟩:=pI u h;rw[v]at hl;clear h;have j:=d 0 f0 rfl;have k:=d 1 f1 rfl;have o:=d 2 f2 rfl;have p:=d 3 f3 rfl;have q:=d 4 f4 rfl;have r:=d 5 f5 rfl;rw[t0,y,t]at j;rw[t1,z,t]at k;rw[t2,A,g]at o;rw[t3,B,g]at p;rw[t4,C,g]at q;rw[t5,D,g]at r;clear d
 match cs,hl,xs,i with
 | [v0,v1,v2,v3,v4,v5],_,[y0,y1,y2,y3,y4,y5],_=> simp only[iP,nW,nU,rn,aI,aM]at j k o p q r;obtain⟨a,E,rfl,_⟩:=rV s j;obtain⟨b,F,rfl,_⟩:=rV s k;obtain⟨c,G,rfl,_⟩:=j6 f o;obtain⟨e,I,rfl,_⟩:=j6 f p;obtain⟨l,J,rfl,_⟩:=j6 f q;obtain⟨m,K,rfl,_⟩:=j6 f r;obtain rfl:v0=_:=sU E;obtain rfl:v1=_:=sU F;obtain rfl:v2=_:=sU G;obtain rfl:v3=_:=sU I;obtain rfl:v4=_:=sU J;obtain rfl:v5=_:=sU K;exact⟨⟨a,b,c,e,l,m⟩,rfl,rfl⟩
theorem NR(l:P.underlying tE=some (.struct #[f0,f1,f2]))(m:P.underlying tQ=some .string)(o:P.underlying tI=some (.int .i64))(e:P.underlying tI'=some (.int .i64))(p:P.cellsOf tE=3)(q:P.cellsOf tQ=1)(r:P.cellsOf tI=1)(f:P.cellsOf tI'=1)(t0:f0.type=tI)(t1:f1.type=tI')(t2:f2.type=tQ)(s:f0.offset=0)(t:f1.offset=1)(u:f2.offset=2)(h:DataW.trod enc P w base spare held fuel tE cs=some x):∃b:H3,cs=b.cells/\x.1=q8 b:=by
 obtain⟨xs,n,rfl,rfl,hl,g,d⟩:=pI l h;rw[p]at hl;clear h;have i:=d 0 f0 rfl;have j:=d 1 f1 rfl;have k:=d 2 f2 rfl;rw[t0,s,r]at i;rw[t1,t,f]at j;rw[t2,u,q]at k;clear d
 match cs,hl,xs,g with
 | [v0,v1,v2],_,[y0,y1,y2],_=> simp only[iP,nW,nU,rn,aI,aM]at i j k;obtain⟨a,v,rfl,_⟩:=rV o i;obtain⟨b,y,rfl,_⟩:=rV e j;obtain⟨c,z,rfl,_⟩:=j6 m k;obtain rfl:v0=_:=sU v;obtain rfl:v1=_:=sU y;obtain rfl:v2=_:=sU z;exact⟨⟨a,b,c⟩,rfl,rfl⟩
theorem Tm(u:P.underlying tE=some (.struct #[f0,f1,f2]))(k:P.cellsOf tE=3){t0 t1 t2:Vr}(l:f0.type=t0)(m:f1.type=t1)(o:f2.type=t2)(p:P.cellsOf t0=1)(k1:P.cellsOf t1=1)(k2:P.cellsOf t2=1)(q:f0.offset=0)(r:f1.offset=1)(s:f2.offset=2)(h:DataW.trod enc P w base spare held fuel tE cs=some x):∃n a b c d y1 y2,cs= [a,b,c]/\x.1=.agg [d.1,y1.1,y2.1]/\DataW.trod enc P w base spare held n t0 [a]=some d/\DataW.trod enc P w base spare held n t1 [b]=some y1/\DataW.trod enc P w base spare held n t2 [c]=some y2:=by
 obtain⟨xs,n,rfl,rfl,hl,f,e⟩:=pI u h;rw[k]at hl;clear h;have g:=e 0 f0 rfl;have i:=e 1 f1 rfl;have j:=e 2 f2 rfl;rw[l,q,p]at g;rw[m,r,k1]at i;rw[o,s,k2]at j;clear e
 match cs,hl,xs,f with
 | [a,b,c],_,[d,y1,y2],_=> simp only[iP,nW,nU,rn,aI,aM]at g i j;exact⟨n,a,b,c,d,y1,y2,rfl,rfl,g,i,j⟩
end
section
open Go.ChangeShapes Go.WideShapes Go.ChangeAt Go.RowKit
def JZ:prog.cellsOf 72=6:=kK
def JY:prog.cellsOf 74=3:=kK
def Th:prog.cellsOf 22=1:=kK
def Tg:prog.cellsOf 23=1:=kK
def Tf:prog.cellsOf 24=1:=kK
def Te:prog.cellsOf 26=3:=kK
def Td:prog.readableRec 26=true:=kK
def Tc:26<prog.types.size:=by refine lz ?_;kernel_rfl
section
variable {H:Type}
def GF{α:Type}(dat:α->DataW H)(b:∀e,1<=Rows.uptoBulk (dat e))(a:List α):a.length<=Rows.uptoBulkAll (a.map dat):=by
 induction a with
 |nil=>simp
 |cons e l c=> have:=b e;simp only[dY,Rows.uptoBulkAll,dJ];omega
def Dr{α:Type}{dat:α->DataW H}{a:List α}{d:DataW H}{N:Nat}(hb:Rows.uptoBulk d<=N)(hl:∀l r,d=.slice l r->l=a.map dat)(b:(a= []/\d=.nil)∨∃l r,d=.slice l r):Rows.uptoBulkAll (a.map dat)<=N:=by
 rcases b with ⟨rfl,_⟩|⟨l,r,rfl⟩
 . simp[Rows.uptoBulkAll]
 . rw[<-hl l r rfl]
   exact aE (SH l r) hb
def Tb(s:Vs):s.size<=Rows.uptoBulk (mh (H:=H) s):=by simp[mh,Rows.uptoBulk]
def JX(s:S2):1<=Rows.uptoBulk (sG (H:=H) s)/\s.x.size+s.y.size<=Rows.uptoBulk (sG (H:=H) s):=by simp[sG,mh,Rows.uptoBulk,Rows.uptoBulkAll];omega
def JW(b:B6):1<=Rows.uptoBulk (uB (H:=H) b)/\b.c.size+b.e.size+b.l.size+b.m.size<=Rows.uptoBulk (uB (H:=H) b):=by simp[uB,mh,Rows.uptoBulk,Rows.uptoBulkAll];omega
def JV(h:H3):1<=Rows.uptoBulk (q8 (H:=H) h)/\h.q.size<=Rows.uptoBulk (q8 (H:=H) h):=by simp[q8,mh,Rows.uptoBulk,Rows.uptoBulkAll];omega
def Hw{α:Type}(dat:α->DataW H){a:List α}{e:α}(b:e∈ a):Rows.uptoBulk (dat e)<=Rows.uptoBulkAll (a.map dat):=J0 (bZ.2 ⟨e,b,rfl⟩)
variable {enc:TypeId × Value->H} {W:Vz}
def Ta{b:Vw}{d:DataW H}{F:List MemPlace}(hb:Rows.uptoBulk d<=1048576)(h:DataW.Trod enc prog W 0 (fun _=>true) true 26 (.agg b) d F):
 ∃(m o q:Vx)(c1 c2 c3:Nat)(f:Ad) (g:Ap) (i:Ak),b=#[.slice m f.length c1,.slice o g.length c2,.slice q i.length c3]/\ja W m o q c1 c2 c3 f g i/\jL f g i/\f.length<=1048576/\g.length<=1048576/\i.length<=1048576/\Rows.uptoBulkAll (f.map (sG (H:=H)))+Rows.uptoBulkAll (g.map (uB (H:=H)))+Rows.uptoBulkAll (i.map (q8 (H:=H)))<=Rows.uptoBulk d:=by
 obtain⟨a,h⟩:=h;obtain⟨n,G,I,J,w,y1,y2,k,j,K,L,M⟩:=Tm underlying26 Te rfl rfl rfl Th Tg Tf rfl rfl rfl h;have y:(Value.agg b).cells.toList=b.toList:=by rfl
 rw[y]at k;clear h y;obtain⟨m,c1,f,N,O,z,A⟩:=G0 (c:=S2.cells) (dat:=sG) (sz:=2) ⟨⟨#[]⟩,⟨#[]⟩⟩ dD (fun _=>rfl) underlying22 GZ (fun a b x j=>by
  obtain⟨s,t,e,v,_⟩:=Lg underlying34 underlying32 GZ CN rfl rfl rfl rfl j
  exact⟨⟨s,t⟩,e,v⟩) K
 obtain⟨o,c2,g,P,Q,B,C⟩:=G0 (c:=B6.cells) (dat:=uB) (sz:=6) ⟨0,0,⟨#[]⟩,⟨#[]⟩,⟨#[]⟩,⟨#[]⟩⟩ dD (fun _=>rfl) underlying23 JZ (fun a b x j=>NS underlying72 underlying32 underlying3 JZ CN l7 rfl rfl rfl rfl rfl rfl rfl rfl rfl rfl rfl rfl j) L;obtain⟨q,c3,i,R,S,D,E⟩:=G0 (c:=H3.cells) (dat:=q8) (sz:=3) ⟨0,0,⟨#[]⟩⟩ dD (fun _=>rfl) underlying24 JY (fun a b x j=>NR underlying74 underlying32 underlying3 underlying3 JY CN l7 l7 rfl rfl rfl rfl rfl rfl j) M;obtain rfl:G=_:=sU N;obtain rfl:I=_:=sU P;obtain rfl:J=_:=sU R;have v:d=.agg [w.1,y1.1,y2.1]:=j;subst v;have T:Rows.uptoBulk w.1<=1048576:=aE (by simp only[Rows.uptoBulk,Rows.uptoBulkAll];omega) hb;have b1:Rows.uptoBulk y1.1<=1048576:=aE (by simp only[Rows.uptoBulk,Rows.uptoBulkAll];omega) hb;have b2:Rows.uptoBulk y2.1<=1048576:=aE (by simp only[Rows.uptoBulk,Rows.uptoBulkAll];omega) hb;have V:=Dr T z A;have k1:=Dr b1 B C;have k2:=Dr b2 D E;have X:=GF (H:=H) sG (fun e=>(JX e).1) f;have n1:=GF (H:=H) uB (fun e=>(JW e).1) g;have Y:=GF (H:=H) q8 (fun e=>(JV e).1) i;refine⟨m,o,q,c1,c2,c3,f,g,i,by rw[<-Array.toArray_toList (xs:=b),k],⟨O,Q,S⟩,⟨fun p l=>?_,fun p l=>?_,fun p l=>?_⟩,oO,oO,oO,by
  have r:=Dr lZ z A;have u:=Dr lZ B C;have U:=Dr lZ D E;simp only[Rows.uptoBulk,Rows.uptoBulkAll]at r u U ⊢
  omega⟩
 . have r:=Hw (H:=H) sG l;have u:=(JX (H:=H) p).2;omega
 . have r:=Hw (H:=H) uB l;have u:=(JW (H:=H) p).2;omega
 . have r:=Hw (H:=H) q8 l;have u:=(JV (H:=H) p).2;omega
end
end
end Go.Proofs.YtfgclhpgdanmfaaGreatDoor
