import Derived.Test.YtppkmifkpjkgpaaGreatDoorC33BalB
namespace Go.Proofs.YtppkmifkpjkgpaaGreatDoor
open Go.RowKit
open Go.Proofs.Tryz
set_option linter.unusedSimpArgs false
set_option linter.unusedVariables false
set_option maxHeartbeats 8000000
set_option maxRecDepth 1000000
theorem one_q:QOf (⟨#[49]⟩:ByteArray).data.toList 1:=by
 have a:Lib.trimPrefix [49] [45]= [49]:=by decide
 have b:Lib.cut [49] [47]=([49],[],false):=by decide
 refine⟨1,.inl ⟨⟨⟨by rw[a,b];simp,?_⟩,?_⟩,?_⟩,?_⟩
 .
  rw[a,b];intro d c;simp at c;subst c;decide
 .
  rw[a,b];intro h;cases h
 . rw[a,b]
   decide
 .
  have e:Lib.hasPrefix [49] [45]=false:=by decide
  rw[e];rfl
theorem Fits.one:Fits 1 1:=⟨by decide,by decide⟩
def barAt(p:Nat × Nat × Rat × Rat)(r:Nat):Rat:=if r=2*p.1 then p.2.2.1 else if r=2*p.2.1 then -p.2.2.1 else if r=2*p.1+1 then p.2.2.2 else if r=2*p.2.1+1 then -p.2.2.2 else 0
def balM(vb:List (Nat × Nat × Rat × Rat))(nb:Nat)(vh:Vy)(r c:Nat):Rat:=match vb[c]? with
 |some p=>barAt p r
 |none=>match vh[c - nb]? with
  |some h=>if nb<=c/\r=h then 1 else 0
  |none=>0
structure BarV (n:Nat) (js:List S2) (b:B6) (p:Nat × Nat × Rat × Rat):Prop where
 a:b.a=(p.1:Nat)
 b:b.b=(p.2.1:Nat)
 ne:p.1≠p.2.1
 ex:∃(s t:S2) (x1 y1 x2 y2:Rat),js[p.1]?=some s/\js[p.2.1]?=some t/\s.x.size<=n/\s.y.size<=n/\t.x.size<=n/\t.y.size<=n/\QOf s.x.data.toList x1/\QOf s.y.data.toList y1/\QOf t.x.data.toList x2/\QOf t.y.data.toList y2/\p.2.2.1=x2 - x1/\p.2.2.2=y2 - y1
structure HoldV (nj:Nat) (h:H3) (r:Nat):Prop where
 ex:∃j:Nat,h.j=(j:Nat)/\j<nj/\r=if h.w=1 then 2*j else 2*j+1
theorem Qlx{a:List (Nat × Nat × Rat × Rat)}{nb k:Nat}{p:Nat × Nat × Rat × Rat}(d:a[k]?=some p)(f:p.1≠p.2.1):
 ∀r c,updM (updM (updM (updM (balM (a.take k) nb []) (2*p.1) k p.2.2.1) (2*p.2.1) k (-p.2.2.1)) (2*p.1+1) k p.2.2.2) (2*p.2.1+1) k (-p.2.2.2) r c=balM (a.take (k+1)) nb [] r c:=by
 intro r c;have hk:=(gZ d).1;by_cases e:c=k
 .
  subst e;have b:(a.take (c+1))[c]?=some p:=by rw[List.getElem?_take_of_lt (by omega)];exact d
  have g:(a.take c)[c]?=none:=List.getElem?_eq_none (by rw[List.length_take];omega);simp only[balM,b,g,updM,barAt,and_true,List.getElem?_nil]
  repeat' split
  all_goals first|rfl|(exfalso;omega)
 .
  have b:(a.take (k+1))[c]?=(a.take k)[c]?:=by
   rcases Nat.lt_or_ge c k with h|h
   . rw[List.getElem?_take_of_lt (by omega),List.getElem?_take_of_lt h]
   . rw[List.getElem?_eq_none (by rw[List.length_take];omega),List.getElem?_eq_none (by rw[List.length_take];omega)]
  simp only[balM,b,updM,e,and_false,if_false]
theorem Qly{a:List (Nat × Nat × Rat × Rat)}{vh:Vy}{nb k h:Nat}(hl:a.length=nb)(g:vh[k]?=some h):∀r c,updM (balM a nb (vh.take k)) h (nb+k) 1 r c=balM a nb (vh.take (k+1)) r c:=by
 intro r c;have hk:=(gZ g).1;rcases Nat.lt_or_ge c nb with i|i
 .
  obtain⟨p,e⟩:∃p,a[c]?=some p:=⟨a[c]'(by omega),gE (by omega)⟩;simp only[balM,e,updM];rw[if_neg (by omega)]
 .
  have j:a[c]?=none:=List.getElem?_eq_none (by omega);by_cases b:c=nb+k
  .
   subst b;have f:(vh.take (k+1))[nb+k - nb]?=some h:=by rw[Nat.add_sub_cancel_left,List.getElem?_take_of_lt (by omega)];exact g
   have l:(vh.take k)[nb+k - nb]?=none:=List.getElem?_eq_none (by rw[List.length_take];omega);simp only[balM,j,f,l,updM,and_true];by_cases d:r=h
   . rw[if_pos d,if_pos ⟨i,d⟩]
   . rw[if_neg d,if_neg (fun x=>d x.2)]
  .
   have f:(vh.take (k+1))[c - nb]?=(vh.take k)[c - nb]?:=by
    rcases Nat.lt_or_ge (c - nb) k with h|h
    . rw[List.getElem?_take_of_lt (by omega),List.getElem?_take_of_lt h]
    . rw[List.getElem?_eq_none (by rw[List.length_take];omega),List.getElem?_eq_none (by rw[List.length_take];omega)]
   simp only[balM,j,f,updM,b,and_false,if_false]
theorem Qlz(a1 a2 a3:Vx)(c1 c2 c3 n K:Nat)(L:List S2)(y:List B6)(H:List H3)(vb:List (Nat × Nat × Rat × Rat))(vh:Vy)(w:Vz)(hg:Glob w)(hf:FrRow w a1 a2 a3 c1 c2 c3 L y H)
 (hj:L.length<=10) (hb:y.length<=24) (hh:H.length<=20) (cw:vb.length=y.length) (cz:vh.length=H.length) (c0:∀(i:Nat) (b:B6) (p:Nat × Nat × Rat × Rat),y[i]?=some b->vb[i]?=some p->BarV n L b p) (c4:∀(i:Nat) (h:H3) (r:Nat),H[i]?=some h->vh[i]?=some r->HoldV L.length h r)
 (hn:n<=1048576) (hK:4*n+1+(4*n+1)+1<=K):
 Calls prog 38 #[.agg #[.slice a1 L.length c1,.slice a2 y.length c2,.slice a3 H.length c3]] w fun e w'=>∃(N W G:Nat) (M:Vy),N=2*L.length/\W=y.length+H.length/\e=.returned (.slice (some ⟨G,0,none⟩) N N)/\M.length=N/\BM w w' #[.slice a1 L.length c1,.slice a2 y.length c2,.slice a3 H.length c3] G W K M (balM vb y.length vh):=by
 obtain⟨HG,HF,az,b3,eh,ei⟩:=Ie hg hf cw cz c0 c4;obtain⟨N,hN⟩:=nm (2*L.length);obtain⟨W,hW⟩:=nm (y.length+H.length);have c5:2*(L.length:Int)=(N:Int):=by omega
 have c6:(y.length:Int)+(H.length:Int)=(W:Int):=by omega
 obtain⟨b4,b5⟩:=Ia (fun u=>Qg0 a1 a2 a3 c1 c2 c3 L.length y.length H.length u hj) (fun u=>Qgz a1 a2 a3 c1 c2 c3 L.length y.length H.length u hb hh);simp only[c5] at b4;simp only[c6] at b5;obtain⟨c7,HN,HW⟩:=Ib (fun u=>Qlw N W u (by omega) (by omega)) hN hW;clear hg hf cw cz c0 c4 c5 c6 hN hW;obtain⟨F,hF⟩:∃F:Vw,#[.slice a1 L.length c1,.slice a2 y.length c2,.slice a3 H.length c3]=F:=⟨_,rfl⟩;obtain⟨V,hV⟩:=nm (w.alloc (.cells #[.slice a1 L.length c1,.slice a2 y.length c2,.slice a3 H.length c3] 26));obtain⟨P,b6⟩:=nm w.heap.size;have bt:=Ua hV;have d:=Uf hV b6;obtain⟨HV,al,a0⟩:=Ib hV b6 hF
 clear hV b6 hF;go_enter func38,ntmps38;go_wp2_with fail;rw[HV.o,al.o];clear HV;have x0:V.cell? ⟨P,0,none⟩=some (.slice a1 L.length c1):=by
  have h:=d.o.cell 0
  simpa using h
 have x1:V.cell? ⟨P,1,none⟩=some (.slice (a2) y.length c2):=by
  have h:=d.o.cell 1
  simpa using h
 have x2:V.cell? ⟨P,2,none⟩=some (.slice (a3) H.length c3):=by
  have h:=d.o.cell 2
  simpa using h
 have ah:=d;have S:O (Below V.heap.size V V):=Hi bR;go_region_held3 (fun v=>v.cell? ⟨P,0,none⟩=some (.slice a1 L.length c1)/\v.cell? ⟨P,1,none⟩=some (.slice a2 y.length c2)/\v.cell? ⟨P,2,none⟩=some (.slice a3 H.length c3)) ((first|(simp [*];done)|go_keep)) (first
  |(
   go_at_call 40;apply cM;apply b4.o;rintro e v1 ⟨rfl,T⟩;have f:O (Below V.heap.size V v1):=Hi ((by first|exact S.o|exact S.o.drew:Below V.heap.size V _).trans (T.mono (by first|exact S.o.size|exact S.o.drew.size)));clear T S x0 x1 x2 d;have d:=Hi (ah.o.below f.o ah.o.lt);have x0:v1.cell? ⟨P,0,none⟩=some (.slice a1 L.length c1):=by
    have h:=d.o.cell 0
    simpa using h
   have x1:v1.cell? ⟨P,1,none⟩=some (.slice (a2) y.length c2):=by
    have h:=d.o.cell 1
    simpa using h
   have x2:v1.cell? ⟨P,2,none⟩=some (.slice (a3) H.length c3):=by
    have h:=d.o.cell 2
    simpa using h
   skip)
  |(
   go_at_call 39;apply cM;apply b5.o;rintro e v2 ⟨rfl,T⟩;have x:O (Below V.heap.size V v2):=Hi ((by first|exact f.o|exact f.o.drew:Below V.heap.size V _).trans (T.mono (by first|exact f.o.size|exact f.o.drew.size)));clear T f x0 x1 x2 d;have d:=Hi (ah.o.below x.o ah.o.lt);have x0:v2.cell? ⟨P,0,none⟩=some (.slice a1 L.length c1):=by
    have h:=d.o.cell 0
    simpa using h
   have x1:v2.cell? ⟨P,1,none⟩=some (.slice (a2) y.length c2):=by
    have h:=d.o.cell 1
    simpa using h
   have x2:v2.cell? ⟨P,2,none⟩=some (.slice (a3) H.length c3):=by
    have h:=d.o.cell 2
    simpa using h
   skip)
  |(
   go_at_call 77;apply cM;apply c7.o;rintro e v3 ⟨⟨G,M,rfl,c8,c9,bu,bv,da⟩,T⟩;have a4:O (Below V.heap.size V v3):=Hi ((by first|exact x.o|exact x.o.drew:Below V.heap.size V _).trans (T.mono (by first|exact x.o.size|exact x.o.drew.size)));have ej:V.heap.size<=G:=Nat.le_trans x.o.size c9;obtain⟨bw,ao,db,U⟩:=Ic bu bv da c8;clear T x x0 x1 x2 d bu bv da c8 c9;have d:=Hi (ah.o.below a4.o ah.o.lt);have x0:v3.cell? ⟨P,0,none⟩=some (.slice a1 L.length c1):=by
    have h:=d.o.cell 0
    simpa using h
   have x1:v3.cell? ⟨P,1,none⟩=some (.slice (a2) y.length c2):=by
    have h:=d.o.cell 1
    simpa using h
   have x2:v3.cell? ⟨P,2,none⟩=some (.slice (a3) H.length c3):=by
    have h:=d.o.cell 2
    simpa using h
   skip)
  |fail)
 have dc:O (BM w v3 F G W K M (balM (vb.take 0) y.length [])):=Hi (by
  have ev:V.heap.size=w.heap.size+1∨w.heap.size<V.heap.size:=.inr (by rw[al.o];exact ah.o.lt);have bj:w.heap.size<V.heap.size:=by omega
  refine⟨⟨bt.o.trans (a4.o.mono bt.o.size),bw.o,fun r g hr=>⟨_,(ao.o r g hr).1,by simp,fun c t ht=>?_⟩,db.o,fun r g hr=>by have:=(ao.o r g hr).2;omega,by omega,fun r g hr=>by have:=(ao.o r g hr).2;omega⟩,by rw[<-a0.o,al.o];exact d.o⟩;obtain⟨_,rfl⟩:=List.mem_replicate.1 (mO ht)
  exact⟨by simp[balM,FE.zero],by simp[FE.zero];omega⟩)
 clear d bw ao db ah a4 b4 b5 c7 ej;go_wp2_with fail;go_loopw [18] (fun iv wr=>∃k:Nat,k<=y.length/\iv=.int .i64 k/\BM w wr F G W K M (balM (vb.take k) y.length [])) (fun iv _=>y.length - (intOf iv).toNat)
 case atStart=>exact⟨0,by omega,rfl,dc.o⟩
 case round=>
  obtain⟨k,hk,rfl,a5⟩:=hrel;have HM:=Hi a5;clear a5 x0 x1 x2;by_cases bj:k<y.length
  .
   obtain⟨b,bk⟩:∃b,y[k]?=some b:=⟨y[k],gE bj⟩;obtain⟨p,b7⟩:∃p,vb[k]?=some p:=⟨vb[k]'(by have:=az.o;omega),gE (by have:=az.o;omega)⟩;have af:=eh.o k b p bk b7;obtain⟨bb,bo,rfl,ew,d0,d1,d2,d3,d4,d5⟩:=(HF.o.b.below HM.o.base).bar bk;obtain⟨dd,ek,ez⟩:=Ib af b7 bk;have q1:((k:Int)<(y.length:Int)):=by omega
   obtain⟨s,t,xs,ys,xt,yt,b8,b9,z1,z2,z3,z4,o1,o2,o3,o4,ex,ey⟩:=af.ex;rw[af.a] at d0;rw[af.b] at d1;obtain⟨X,ab⟩:=nm (wr.alloc (.cells #[.int .i64 (p.1:Nat),.int .i64 (p.2.1:Nat),.string b.c,.string b.e,.string b.l,.string b.m] 80));obtain⟨g0,ai⟩:=nm wr.heap.size;have a6:Below wr.heap.size wr X:=by rw[<-ab];exact(Below.refl _ _).alloc lZ _
   have de:SB X g0 80 #[.int .i64 (p.1:Nat),.int .i64 (p.2.1:Nat),.string b.c,.string b.e,.string b.l,.string b.m]:=by rw[<-ab,<-ai];exact SB.new wr _ _
   have ad:=Hi (HM.o.below a6);have ap:=Qlu a1 (some ⟨bb,bo,none⟩) a3 c1 c2 c3 y.length H.length p.1 p.2.1 n L b s t X (HG.o.below ad.o.base) (HF.o.j.below ad.o.base) af.a af.b b8 b9 hj z1 z2 z3 z4 (by omega) o1 o2 o3 o4;rw[af.a,af.b,<-ex,<-ey] at ap;obtain⟨ap,z⟩:=Ia ap de;have e6:p.1<L.length:=(gZ b8).1;have e7:p.2.1<L.length:=(gZ b9).1;obtain⟨bl,ca⟩:=Ia ai ab;clear bk b7 af b8 b9 z1 z2 z3 z4 o1 o2 o3 o4 ex ey a6 de ai;have d:=Hi ad.o.box;rw[al.o,<-a0.o] at d;have x0:X.cell? ⟨P,0,none⟩=some (.slice a1 L.length c1):=by
    have h:=d.o.cell 0
    simpa using h
   have x1:X.cell? ⟨P,1,none⟩=some (.slice (some ⟨bb,bo,none⟩) y.length c2):=by
    have h:=d.o.cell 1
    simpa using h
   have x2:X.cell? ⟨P,2,none⟩=some (.slice (a3) H.length c3):=by
    have h:=d.o.cell 2
    simpa using h
   rw[<-ab] at x0 x1 x2;clear ab;go_wp2_with fail;rw[ca.o,bl.o];go_fit ap.o;rintro e w2 ⟨e8,e9,fa,fb,fc,fd,rfl,I⟩;obtain⟨nx,ax,lx,cx,mx,ox,px,rfl,rfl,rfl⟩:=Qb7 (I.get (List.Mem.tail _ (List.Mem.head _))).1;obtain⟨ny,ay,ly,cy,my,oy,py,rfl,rfl,rfl⟩:=Qb7 (I.get (List.Mem.head _)).1;obtain⟨df,dg,_⟩:=I.get (List.Mem.tail _ (List.Mem.head _));obtain⟨dh,di,_⟩:=I.get (List.Mem.head _);obtain⟨gx,bm⟩:=nm w2.heap.size;obtain⟨Y,hY⟩:=nm ((w2.alloc (.cells #[.bool nx,.slice ax lx cx,.slice mx ox px] 141)).alloc (.cells #[.bool ny,.slice ay ly cy,.slice my oy py] 141));have ar:Below w2.heap.size w2 Y:=by rw[<-hY];exact(bR.alloc lZ _).alloc (by simp) _
   have A:=Ug hY bm;have a7:O (SB Y (gx+1) 141 #[.bool ny,.slice ay ly cy,.slice my oy py]):=Hi (by rw[<-hY,<-bm];exact Qan w2 _ _ _);have a8:Below X.heap.size X Y:=I.base.trans (ar.mono I.base.size);obtain⟨cb,D,bn,dj⟩:=Ic (ad.o.below a8) (z.o.below a8 z.o.lt) (df.below ar) (dh.below ar);have av:0<K:=by omega
   have bx:O (Fits p.2.2.1 K):=Hi (dg.mono hK);have bz:O (Fits p.2.2.2 K):=Hi (di.mono hK);have dk:O (Fits (-p.2.2.1) K):=Hi bx.o.neg;have dl:O (Fits (-p.2.2.2) K):=Hi bz.o.neg;have aj:k<W:=by have:=HW.o;omega
   obtain⟨RA,dm⟩:=nm (2*p.1);obtain⟨RB,dn⟩:=nm (2*p.2.1);obtain⟨RC,dp⟩:=nm (2*p.1+1);obtain⟨RD,dr⟩:=nm (2*p.2.1+1);have em:=HN.o;have ds:=dd.o.ne;obtain⟨gA,a9⟩:∃g,M[RA]?=some g:=⟨M[RA]'(by have:=U.o;omega),gE (by have:=U.o;omega)⟩;obtain⟨gB,ba⟩:∃g,M[RB]?=some g:=⟨M[RB]'(by have:=U.o;omega),gE (by have:=U.o;omega)⟩;obtain⟨gC,bc⟩:∃g,M[RC]?=some g:=⟨M[RC]'(by have:=U.o;omega),gE (by have:=U.o;omega)⟩;obtain⟨gD,bd⟩:∃g,M[RD]?=some g:=⟨M[RD]'(by have:=U.o;omega),gE (by have:=U.o;omega)⟩;have lA:=HM.o.lt a9;have lB:=HM.o.lt ba;have lC:=HM.o.lt bc;have lD:=HM.o.lt bd;rw[bl.o] at lA lB lC lD;have dt:g0<gx:=by
    have h1:=I.base.size;have h2:=z.o.lt;omega
   have fe:=HM.o.ne RA gA a9;have ff:=HM.o.ne RB gB ba;have fg:=HM.o.ne RC gC bc;have fh:=HM.o.ne RD gD bd;have fi:gA≠gB:=fun h=>by have:=HM.o.nd RA RB gA a9 (by rw[h];exact ba);omega
   have fj:gC≠gD:=fun h=>by have:=HM.o.nd RC RD gC bc (by rw[h];exact bd);omega
   have iA:((RA:Int)<(N:Int)):=by omega
   have iB:((RB:Int)<(N:Int)):=by omega
   have iC:((RC:Int)<(N:Int)):=by omega
   have iD:((RD:Int)<(N:Int)):=by omega
   have fk:((k:Int)<(W:Int)):=by omega
   have eA:2*(p.1:Int)=(RA:Int):=by omega
   have eB:2*(p.2.1:Int)=(RB:Int):=by omega
   have eC:2*(p.1:Int)+1=(RC:Int):=by omega
   have eD:2*(p.2.1:Int)+1=(RD:Int):=by omega
   obtain⟨du,dv,dw,dx⟩:=Ic (fun u=>Qet p.1 u (by omega)) (fun u=>Qet p.2.1 u (by omega)) (fun u=>Qeu p.1 u (by omega)) (fun u=>Qeu p.2.1 u (by omega));simp only[eA] at du;simp only[eB] at dv;simp only[eC] at dw;simp only[eD] at dx;have m1:gA≠g0:=by omega
   have m2:gB≠g0:=by omega
   have m3:gA≠gx:=by omega
   have m4:gB≠gx:=by omega
   have m5:gC≠g0:=by omega
   have m6:gD≠g0:=by omega
   have m7:gC≠gx+1:=by omega
   have m8:gD≠gx+1:=by omega
   have m9:gA≠gx+1:=by omega
   have en:gB≠gx+1:=by omega
   obtain⟨aw,be,bf,bp,dy,HY,eo⟩:=If a9 ba bc bd (⟨dm,dn,dp,dr⟩:2*p.1=RA/\2*p.2.1=RB/\2*p.1+1=RC/\2*p.2.1+1=RD) hY bm;clear I df dh dg di ar a8 a9 ba bc bd lA lB lC lD dm dn dp dr eA eB eC eD hY bm dt em ds;clear x0 x1 x2 d0 d1 d2 d3 d4 d5;go_wp2_with fail;rw[HY.o,eo.o];have s0:=D.o.cell 0;have s1:=D.o.cell 1;have s2:=cb.o.cell aw.o;have s3:=cb.o.cell be.o;have s4:=A.o.cell 0;have s5:=A.o.cell 1;have s6:=A.o.cell 2;simp at s0 s1 s4 s5 s6;have b0:=Hi (Qdx bn.o)
   go_region_held3 (fun v=>v.cell? ⟨g0,0,none⟩=some (.int .i64 (p.1:Nat))/\v.cell? ⟨g0,1,none⟩=some (.int .i64 (p.2.1:Nat))/\v.cell? ⟨G,RA,none⟩=some (.slice (some ⟨gA,0,none⟩) W W)/\v.cell? ⟨G,RB,none⟩=some (.slice (some ⟨gB,0,none⟩) W W)/\v.cell? ⟨gx,0,none⟩=some (.bool nx)/\v.cell? ⟨gx,1,none⟩=some (.slice ax lx cx)/\v.cell? ⟨gx,2,none⟩=some (.slice mx ox px)) ((first|(simp [*];done)|go_keep)) (first
    |(
     go_at_call 80;apply cM;(first|apply du.o|apply dv.o)
     rintro e vz ⟨rfl,rfl⟩)
    |(
     go_at_call 79;apply cM;(first|exact b0.o|exact Qdx (bn.o.below bR.drew));rintro e v6 ⟨⟨vn,rfl,E⟩,ae⟩;obtain⟨cc,cd,ce,cf,cg,ch,ci,rfl,E⟩:=E;(first
       |have J:O (Below Y.heap.size Y v6):=Hi ae
       |have J:O (Below Y.heap.size Y v6):=Hi (bR.drew.trans ae))
     have dz:O (FracV v6 (.agg #[.bool cc,.slice cd ce cf,.slice cg ch ci]) (-p.2.2.1)):=Hi ⟨cc,cd,ce,cf,cg,ch,ci,rfl,E⟩;clear E ae s0 s1 s2 s3 s4 s5 s6;have ak:=Hi (cb.o.below J.o);have s0:=(D.o.below J.o D.o.lt).cell 0;have s1:=(D.o.below J.o D.o.lt).cell 1;have s2:=ak.o.cell aw.o;have s3:=ak.o.cell be.o;have s4:=(A.o.below J.o A.o.lt).cell 0;have s5:=(A.o.below J.o A.o.lt).cell 1;have s6:=(A.o.below J.o A.o.lt).cell 2;simp at s0 s1 s4 s5 s6;obtain⟨e0,e1,e2,f0,f1,f2,f3,f4,f5⟩:=ak.o.at aw.o aj;obtain⟨e3,e4,e5,k0,k1,k2,k3,k4,k5⟩:=ak.o.at be.o aj
     skip)
    |fail)
   obtain⟨Z,hZ⟩:=nm (set3 (set3 v6 gA k (.bool nx) (.slice ax lx cx) (.slice mx ox px)) gB k (.bool cc) (.slice cd ce cf) (.slice cg ch ci));have bg:=ak.o.put aw.o aj (bn.o.below J.o) bx.o av;have bq:O (BM w Z F G W K M _):=Hi (by
    rw[<-hZ]
    exact bg.put be.o aj (ak.o.keepV aw.o dz.o) dk.o av)
   have au:O (FracV Z (.agg #[.bool ny,.slice ay ly cy,.slice my oy py]) p.2.2.2):=Hi (by
    rw[<-hZ]
    exact bg.keepV be.o (ak.o.keepV aw.o (dj.o.below J.o)))
   have aa:O (SB Z g0 80 #[.int .i64 (p.1:Nat),.int .i64 (p.2.1:Nat),.string b.c,.string b.e,.string b.l,.string b.m]):=Hi (by
    rw[<-hZ]
    exact keep3 (keep3 (D.o.below J.o D.o.lt) (fun h=>m1 h.symm)) (fun h=>m2 h.symm))
   have B:O (SB Z (gx+1) 141 #[.bool ny,.slice ay ly cy,.slice my oy py]):=Hi (by
    rw[<-hZ]
    exact keep3 (keep3 (a7.o.below J.o a7.o.lt) (fun h=>m9 h.symm)) (fun h=>en h.symm))
   have cj:=hZ;unfold set3 at cj;rw[cj];clear cj hZ bg s0 s1 s2 s3 s4 s5 s6 f0 f1 f2 f3 f4 f5 k0 k1 k2 k3 k4 k5 ak dz J dj D a7 A bn b0;have s0:=aa.o.cell 0;have s1:=aa.o.cell 1;have s2:=bq.o.cell bf.o;have s3:=bq.o.cell bp.o;have s4:=B.o.cell 0;have s5:=B.o.cell 1;have s6:=B.o.cell 2;simp at s0 s1 s4 s5 s6;have b1:=Hi (Qdx au.o);go_wp2_with fail;go_region_held3 (fun v=>v.cell? ⟨g0,0,none⟩=some (.int .i64 (p.1:Nat))/\v.cell? ⟨g0,1,none⟩=some (.int .i64 (p.2.1:Nat))/\v.cell? ⟨G,RC,none⟩=some (.slice (some ⟨gC,0,none⟩) W W)/\v.cell? ⟨G,RD,none⟩=some (.slice (some ⟨gD,0,none⟩) W W)/\v.cell? ⟨gx+1,0,none⟩=some (.bool ny)/\v.cell? ⟨gx+1,1,none⟩=some (.slice ay ly cy)/\v.cell? ⟨gx+1,2,none⟩=some (.slice my oy py)) ((first|(simp [*];done)|go_keep)) (first
    |(
     go_at_call 81;apply cM;(first|apply dw.o|apply dx.o)
     rintro e vz ⟨rfl,rfl⟩)
    |(
     go_at_call 79;apply cM;(first|exact b1.o|exact Qdx (au.o.below bR.drew));rintro e v7 ⟨⟨vn,rfl,E⟩,ae⟩;obtain⟨ck,cl,cm,cn,cp,cq,cr,rfl,E⟩:=E;(first
       |have ag:O (Below Z.heap.size Z v7):=Hi ae
       |have ag:O (Below Z.heap.size Z v7):=Hi (bR.drew.trans ae))
     have ea:O (FracV v7 (.agg #[.bool ck,.slice cl cm cn,.slice cp cq cr]) (-p.2.2.2)):=Hi ⟨ck,cl,cm,cn,cp,cq,cr,rfl,E⟩;clear E ae s0 s1 s2 s3 s4 s5 s6;have am:=Hi (bq.o.below ag.o);have s0:=(aa.o.below ag.o aa.o.lt).cell 0;have s1:=(aa.o.below ag.o aa.o.lt).cell 1;have s2:=am.o.cell bf.o;have s3:=am.o.cell bp.o;have s4:=(B.o.below ag.o B.o.lt).cell 0;have s5:=(B.o.below ag.o B.o.lt).cell 1;have s6:=(B.o.below ag.o B.o.lt).cell 2;simp at s0 s1 s4 s5 s6;obtain⟨e0,e1,e2,f0,f1,f2,f3,f4,f5⟩:=am.o.at bf.o aj;obtain⟨e3,e4,e5,k0,k1,k2,k3,k4,k5⟩:=am.o.at bp.o aj
     skip)
    |fail)
   obtain⟨Q,hQ⟩:∃Z,set3 (set3 v7 gC k (.bool ny) (.slice ay ly cy) (.slice my oy py)) gD k (.bool ck) (.slice cl cm cn) (.slice cp cq cr)=Z:=⟨_,rfl⟩;have b2:=am.o.put bf.o aj (au.o.below ag.o) bz.o av;have eb:O (BM w Q F G W K M _):=Hi (by
    rw[<-hQ]
    exact b2.put bp.o aj (am.o.keepV bf.o ea.o) dl.o av)
   have an:=hQ;unfold set3 at an;rw[an];have cs:O (BM w Q F G W K M (balM (vb.take (k+1)) y.length [])):=Hi (eb.o.congr (fun r c=>by
    have h:=Qlx (nb:=y.length) ek.o dd.o.ne r c;obtain⟨h1,h2,h3,h4⟩:=dy.o;rw[h3,h4,h1,h2] at h
    exact h))
   clear an hQ b2 s0 s1 s2 s3 s4 s5 s6 f0 f1 f2 f3 f4 f5 k0 k1 k2 k3 k4 k5 am ea ag au aa B b1 eb bq;go_wp2;go_roundw
   case rel=>exact⟨k+1,by omega,by go_num,cs.o⟩
   case measure=>simp[intOf];omega
  .
   obtain rfl:k=y.length:=by omega
   have ec:O (BM w wr F G W K M (balM vb y.length (vh.take 0))):=Hi (by
    have h:=HM.o;rw[<-az.o,List.take_length,az.o] at h
    exact h)
   have d:=Hi ec.o.box;rw[al.o,<-a0.o] at d;have x0:wr.cell? ⟨P,0,none⟩=some (.slice a1 L.length c1):=by
    have h:=d.o.cell 0
    simpa using h
   have x1:wr.cell? ⟨P,1,none⟩=some (.slice (a2) y.length c2):=by
    have h:=d.o.cell 1
    simpa using h
   have x2:wr.cell? ⟨P,2,none⟩=some (.slice (a3) H.length c3):=by
    have h:=d.o.cell 2
    simpa using h
   clear HM dc d;go_wp2_with fail;go_loopw [71] (fun iv wr=>∃k:Nat,k<=H.length/\iv=.int .i64 k/\BM w wr F G W K M (balM vb y.length (vh.take k))) (fun iv _=>H.length - (intOf iv).toNat)
   case atStart=>exact⟨0,by omega,rfl,ec.o⟩
   case round=>
    obtain⟨k,hk,rfl,a5⟩:=hrel;have HM:=Hi a5;clear a5 x0 x1 x2;by_cases bj:k<H.length
    .
     obtain⟨h,ct⟩:∃h,H[k]?=some h:=⟨H[k],gE bj⟩;obtain⟨R,cu⟩:∃R,vh[k]?=some R:=⟨vh[k]'(by have:=b3.o;omega),gE (by have:=b3.o;omega)⟩;obtain⟨j,ed,ep,cv⟩:=(ei.o k h R ct cu).ex;obtain⟨fl,fm,rfl,fn,d0,d1,d2⟩:=(HF.o.h.below HM.o.base).hold ct;rw[ed] at d0;obtain⟨X,ab⟩:=nm (wr.alloc (.cells #[.int .i64 (j:Nat),.int .i64 h.w,.string h.q] 83));obtain⟨g0,ai⟩:=nm wr.heap.size;have a6:Below wr.heap.size wr X:=by rw[<-ab];exact(Below.refl _ _).alloc lZ _
     have z:=Uf ab ai;have ad:=Hi (HM.o.below a6);have eq:R<N:=by
      have:=HN.o
      split at cv<;>omega
     obtain⟨gR,bh⟩:∃g,M[R]?=some g:=⟨M[R]'(by have:=U.o;omega),gE (by have:=U.o;omega)⟩;have lR:=HM.o.lt bh;rw[ai] at lR;have m1:gR≠g0:=by omega
     have m2:=HM.o.ne R gR bh;have m3:gR≠P:=by
      have:=HM.o.los R gR bh;have:=al.o;omega
     obtain⟨bi,er⟩:=Ia bh cu;have eR:(if h.w=1 then 2*(j:Int) else 2*(j:Int)+1)=(R:Int):=by
      rw[cv]
      split<;>simp
     have ee:=Hi (fun u=>Qvi j h.w h.q u (by omega));simp only[eR] at ee;have es:=Hi (fun u (hu:Below X.heap.size X u)=>of_val (q:=1) (s:=⟨#[49]⟩) ((HG.o.below ad.o.base).below hu) one_q (by decide));obtain⟨C,hC⟩:=nm (y.length+k);have ef:C<W:=by have:=HW.o;omega
     have wC:IntKind.i64.wrap ((y.length:Int)+(k:Int))=(C:Int):=by rw[wrap_i64 _ (by omega) (by omega)];omega
     have q1:((k:Int)<(H.length:Int)):=by omega
     have iR:((R:Int)<(N:Int)):=by omega
     have iC:((C:Int)<(W:Int)):=by omega
     have av:0<K:=by omega
     obtain⟨et,ca,bl⟩:=Ib hC ab ai;clear ct cu ed ep cv ab ai a6 bh lR eR hC eq;go_wp2_with fail;rw[ca.o,bl.o];have d:=Hi ad.o.box;rw[al.o,<-a0.o] at d;have s0:=z.o.cell 0;have s1:=z.o.cell 1;have s2:=z.o.cell 2;have s3:=ad.o.cell bi.o;have s4:=d.o.cell 1;simp at s0 s1 s2 s4;have S:O (Below X.heap.size X X):=Hi bR;go_region_held3 (fun v=>v.cell? ⟨g0,0,none⟩=some (.int .i64 (j:Nat))/\v.cell? ⟨g0,1,none⟩=some (.int .i64 h.w)/\v.cell? ⟨g0,2,none⟩=some (.string h.q)/\v.cell? ⟨G,R,none⟩=some (.slice (some ⟨gR,0,none⟩) W W)/\v.cell? ⟨P,1,none⟩=some (.slice a2 y.length c2)) ((first|(simp [*];done)|go_keep)) (first
      |(
       go_at_call 83;apply cM;apply ee.o;rintro e v1 ⟨rfl,T⟩;have f:O (Below X.heap.size X v1):=Hi ((by first|exact S.o|exact S.o.drew:Below X.heap.size X _).trans (T.mono (by first|exact S.o.size|exact S.o.drew.size)));clear T S s0 s1 s2 s3 s4;have s0:=(z.o.below f.o z.o.lt).cell 0;have s1:=(z.o.below f.o z.o.lt).cell 1;have s2:=(z.o.below f.o z.o.lt).cell 2;have s3:=(ad.o.below f.o).cell bi.o;have s4:=(d.o.below f.o d.o.lt).cell 1;simp at s0 s1 s2 s4
       skip)
      |(
       go_at_call 82;apply cM;apply es.o;(first|exact f.o|exact f.o.drew);rintro e v2 ⟨⟨vn,rfl,E⟩,ae⟩;obtain⟨nq,aq,lq,dq,mq,oq,pq,rfl,E⟩:=E;have x:O (Below X.heap.size X v2):=Hi ((by first|exact f.o|exact f.o.drew:Below X.heap.size X _).trans (ae.mono (by first|exact f.o.size|exact f.o.drew.size)));have eg:O (FracV v2 (.agg #[.bool nq,.slice aq lq dq,.slice mq oq pq]) 1):=Hi ⟨nq,aq,lq,dq,mq,oq,pq,rfl,E⟩;clear E ae s0 s1 s2 s3 s4;have br:=Hi (ad.o.below x.o);have s0:=(z.o.below x.o z.o.lt).cell 0;have s1:=(z.o.below x.o z.o.lt).cell 1;have s2:=(z.o.below x.o z.o.lt).cell 2;have s3:=br.o.cell bi.o;have s4:=(d.o.below x.o d.o.lt).cell 1;simp at s0 s1 s2 s4;obtain⟨e0,e1,e2,f0,f1,f2,f3,f4,f5⟩:=br.o.at bi.o ef
       skip)
      |fail)
     obtain⟨Q,hQ⟩:=nm (set3 v2 gR C (.bool nq) (.slice aq lq dq) (.slice mq oq pq));have cs:O (BM w Q F G W K M (balM vb y.length (vh.take (k+1)))):=Hi (by
      rw[<-hQ];refine(br.o.put bi.o ef eg.o (Fits.one.mono (by omega)) av).congr (fun r c=>?_);have h:=Qly az.o er.o r c;rw[et.o] at h
      exact h)
     have an:=hQ;unfold set3 at an;rw[an];clear an hQ s0 s1 s2 s3 s4 f0 f1 f2 f3 f4 f5 br eg x d;go_wp2;go_roundw
     case rel=>exact⟨k+1,by omega,by go_num,cs.o⟩
     case measure=>simp[intOf];omega
    .
     obtain rfl:k=H.length:=by omega
     have eu:O (BM w wr F G W K M (balM vb y.length vh)):=Hi (by
      have h:=HM.o;rw[<-b3.o,List.take_length] at h
      exact h)
     clear HM;go_wp2;go_ret;exact⟨N,W,G,M,HN.o.symm,HW.o.symm,rfl,U.o,by rw[a0.o];exact eu.o⟩
end Go.Proofs.YtppkmifkpjkgpaaGreatDoor
