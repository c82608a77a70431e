import Derived.Test.YtppkmifkpjkgpaaGreatDoorC34BalC
import Derived.Test.YtppkmifkpjkgpaaGreatDoorC32RowsR
namespace Go.Proofs.YtppkmifkpjkgpaaGreatDoor
open Go.RowKit
open Go.Proofs.Tryz
set_option linter.unusedSimpArgs false
set_option linter.unusedVariables false
set_option maxHeartbeats 8000000
set_option maxRecDepth 1000000
theorem Ql0{P:Program}{e:Func}{p u v x:Tmp}{ty:Vr}(h:e.results=#[.tmp u,.tmp v,.tmp x,.cell p ty])(a:Vw)(w:Vz)(g:Nat)(t:Vr)(b:Vw)(f:Nat × Nat)(d:TypeDesc)
 (i:a.getD p undef=.pointer (some ⟨g,0,none⟩)) (j:w.heap[g]?=some (.cells b t f))
 (k:P.underlying ty=some d) (l:(match d with| .struct _| .array _ _=>true|_=>false)=true) (m:(P.info? ty).map (·.size)=some b.size):
 (results e a).run P w=.ok (.tuple #[a.getD u undef,a.getD v undef,a.getD x undef,.agg b]) w:=by
 have c:a[p]?.getD undef=.pointer (some ⟨g,0,none⟩):=by simpa using i
 simp[results,h,c,asAddr,run_loadVar_row w g t ty b f d j k l m]
theorem GM.rows{w u:Vz}{B G W K:Nat}{d:Vy}{M:Nat->Nat->Rat}(h:GM w u B G W K d M)(H:∀r c,W<=c->M r c=0):
 ∃rs:List MR,rs.length=d.length/\QMat u (some ⟨G,0,none⟩) d.length W rs/\Oks u W K rs/\(∀r,r∈ rs->∀t,t∈ r.ts->t.k<=K)/\rs.map MR.q=(List.range d.length).map M:=by
 have hex:∀r:Nat,∃m:MR,∀g,d[r]?=some g->m.a=some ⟨g,0,none⟩/\m.cap=W/\m.ts.length=W/\QBlk u g m.ts/\∀(c:Nat) (t:FE),m.ts[c]?=some t->t.q=M r c/\t.k<=K:=fun r=>by
  rcases j:d[r]? with _|g
  . exact⟨MR.none,fun g I=>by cases I⟩
  . obtain⟨us,x,s,v⟩:=h.row r g j
    exact⟨⟨some ⟨g,0,none⟩,W,us⟩,fun N C=>by cases C;exact⟨rfl,rfl,s,x,v⟩⟩
 obtain⟨f,J⟩:=Classical.axiomOfChoice hex;have n:∀r,r<d.length->∃g,d[r]?=some g/\(f r).a=some ⟨g,0,none⟩/\(f r).cap=W/\(f r).ts.length=W/\QBlk u g (f r).ts/\∀(c:Nat) (t:FE),(f r).ts[c]?=some t->t.q=M r c/\t.k<=K:=fun r j=>⟨d[r],gE j,J r _ (gE j)⟩
 have y:∀m,m∈ (List.range d.length).map f->∃r,r<d.length/\f r=m:=fun m e=>by
  obtain⟨r,j,rfl⟩:=List.mem_map.1 e;exact⟨r,List.mem_range.1 j,rfl⟩
 have l:(d.map (slRow W)).toArray.toList=((List.range d.length).map f).flatMap MR.cells:=by
  rw[Qeq,List.map_map];apply List.ext_getElem?;intro i;simp only[List.getElem?_map,Function.comp];rcases Nat.lt_or_ge i d.length with p|p
  .
   obtain⟨g,x,s,v,z,_⟩:=n i p;rw[x,List.getElem?_range p];simp[slRow,MR.val,s,v,z]
  . rw[List.getElem?_eq_none p,List.getElem?_eq_none (by simpa using p)]
    rfl
 have b:∀m,m∈ (List.range d.length).map f->QRow u m.a m.cap m.ts/\m.ts.length=W/\∀t,t∈ m.ts->t.k<=K:=fun m e=>by
  obtain⟨r,j,rfl⟩:=y m e;obtain⟨g,x,s,v,z,E,D⟩:=n r j;refine⟨?_,z,fun t A=>?_⟩
  . rw[s,v,<-z]
    exact E.row
  . obtain⟨i,p,L⟩:=List.getElem_of_mem A
    exact(D i t (by rw[<-L];exact gE p)).2
 refine⟨(List.range d.length).map f,by simp,⟨h.o.arow l (by simp),fun m e=>⟨(b m e).1,(b m e).2.1⟩⟩,fun m e=>⟨(b m e).1,(b m e).2.1,(b m e).2.2⟩,fun m e=>(b m e).2.2,?_⟩;rw[List.map_map];apply List.map_congr_left;intro r j;obtain⟨g,x,s,v,z,E,D⟩:=n r (List.mem_range.1 j);funext c
 show (f r).q c=M r c
 rcases Nat.lt_or_ge c W with F|F
 .
  obtain⟨t,A⟩:∃t,(f r).ts[c]?=some t:=⟨(f r).ts[c]'(by omega),gE (by omega)⟩;rw[MR.q_at A];exact(D c t A).1
 . rw[MR.q_beyond (by omega),H r c F]
theorem Qb8{a:List (Nat × Nat × Rat × Rat)}{vh:Vy}{nb nh:Nat}(e:a.length=nb)(f:vh.length=nh):∀r c,nb+nh<=c->balM a nb vh r c=0:=by
 intro r c g;have b:a[c]?=none:=List.getElem?_eq_none (by omega);have d:vh[c - nb]?=none:=List.getElem?_eq_none (by omega);simp only[balM,b,d]
theorem Qew(f g h:Vx)(c1 c2 c3:Nat)(a:List S2)(b:List B6)(d:List H3)(w:Vz)(k:Glob w)(l:FrRow w f g h c1 c2 c3 a b d)(m:FrSized a b d)(i:FrameFault a b d 0 0):
 Calls prog 36 #[.agg #[.slice f a.length c1,.slice g b.length c2,.slice h d.length c3]] w fun e w'=>e=.returned (.agg #[.int .i64 0,.int .i64 0])/\Below w.heap.size w w':=by
 refine(Qgp f g h c1 c2 c3 a b d w k l m).mono ?_;rintro e w' ⟨c,n,rfl,j,o⟩;obtain⟨rfl,rfl⟩:=j.inj i;exact⟨rfl,o⟩
structure FrV (n:Nat) (js:List S2) (bs:List B6) (hs:List H3) (vb:List (Nat × Nat × Rat × Rat)) (vh:Vy):Prop where
 j:js.length<=10
 b:bs.length<=24
 h:hs.length<=20
 lb:vb.length=bs.length
 lh:vh.length=hs.length
 vb:∀(i:Nat) (b:B6) (p:Nat × Nat × Rat × Rat),bs[i]?=some b->vb[i]?=some p->BarV n js b p
 vh:∀(i:Nat) (h:H3) (r:Nat),hs[i]?=some h->vh[i]?=some r->HoldV js.length h r
 n:n<=1048576
def balRows(nj:Nat)(vb:List (Nat × Nat × Rat × Rat))(nb:Nat)(vh:Vy):List Vec:=(List.range (2*nj)).map (balM vb nb vh)
theorem Qg8(i l m:Vx)(c1 c2 c3 n K:Nat)(d:List S2)(c:List B6)(f:List H3)(o:List (Nat × Nat × Rat × Rat))(vh:Vy)(w:Vz)(x:Glob w)(y:FrRow w i l m c1 c2 c3 d c f)(a:FrV n d c f o vh)(z:4*n+1+(4*n+1)+1<=K):
 Calls prog 38 #[.agg #[.slice i d.length c1,.slice l c.length c2,.slice m f.length c3]] w fun e w'=>∃(N G:Nat) (rs:List MR),N=2*d.length/\e=.returned (.slice (some ⟨G,0,none⟩) N N)/\rs.length=N/\QMat w' (some ⟨G,0,none⟩) N (c.length+f.length) rs/\Oks w' (c.length+f.length) K rs/\(∀r,r∈ rs->∀t,t∈ r.ts->t.k<=K)/\rs.map MR.q=balRows d.length o c.length vh/\Below w.heap.size w w':=by
 refine(Qlz i l m c1 c2 c3 n K d c f o vh w x y a.j a.b a.h a.lb a.lh a.vb a.vh a.n z).mono ?_;rintro e w' ⟨N,W,G,C,rfl,rfl,rfl,p,g⟩;obtain⟨rs,s,u,A,B,v⟩:=g.rows (Qb8 a.lb a.lh);rw[p] at s u v;exact⟨_,G,rs,rfl,rfl,s,u,A,B,v,g.base⟩
theorem Ql1(q r s:Vx)(c1 c2 c3 n K:Nat)(g:List S2)(d:List B6)(f:List H3)(vb:List (Nat × Nat × Rat × Rat))(vh:Vy)(w:Vz)(hg:Glob w)(hf:FrRow w q r s c1 c2 c3 g d f)(hz:FrSized g d f)(aa:FrameFault g d f 0 0)(hv:FrV n g d f vb vh)(hK:4*n+1+(4*n+1)+1<=K)(ar:4*K+1<68719476000)
 (I:Nat->List Vec->List Vec->List Nat->Prop) (hI:Going K I) (h0:I 0 (balRows g.length vb d.length vh) [] []):
 Calls prog 8 #[.agg #[.slice q g.length c1,.slice r d.length c2,.slice s f.length c3]] w fun e w'=>(∃(L S:List Vec) (hh:Vy),e=.returned (.tuple #[.int .i64 (S.length:Nat),.int .i64 ((d.length:Int)+(f.length:Int) - (S.length:Nat)),.int .i64 (2*(g.length:Int) - (S.length:Nat)),.agg #[.int .i64 0,.int .i64 0]])/\S.length<=d.length+f.length/\I (d.length+f.length) L S hh)/\Below w.heap.size w w':=by
 obtain⟨HG,HF,HZ,au,HV,HI,H0⟩:=If hg hf hz aa hv hI h0;have n1:=hv.j;have n2:=hv.b;have n3:=hv.h;clear hg hf hz aa hv hI h0;obtain⟨c,J⟩:=nm w.heap.size;obtain⟨V0,E⟩:=nm ((w.alloc (.cells #[.slice q g.length c1,.slice r d.length c2,.slice s f.length c3] 26)).alloc (.cells #[.int .i64 0,.int .i64 0] 31));have l:=Ub E;have T:=Ug E J;have U:=Uh E J;obtain⟨ab,X,ad⟩:=Ib E J (Qew q r s c1 c2 c3 g d f V0 (HG.o.below l.o) (HF.o.below l.o) HZ.o au.o);clear E J
 go_enter func8,ntmps8;go_wp2_with fail;rw[ab.o,X.o];clear ab;go_fit ad.o;rintro e w1 ⟨rfl,m⟩;have ae:=T.o.below m T.o.lt;have F:=U.o.below m U.o.lt;obtain⟨V,hV⟩:=nm ((w1.setCell ⟨c+1,0,none⟩ (.int .i64 0)).setCell ⟨c+1,1,none⟩ (.int .i64 0));have ho:Only (c+1) w1 V:=by rw[<-hV];exact((Only.refl _ _).setCell _ _).setCell _ _
 have i:O (SB V c 26 #[.slice q g.length c1,.slice r d.length c2,.slice s f.length c3]):=Hi (ae.only ho (by omega));have k:O (SB V (c+1) 31 #[.int .i64 0,.int .i64 0]):=Hi (by rw[<-hV];exact(F.set 0 _).set 1 _);have z:O (Below w.heap.size w V):=Hi ((l.o.trans (m.mono l.o.size)).trans (ho.below (by have:=X.o;omega) (l.o.trans (m.mono l.o.size)).size));obtain⟨z0,z1,-⟩:=zc F;have f0:=F.free 0;have f1:=F.free 1;obtain⟨k0,k1,-⟩:=zc k.o;have av:=Hi hV;rw[<-hV] at k0 k1;clear m ae F ho T U ad hV;go_wp2_with fail;rw[av.o];have a:=i;have H:V.cell? ⟨c,0,none⟩=some (.slice q g.length c1):=by
  have h:=a.o.cell 0
  simpa using h
 have x1:V.cell? ⟨c,1,none⟩=some (.slice r d.length c2):=by
  have h:=a.o.cell 1
  simpa using h
 have x2:V.cell? ⟨c,2,none⟩=some (.slice s f.length c3):=by
  have h:=a.o.cell 2
  simpa using h
 clear z0 z1 f0 f1 k0 k1;have t:O (Below V.heap.size V V):=Hi bR;obtain⟨Y,Z,af⟩:=Ib (fun u (hu:Below V.heap.size V u)=>Qg8 q r s c1 c2 c3 n K g d f vb vh u (HG.o.below (z.o.trans (hu.mono z.o.size))) (HF.o.below (z.o.trans (hu.mono z.o.size))) HV.o hK) (fun u=>Qgz q r s c1 c2 c3 g.length d.length f.length u n2 n3) (fun u=>Qg0 q r s c1 c2 c3 g.length d.length f.length u n1);obtain⟨W,hW⟩:=nm (d.length+f.length);obtain⟨N0,ag⟩:=nm (2*g.length);have eW:(d.length:Int)+(f.length:Int)=(W:Int):=by omega
 have eN:2*(g.length:Int)=(N0:Int):=by omega
 simp only[eW] at Z;simp only[eN] at af;rw[hW] at Y;obtain⟨ah,aw,ax,ay⟩:=Ic hW ag eW eN;have az:W<=100:=by omega
 have a0:N0<=100:=by omega
 have a4:0<K:=by omega
 clear eW eN hW ag;go_region_held3 (fun v=>v.cell? ⟨c,0,none⟩=some (.slice q g.length c1)/\v.cell? ⟨c,1,none⟩=some (.slice r d.length c2)/\v.cell? ⟨c,2,none⟩=some (.slice s f.length c3)) ((first|(simp [*];done)|go_keep)) (first
  |(
   go_at_call 38;apply cM;apply Y.o;(first|exact t.o|exact t.o.drew);rintro e P ⟨N,G,rs,hN,rfl,ai,aj,Q,_,hq,m⟩;obtain rfl:N0=N:=by rw[hN];exact aw.o.symm
   obtain⟨ak,al,R,HQ⟩:=Ic ai aj.row Q hq;clear hN ai aj Q hq;have A:O (Below V.heap.size V P):=Hi ((by first|exact t.o|exact t.o.drew:Below V.heap.size V _).trans (m.mono (by first|exact t.o.size|exact t.o.drew.size)));clear m t H x1 x2 a;have a:=Hi (i.o.below A.o i.o.lt);have H:P.cell? ⟨c,0,none⟩=some (.slice q g.length c1):=by
    have h:=a.o.cell 0
    simpa using h
   have x1:P.cell? ⟨c,1,none⟩=some (.slice r d.length c2):=by
    have h:=a.o.cell 1
    simpa using h
   have x2:P.cell? ⟨c,2,none⟩=some (.slice s f.length c3):=by
    have h:=a.o.cell 2
    simpa using h
   skip)
  |(
   go_at_call 39;apply cM;apply Z.o;rintro e v2 ⟨rfl,M⟩;(first
     |have y:O (Below P.heap.size P v2):=Hi M
     |have y:O (Below P.heap.size P v2):=Hi (bR.drew.trans M))
   have B:O (Below V.heap.size V v2):=Hi ((by first|exact A.o|exact A.o.drew:Below V.heap.size V _).trans (M.mono (by first|exact A.o.size|exact A.o.drew.size)));clear M A H x1 x2 a;have a:=Hi (i.o.below B.o i.o.lt);have H:v2.cell? ⟨c,0,none⟩=some (.slice q g.length c1):=by
    have h:=a.o.cell 0
    simpa using h
   have x1:v2.cell? ⟨c,1,none⟩=some (.slice r d.length c2):=by
    have h:=a.o.cell 1
    simpa using h
   have x2:v2.cell? ⟨c,2,none⟩=some (.slice s f.length c3):=by
    have h:=a.o.cell 2
    simpa using h
   skip)
  |(
   go_at_call 37;apply cM
   (have am:=Qvd (some ⟨G,0,none⟩) N0 W K rs v2 I HI.o (al.o.below y.o) (R.o.fr (Fr.of_below y.o)) (by rw[ak.o];omega) (by omega) a4 ar (by rw[HQ.o];exact H0.o)
    rw[ak.o] at am
    exact am)
   rintro e v3 ⟨⟨L,S,hh,rfl,a5,hi⟩,an⟩;have HJ:=Hi hi;clear hi;have x:O (Below V.heap.size V v3):=Hi ((by first|exact B.o|exact B.o.drew:Below V.heap.size V _).trans (an.mono (by first|exact B.o.size|exact B.o.drew.size)));clear an B H x1 x2 a;have a:=Hi (i.o.below x.o i.o.lt);have H:v3.cell? ⟨c,0,none⟩=some (.slice q g.length c1):=by
    have h:=a.o.cell 0
    simpa using h
   have x1:v3.cell? ⟨c,1,none⟩=some (.slice r d.length c2):=by
    have h:=a.o.cell 1
    simpa using h
   have x2:v3.cell? ⟨c,2,none⟩=some (.slice s f.length c3):=by
    have h:=a.o.cell 2
    simpa using h
   skip)
  |fail)
 have a6:IntKind.i64.wrap ((W:Int) - (S.length:Int))=(W:Int) - (S.length:Int):=wrap_i64 _ (by omega) (by omega);have a7:IntKind.i64.wrap ((N0:Int) - (S.length:Int))=(N0:Int) - (S.length:Int):=wrap_i64 _ (by omega) (by omega);have ba:=Hi (k.o.below x.o k.o.lt);clear al R HQ y Y;go_wp2_with fail;go_region_held3 (fun v=>v.cell? ⟨c,0,none⟩=some (.slice q g.length c1)/\v.cell? ⟨c,1,none⟩=some (.slice r d.length c2)/\v.cell? ⟨c,2,none⟩=some (.slice s f.length c3)) ((first|(simp [*];done)|go_keep)) (first
  |(
   go_at_call 39;apply cM;apply Z.o;rintro e v4 ⟨rfl,ao⟩;have C:O (Below V.heap.size V v4):=Hi ((by first|exact x.o|exact x.o.drew:Below V.heap.size V _).trans (ao.mono (by first|exact x.o.size|exact x.o.drew.size)));clear ao x H x1 x2 a;have a:=Hi (i.o.below C.o i.o.lt);have H:v4.cell? ⟨c,0,none⟩=some (.slice q g.length c1):=by
    have h:=a.o.cell 0
    simpa using h
   have x1:v4.cell? ⟨c,1,none⟩=some (.slice r d.length c2):=by
    have h:=a.o.cell 1
    simpa using h
   have x2:v4.cell? ⟨c,2,none⟩=some (.slice s f.length c3):=by
    have h:=a.o.cell 2
    simpa using h
   skip)
  |(
   go_at_call 40;apply cM;apply af.o;rintro e v5 ⟨rfl,ap⟩;have D:O (Below V.heap.size V v5):=Hi ((by first|exact C.o|exact C.o.drew:Below V.heap.size V _).trans (ap.mono (by first|exact C.o.size|exact C.o.drew.size)));clear ap C H x1 x2 a;have a:=Hi (i.o.below D.o i.o.lt);have H:v5.cell? ⟨c,0,none⟩=some (.slice q g.length c1):=by
    have h:=a.o.cell 0
    simpa using h
   have x1:v5.cell? ⟨c,1,none⟩=some (.slice r d.length c2):=by
    have h:=a.o.cell 1
    simpa using h
   have x2:v5.cell? ⟨c,2,none⟩=some (.slice s f.length c3):=by
    have h:=a.o.cell 2
    simpa using h
   obtain⟨y0,y1,-⟩:=zc (k.o.below D.o k.o.lt);have g0:=(k.o.below D.o k.o.lt).free 0;have g1:=(k.o.below D.o k.o.lt).free 1
   skip)
  |fail)
 obtain⟨a8,a9⟩:=Ia (k.o.below D.o k.o.lt) (z.o.trans (D.o.mono z.o.size));have aq:w.heap.size<=c+1:=by have:=X.o;omega
 clear H x1 x2 y0 y1 g0 g1 a6 a7;go_wp2;refine bodyPost_ret (Ql0 rfl _ _ (c+1) 31 #[.int .i64 0,.int .i64 0] (0,0) _ rfl ((a8.o.set 0 _).set 1 _) underlying31 rfl Tryz.faultInfo) rfl ?_;exact⟨⟨L,S,hh,by rw[ax.o,ay.o];rfl,by rw[ah.o];exact a5,by rw[ah.o];exact HJ.o⟩,(a9.o.setCell (p:=⟨c+1,0,none⟩) aq _).setCell (p:=⟨c+1,1,none⟩) aq _⟩
def LoadsFault(nj en:Nat)(ls:List L3)(c at_:Int):Prop:=
 (20<ls.length/\c=2/\at_=(en:Nat))∨
 (ls.length<=20/\((∃(k:Nat) (l:L3),ls[k]?=some l/\(∀(i:Nat) (x:L3),i<k->ls[i]?=some x->IsJ nj x.j)/\¬IsJ nj l.j/\c=4/\at_=(en:Nat)+(k:Nat))∨
 ((∀(i:Nat) (x:L3),ls[i]?=some x->IsJ nj x.j)/\c=0/\at_=0)))
theorem Qg9(A W X Y:Vx)(c1 c2 c3 Z n nb nh:Nat)(b:List L3)(w:Vz)(hl:ARow L3.cells w Y Z b)(n1:n<=10)(n2:nb<=24)(n3:nh<=20)(aa:b.length<=9223372036854775807):
 Calls prog 58 #[.agg #[.slice A n c1,.slice W nb c2,.slice X nh c3],.slice Y b.length Z] w fun e w'=>∃c D,e=.returned (.agg #[.int .i64 c,.int .i64 D])/\LoadsFault n (nb+nh) b c D/\Below w.heap.size w w':=by
 have HL:=Hi hl;clear hl;obtain⟨f,g⟩:=nm w.heap.size;obtain⟨V,B⟩:=nm ((w.alloc (.cells #[.slice A n c1,.slice W nb c2,.slice X nh c3] 26)).alloc (.cells #[.int .i64 0,.int .i64 0] 31));have d:=Ub B;have t:=Ug B g;have m:=Uh B g;obtain⟨y,E⟩:=nm (nb+nh);have ei:(nb:Int)+(nh:Int)=(y:Int):=by omega
 obtain⟨-,x1,x2,-⟩:=zc t.o;obtain⟨J,y1,-⟩:=zc m.o;have K:=m.o.free 0;have L:=m.o.free 1;rw[<-B,<-g] at x1 x2 J y1 K L;obtain⟨F,q,G⟩:=Ib B g E;have r:w.heap.size<=f+1:=by omega
 have O:y<=44:=by omega
 clear B g E;go_enter func58,ntmps58;by_cases P:20<b.length
 .
  have Q:(20:Int)<(b.length:Int):=by omega
  go_wp2;simp only[F.o,q.o,ei];refine bodyPost_ret (results_cell_row rfl _ _ (f+1) 31 #[.int .i64 2,.int .i64 (y:Int)] (0,0) _ rfl (by rw[<-q.o];exact Qan w _ _ _) underlying31 rfl Tryz.faultInfo) rfl ?_;exact⟨2,(y:Nat),rfl,.inl ⟨P,rfl,by rw[G.o]⟩,(by have:=q.o;subst this;exact Below.new2 _ _ _)⟩
 .
  have Q:¬((20:Int)<(b.length:Int)):=by omega
  go_wp2_with fail;simp only[F.o,q.o,ei];clear x1 x2 J y1 K L;go_loopw [21] (fun R wr=>∃k:Nat,k<=b.length/\R=.int .i64 k/\(∀(i:Nat) (x:L3),i<k->b[i]?=some x->IsJ n x.j)/\Below V.heap.size V wr) (fun R _=>b.length - (intOf R).toNat)
  case atStart=>exact⟨0,by omega,rfl,fun i x hi=>by omega,Below.refl _ _⟩
  case round=>
   obtain⟨k,hk,rfl,s,M⟩:=hrel;obtain⟨S,N,HX,a⟩:=Ic s M (t.o.below M t.o.lt) (m.o.below M m.o.lt);clear s M;by_cases T:k<b.length
   .
    obtain⟨l,hl⟩:∃l,b[k]?=some l:=⟨b[k],gE T⟩;obtain⟨lb,lo,rfl,ab,d0,d1,d2⟩:=(HL.o.below (d.o.trans (N.o.mono d.o.size))).load hl;obtain⟨x0,-⟩:=zc HX.o;have q1:((k:Int)<(b.length:Int)):=by omega
    have H:=Hi hl;have wE:IntKind.i64.wrap ((y:Int)+(k:Int))=(y:Int)+(k:Int):=wrap_i64 _ (by omega) (by omega);clear hl;by_cases C:IsJ n l.j
    .
     obtain⟨U,z⟩:=Ia (fun u=>Qbd A n c1 l.j u C) C;clear C;go_wp2_with fail;go_region_held3 (fun v=>v.cell? ⟨f,0,none⟩=some (.slice A n c1)/\v.cell? ⟨lb,lo+k*3,none⟩=some (.int .i64 l.j)) ((first|(simp [*];done)|go_keep)) (first
      |(
       go_at_call 99;apply cM;apply U.o
       rintro e v1 ⟨rfl,rfl⟩)
      |fail)
     go_wp2;go_roundw
     case rel=>
      refine⟨k+1,by omega,by go_num,fun i x hi I=>?_,N.o.drew⟩;rcases Nat.lt_or_ge i k with h|h
      . exact S.o i x h I
      .
       obtain rfl:i=k:=by omega
       rw[<-Option.some.inj (H.o.symm.trans I)];exact z.o
     case measure=>simp[intOf];omega
    .
     obtain⟨U,z⟩:=Ia (fun u=>Qem A n c1 l.j u C) C;obtain⟨J,y1,-⟩:=zc a.o;have K:wr.frozen? ⟨f+1,0,none⟩=false:=a.o.free 0;have L:wr.frozen? ⟨f+1,1,none⟩=false:=a.o.free 1;clear C;go_wp2_with fail;go_region_held3 (fun v=>v.cell? ⟨f,0,none⟩=some (.slice A n c1)/\v.cell? ⟨lb,lo+k*3,none⟩=some (.int .i64 l.j)) ((first|(simp [*];done)|go_keep)) (first
      |(
       go_at_call 99;apply cM;apply U.o
       rintro e v1 ⟨rfl,rfl⟩)
      |fail)
     go_wp2;refine bodyPost_ret (results_cell_row rfl _ _ (f+1) 31 #[.int .i64 (4),.int .i64 ((y:Int)+(k:Int))] (0,0) _ rfl ((a.o.set 0 _).set 1 _) underlying31 rfl Tryz.faultInfo) rfl ?_;exact⟨4,_,rfl,.inr ⟨by omega,.inl ⟨k,l,H.o,S.o,z.o,rfl,by rw[G.o]⟩⟩,(((d.o.trans (N.o.mono d.o.size)).setCell (p:=⟨f+1,0,none⟩) r _).setCell (p:=⟨f+1,1,none⟩) r _).drew⟩
   .
    obtain rfl:k=b.length:=by omega
    obtain⟨J,y1,-⟩:=zc a.o;have K:=a.o.free 0;have L:=a.o.free 1;go_wp2;refine bodyPost_ret (results_cell_row rfl _ _ (f+1) 31 #[.int .i64 (0),.int .i64 (0)] (0,0) _ rfl ((a.o.set 0 _).set 1 _) underlying31 rfl Tryz.faultInfo) rfl ?_;exact⟨0,0,rfl,.inr ⟨by omega,.inr ⟨fun i x I=>S.o i x (gZ I).1 I,rfl,rfl⟩⟩,((d.o.trans (N.o.mono d.o.size)).setCell (p:=⟨f+1,0,none⟩) r _).setCell (p:=⟨f+1,1,none⟩) r _⟩
theorem Qcq{P:Program}{q:Func}{p u:Tmp}{ty b:Vr}(h:q.results=#[.cell p ty,.cell u b])(a:Vw)(w:Vz)(g f:Nat)(t r:Vr)(i c:Vw)(s e:Nat × Nat)(d j:TypeDesc)
 (v:a.getD p undef=.pointer (some ⟨g,0,none⟩)) (x:w.heap[g]?=some (.cells i t s)) (k:a.getD u undef=.pointer (some ⟨f,0,none⟩)) (l:w.heap[f]?=some (.cells c r e))
 (y:P.underlying ty=some d) (z:(match d with| .struct _| .array _ _=>true|_=>false)=true) (A:(P.info? ty).map (·.size)=some i.size) (m:P.underlying b=some j) (n:(match j with| .struct _| .array _ _=>true|_=>false)=true) (o:(P.info? b).map (·.size)=some c.size):
 (results q a).run P w=.ok (.tuple #[.agg i,.agg c]) w:=by
 have B:a[p]?.getD undef=.pointer (some ⟨g,0,none⟩):=by simpa using v
 have C:a[u]?.getD undef=.pointer (some ⟨f,0,none⟩):=by simpa using k
 simp[results,h,B,C,asAddr,run_loadVar_row w g t ty i s d x y z A,run_loadVar_row w f r b c e j l m n o]
def CarrySays(nb nh:Nat)(M:List Vec)(b:List Rat)(w:Vz)(e:Ending)(w':Vz):Prop:=
 ((e=.returned (.tuple #[.agg #[.slice none 0 0,.slice none 0 0],.agg #[.int .i64 8,.int .i64 0]])/\∀x,¬Sol (nb+nh) M b x)∨
  (e=.returned (.tuple #[.agg #[.slice none 0 0,.slice none 0 0],.agg #[.int .i64 9,.int .i64 0]])/\∃x y,Sol (nb+nh) M b x/\Sol (nb+nh) M b y/\∃c,c<nb+nh/\x c≠y c)∨
  (∃(g1 g2:Nat) (x y:Vt) (us:List FE),e=.returned (.tuple #[.agg #[.slice (some ⟨g1,0,none⟩) nb nb,.slice (some ⟨g2,0,none⟩) nh nh],.agg #[.int .i64 0,.int .i64 0]])/\SB w' g1 54 (textsV x).toArray/\SB w' g2 54 (textsV y).toArray/\Told (us.take nb) x/\Told (us.drop nb) y/\(us.length=nb+nh/\w.heap.size<=g1/\w.heap.size<=g2)/\∀y,Sol (nb+nh) M b y↔∀(i:Nat) (t:FE),us[i]?=some t->y i=t.q))/\Below w.heap.size w w'
theorem Ql2{W K:Nat}{M:List Vec}{b:List Rat}{w w':Vz}{e:Ending}(h:Solved W K M b w e w'):∃(f:Vx) (j l:Nat) (a:Int),e=.returned (.tuple #[.slice f j l,.int .i64 a])/\Below w.heap.size w w'/\
 ((a=8/\∀x,¬Sol W M b x)∨(a=9/\∃x y,Sol W M b x/\Sol W M b y/\∃c,c<W/\x c≠y c)∨(a=0/\∃(g:Nat) (us:List FE),f=some ⟨g,0,none⟩/\j=W/\l=W/\QBlk w' g us/\us.length=W/\(∀t,t∈ us->t.k<=K)/\∀y,Sol W M b y↔∀(i:Nat) (t:FE),us[i]?=some t->y i=t.q)):=by
 obtain⟨h,d⟩:=h;rcases h with ⟨rfl,h⟩|⟨rfl,h⟩|⟨g,us,rfl,h⟩
 . exact⟨_,_,_,_,rfl,d,.inl ⟨rfl,h⟩⟩
 . exact⟨_,_,_,_,rfl,d,.inr (.inl ⟨rfl,h⟩)⟩
 . exact⟨_,_,_,_,rfl,d,.inr (.inr ⟨rfl,g,us,rfl,rfl,rfl,h⟩)⟩
theorem Qcr{u:Vz}{g a:Nat}{x1 x2 y1 y2 f h i j:Value}(c:g≠a)(s:SB u g 50 #[f,h])(k:SB u a 31 #[i,j]):
 SB ((((u.setCell ⟨g,0,none⟩ x1).setCell ⟨g,1,none⟩ x2).setCell ⟨a,0,none⟩ y1).setCell ⟨a,1,none⟩ y2) g 50 #[x1,x2]/\SB ((((u.setCell ⟨g,0,none⟩ x1).setCell ⟨g,1,none⟩ x2).setCell ⟨a,0,none⟩ y1).setCell ⟨a,1,none⟩ y2) a 31 #[y1,y2]/\
  (∀(b:Nat) (t:Vr) (C:Vw),SB u b t C->b≠g->b≠a->SB ((((u.setCell ⟨g,0,none⟩ x1).setCell ⟨g,1,none⟩ x2).setCell ⟨a,0,none⟩ y1).setCell ⟨a,1,none⟩ y2) b t C):=by
 refine⟨?_,?_,fun b t C l d e=>(((l.other d 0 x1).other d 1 x2).other e 0 y1).other e 1 y2⟩
 . have:=(((s.set 0 x1).set 1 x2).other c 0 y1).other c 1 y2
   simpa using this
 . have:=(((k.other c.symm 0 x1).other c.symm 1 x2).set 0 y1).set 1 y2
   simpa using this
theorem Ql3(M P Q al:Vx)(c1 c2 c3 cl n K:Nat)(A:List S2)(f:List B6)(z:List H3)(vb:List (Nat × Nat × Rat × Rat))(vh:Vy)(ls:List L3)(vs:List (Nat × Rat × Rat))(w:Vz)(hg:Glob w)(hf:FrRow w M P Q c1 c2 c3 A f z)(hz:FrSized A f z)(bi:FrameFault A f z 0 0)(hv:FrV n A f z vb vh)
 (hl:ARow L3.cells w al cl ls) (db:ls.length<=20) (bj:vs.length=ls.length) (bk:∀(i:Nat) (l:L3) (p:Nat × Rat × Rat),ls[i]?=some l->vs[i]?=some p->LoadV A.length l p) (az:∀k i,Fits (agn (vs.take k) i) K)
 (hK:4*n+1+(4*n+1)+1<=K) (cq:4*K+1<68719476000)
 (I:Nat->List Vec->List Vec->List Nat->Prop) (hI:Going K I) (h0:I 0 (List.zipWith (wider (f.length+z.length)) (balRows A.length vb f.length vh) ((List.range (2*A.length)).map (agn vs))) [] [])
 (a0:∀L S hh,I (f.length+z.length+1) L S hh->Ech 0 (f.length+z.length+1) S hh/\(∀x,Null (f.length+z.length+1) (List.zipWith (wider (f.length+z.length)) (balRows A.length vb f.length vh) ((List.range (2*A.length)).map (agn vs))) x↔Null (f.length+z.length+1) S x)/\clnFits K S hh):
 Calls prog 24 #[.agg #[.slice M A.length c1,.slice P f.length c2,.slice Q z.length c3],.slice al ls.length cl] w (CarrySays f.length z.length (balRows A.length vb f.length vh) ((List.range (2*A.length)).map (agn vs)) w):=by
 obtain⟨HG,HF,HZ,cr,HV,HI,H0,ai,HL⟩:=Ih hg hf hz bi hv hI h0 a0 hl;obtain⟨bl,bm,bn⟩:=Ib bj bk az;have n1:=hv.j;have n2:=hv.b;have n3:=hv.h;clear hg hf hz bi hv hI h0 a0 hl bj bk az;obtain⟨a,aj⟩:=nm w.heap.size;obtain⟨V0,Z⟩:=nm (((w.alloc (.cells #[.slice M A.length c1,.slice P f.length c2,.slice Q z.length c3] 26)).alloc (.cells #[.slice none 0 0,.slice none 0 0] 50)).alloc (.cells #[.int .i64 0,.int .i64 0] 31));have F:O (Below w.heap.size w V0):=Hi (by rw[<-Z];exact(Below.new2 w _ _).alloc (by simp;omega) _);have ak:O (SB V0 a 26 #[.slice M A.length c1,.slice P f.length c2,.slice Q z.length c3]):=Hi (by rw[<-Z,<-aj];exact((SB.new w _ _).alloc _).alloc _)
 have a6:O (SB V0 (a+1) 50 #[.slice none 0 0,.slice none 0 0]):=Hi (by rw[<-Z,<-aj];exact(Qan w _ _ _).alloc _);have a7:O (SB V0 (a+1+1) 31 #[.int .i64 0,.int .i64 0]):=Hi (by
  rw[<-Z,<-aj];have h:=Qan (w.alloc (.cells #[.slice M A.length c1,.slice P f.length c2,.slice Q z.length c3] 26)) (.cells #[.slice none 0 0,.slice none 0 0] 50) 31 #[.int .i64 0,.int .i64 0];rw[World.size_alloc] at h
  exact h)
 obtain⟨bo,cs,bp⟩:=Ib Z aj (Qew M P Q c1 c2 c3 A f z V0 (HG.o.below F.o) (HF.o.below F.o) HZ.o cr.o);have B:w.heap.size<=a+1:=by omega
 clear Z aj;go_enter func24,ntmps24;go_wp2_with fail;rw[bo.o,cs.o];clear bo;go_fit bp.o;rintro e w1 ⟨rfl,aa⟩;obtain⟨V1,am⟩:=nm (w1.alloc (.cells #[.int .i64 0,.int .i64 0] 31));have X:Below V0.heap.size V0 V1:=by rw[<-am];exact aa.alloc aa.size _
 have d:=Hi (ak.o.below X ak.o.lt);have Y:V1.cell? ⟨a,0,none⟩=some (.slice M A.length c1):=by
  have h:=d.o.cell 0
  simpa using h
 have x1:V1.cell? ⟨a,1,none⟩=some (.slice P f.length c2):=by
  have h:=d.o.cell 1
  simpa using h
 have x2:V1.cell? ⟨a,2,none⟩=some (.slice Q z.length c3):=by
  have h:=d.o.cell 2
  simpa using h
 have k0:V1.cell? ⟨w1.heap.size,0,none⟩=some (.int .i64 0):=by rw[<-am];exact(SB.new w1 _ _).cell 0
 rw[<-am] at Y x1 x2 k0;obtain⟨bq,an⟩:=Ia (F.o.trans (X.mono F.o.size)) X;obtain⟨br,bt⟩:=Ia (Qg9 M P Q al c1 c2 c3 cl A.length f.length z.length ls V1 (HL.o.below bq.o) n1 n2 n3 (by omega)) am;clear am X aa d;go_wp2_with fail;rw[bt.o];go_fit br.o;rintro e w2 ⟨c,ct,rfl,bu,R⟩;obtain⟨rfl,rfl⟩:c=0/\ct=0:=by
  rcases bu with ⟨h,_⟩|⟨_,⟨k,l,hk,_,hj,_⟩|⟨_,h1,h2⟩⟩
  . omega
  .
   obtain⟨p,hp⟩:∃p,vs[k]?=some p:=⟨vs[k]'(by have:=(gZ hk).1;have:=bl.o;omega),gE _⟩;have h:=bm.o k l p hk hp;exact absurd ⟨by rw[h.j];omega,by rw[h.j];have:=h.lt;omega⟩ hj
  . exact⟨h1,h2⟩
 obtain⟨V,hV⟩:=nm (w2.alloc (.cells #[.int .i64 0,.int .i64 0] 31));have ao:Below V0.heap.size V0 V:=an.o.trans ((show Below V1.heap.size V1 V by rw[<-hV];exact R.alloc R.size _).mono an.o.size);obtain⟨J,ab,ad,m⟩:=Ic (ak.o.below ao ak.o.lt) (a6.o.below ao a6.o.lt) (a7.o.below ao a7.o.lt) (F.o.trans (ao.mono F.o.size));have d:=J;clear Y x1 x2 k0;have Y:V.cell? ⟨a,0,none⟩=some (.slice M A.length c1):=by
  have h:=d.o.cell 0
  simpa using h
 have x1:V.cell? ⟨a,1,none⟩=some (.slice P f.length c2):=by
  have h:=d.o.cell 1
  simpa using h
 have x2:V.cell? ⟨a,2,none⟩=some (.slice Q z.length c3):=by
  have h:=d.o.cell 2
  simpa using h
 have k0:V.cell? ⟨w2.heap.size,0,none⟩=some (.int .i64 0):=by rw[<-hV];exact(SB.new w2 _ _).cell 0
 have cu:=Hi hV;rw[<-hV] at Y x1 x2 k0;clear bu R hV ao ak a6 a7 bp br bq an bt;go_wp2_with fail;rw[cu.o] at Y x1 x2 ⊢;clear k0;have U:O (Below V.heap.size V V):=Hi bR;obtain⟨a8,a9,bv⟩:=Ib (fun u (hu:Below V.heap.size V u)=>Qg8 M P Q c1 c2 c3 n K A f z vb vh u (HG.o.below (m.o.trans (hu.mono m.o.size))) (HF.o.below (m.o.trans (hu.mono m.o.size))) HV.o hK) (fun u=>Qgz M P Q c1 c2 c3 A.length f.length z.length u n2 n3) (fun u (hu:Below V.heap.size V u)=>Qvn M P Q al c1 c2 c3 cl A.length f.length z.length K ls vs u (HG.o.below (m.o.trans (hu.mono m.o.size))) (HL.o.below (m.o.trans (hu.mono m.o.size))) (by omega) n1 bl.o bm.o (by omega) (by omega) bn.o);obtain⟨W,hW⟩:=nm (f.length+z.length);obtain⟨N0,ba⟩:=nm (2*A.length)
 have eW:(f.length:Int)+(z.length:Int)=(W:Int):=by omega
 simp only[eW] at a9;rw[hW] at a8 H0 ai;rw[ba] at H0 ai;obtain⟨ae,ap⟩:=Ia hW ba;have cv:W<=100:=by omega
 have cw:N0<=100:=by omega
 have cx:0<K:=by omega
 clear eW hW ba;go_region_held3 (fun v=>v.cell? ⟨a,0,none⟩=some (.slice M A.length c1)/\v.cell? ⟨a,1,none⟩=some (.slice P f.length c2)/\v.cell? ⟨a,2,none⟩=some (.slice Q z.length c3)) ((first|(simp [*];done)|go_keep)) (first
  |(
   go_at_call 38;apply cM;apply a8.o;(first|exact U.o|exact U.o.drew);rintro e v1 ⟨N,G,rs,hN,rfl,bw,bx,bz,b0,hq,aa⟩;obtain rfl:N0=N:=by rw[hN];exact ap.o.symm
   obtain⟨bb,b1,b2,HQ⟩:=Ic bw bx b0 hq;clear hN bw bx bz b0 hq;have af:O (Below V.heap.size V v1):=Hi ((by first|exact U.o|exact U.o.drew:Below V.heap.size V _).trans (aa.mono (by first|exact U.o.size|exact U.o.drew.size)));clear aa U Y x1 x2 d;have d:=Hi (J.o.below af.o J.o.lt);have Y:v1.cell? ⟨a,0,none⟩=some (.slice M A.length c1):=by
    have h:=d.o.cell 0
    simpa using h
   have x1:v1.cell? ⟨a,1,none⟩=some (.slice P f.length c2):=by
    have h:=d.o.cell 1
    simpa using h
   have x2:v1.cell? ⟨a,2,none⟩=some (.slice Q z.length c3):=by
    have h:=d.o.cell 2
    simpa using h
   skip)
  |(
   go_at_call 39;apply cM;apply a9.o;rintro e v2 ⟨rfl,R⟩;(first
     |have H:O (Below v1.heap.size v1 v2):=Hi R
     |have H:O (Below v1.heap.size v1 v2):=Hi (bR.drew.trans R))
   have T:O (Below V.heap.size V v2):=Hi ((by first|exact af.o|exact af.o.drew:Below V.heap.size V _).trans (R.mono (by first|exact af.o.size|exact af.o.drew.size)));clear R af Y x1 x2 d;have d:=Hi (J.o.below T.o J.o.lt);have Y:v2.cell? ⟨a,0,none⟩=some (.slice M A.length c1):=by
    have h:=d.o.cell 0
    simpa using h
   have x1:v2.cell? ⟨a,1,none⟩=some (.slice P f.length c2):=by
    have h:=d.o.cell 1
    simpa using h
   have x2:v2.cell? ⟨a,2,none⟩=some (.slice Q z.length c3):=by
    have h:=d.o.cell 2
    simpa using h
   skip)
  |(
   go_at_call 60;apply cM;apply bv.o;(first|exact T.o|exact T.o.drew);rintro e v3 ⟨⟨ga,Na,ua,b3,rfl,b4,b5,ag⟩,ay⟩;obtain rfl:N0=Na:=by rw[b3];exact ap.o.symm
   (first
     |have aq:O (Below v1.heap.size v1 v3):=Hi (H.o.trans (ay.mono H.o.size))
     |have aq:O (Below v1.heap.size v1 v3):=Hi (H.o.trans (((bR.drew).trans ay).mono H.o.size)))
   obtain⟨b6,ar,bc⟩:=Ib b4 b5 ag;clear b3 b4 b5 ag;have ah:O (Below V.heap.size V v3):=Hi ((by first|exact T.o|exact T.o.drew:Below V.heap.size V _).trans (ay.mono (by first|exact T.o.size|exact T.o.drew.size)));clear ay T Y x1 x2 d;have d:=Hi (J.o.below ah.o J.o.lt);have Y:v3.cell? ⟨a,0,none⟩=some (.slice M A.length c1):=by
    have h:=d.o.cell 0
    simpa using h
   have x1:v3.cell? ⟨a,1,none⟩=some (.slice P f.length c2):=by
    have h:=d.o.cell 1
    simpa using h
   have x2:v3.cell? ⟨a,2,none⟩=some (.slice Q z.length c3):=by
    have h:=d.o.cell 2
    simpa using h
   skip)
  |(
   go_at_call 59;apply cM
   (have ag:ua.map (·.q)=(List.range N0).map (agn vs):=by
     apply List.ext_getElem?;intro i;simp only[List.getElem?_map];rcases Nat.lt_or_ge i N0 with hi|hi
     .
      obtain⟨t,ht⟩:∃t,ua[i]?=some t:=⟨ua[i]'(by rw[ar.o];exact hi),gE _⟩;rw[ht,List.getElem?_range hi];simp[(bc.o i t ht).1]
     . rw[List.getElem?_eq_none (by rw[ar.o];exact hi),List.getElem?_eq_none (by simpa using hi)]
       rfl
    have b7:=Qve (some ⟨G,0,none⟩) (some ⟨ga,0,none⟩) N0 N0 W K rs ua v3 I HI.o (b1.o.below aq.o) b2.o (by have h:=b6.o.row;rw[ar.o] at h;exact h) (fun t ht=>by obtain⟨i,hi,he⟩:=List.getElem_of_mem ht;exact(bc.o i t (by rw[<-he];exact gE hi)).2) (by rw[ar.o,bb.o]) (by rw[bb.o];omega) (by omega) cx cq (by rw[HQ.o,ag];exact H0.o) (by rw[HQ.o,ag];exact ai.o);rw[bb.o,HQ.o,ag] at b7
    exact b7)
   rintro e v4 au;obtain⟨ra,rn,rc,ev,rfl,b8,a4⟩:=Ql2 au;have b9:=Hi a4;clear a4 au;have C:O (Below V.heap.size V v4):=Hi ((by first|exact ah.o|exact ah.o.drew:Below V.heap.size V _).trans (b8.mono (by first|exact ah.o.size|exact ah.o.drew.size)));clear b8 ah Y x1 x2 d;have d:=Hi (J.o.below C.o J.o.lt);have Y:v4.cell? ⟨a,0,none⟩=some (.slice M A.length c1):=by
    have h:=d.o.cell 0
    simpa using h
   have x1:v4.cell? ⟨a,1,none⟩=some (.slice P f.length c2):=by
    have h:=d.o.cell 1
    simpa using h
   have x2:v4.cell? ⟨a,2,none⟩=some (.slice Q z.length c3):=by
    have h:=d.o.cell 2
    simpa using h
   skip)
  |fail)
 clear b1 b2 HQ b6 ar bc H aq a8 a9 bv;rcases b9.o with ⟨rfl,cy⟩|⟨rfl,bd⟩|⟨rfl,g,us,cz,c0,c4,ca,be,cb,a5⟩
 .
  obtain⟨r,s⟩:=Ia (ab.o.below C.o ab.o.lt) (ad.o.below C.o ad.o.lt);obtain⟨y0,y1,-⟩:=zc r.o;obtain⟨y2,y3,-⟩:=zc s.o;have cc:v4.frozen? ⟨a+1,0,none⟩=false:=r.o.free 0;have cd:v4.frozen? ⟨a+1,1,none⟩=false:=r.o.free 1;have ce:v4.frozen? ⟨a+1+1,0,none⟩=false:=s.o.free 0;have cf:v4.frozen? ⟨a+1+1,1,none⟩=false:=s.o.free 1;have av:=Hi (m.o.trans ((C.o).mono m.o.size));go_wp2;have E:=Qcr (x1:=.slice none 0 0) (x2:=.slice none 0 0) (y1:=.int .i64 8) (y2:=.int .i64 0) (by omega:a+1≠a+1+1) r.o s.o
  refine bodyPost_ret (Qcq rfl _ _ (a+1) (a+1+1) 50 31 #[.slice none 0 0,.slice none 0 0] #[.int .i64 8,.int .i64 0] (0,0) (0,0) _ _ rfl E.1 rfl E.2.1 underlying50 rfl Tryz.stressInfo underlying31 rfl Tryz.faultInfo) rfl ?_;have D:=(((av.o.setCell (p:=⟨a+1,0,none⟩) B (.slice none 0 0)).setCell (p:=⟨a+1,1,none⟩) B (.slice none 0 0)).setCell (p:=⟨a+1+1,0,none⟩) (Nat.le_succ_of_le B) (.int .i64 8)).setCell (p:=⟨a+1+1,1,none⟩) (Nat.le_succ_of_le B) (.int .i64 0);exact⟨.inl ⟨rfl,by rw[ae.o,ap.o];exact cy⟩,D⟩
 .
  obtain⟨r,s⟩:=Ia (ab.o.below C.o ab.o.lt) (ad.o.below C.o ad.o.lt);obtain⟨y0,y1,-⟩:=zc r.o;obtain⟨y2,y3,-⟩:=zc s.o;have cc:v4.frozen? ⟨a+1,0,none⟩=false:=r.o.free 0;have cd:v4.frozen? ⟨a+1,1,none⟩=false:=r.o.free 1;have ce:v4.frozen? ⟨a+1+1,0,none⟩=false:=s.o.free 0;have cf:v4.frozen? ⟨a+1+1,1,none⟩=false:=s.o.free 1;have av:=Hi (m.o.trans ((C.o).mono m.o.size));go_wp2;have E:=Qcr (x1:=.slice none 0 0) (x2:=.slice none 0 0) (y1:=.int .i64 9) (y2:=.int .i64 0) (by omega:a+1≠a+1+1) r.o s.o
  refine bodyPost_ret (Qcq rfl _ _ (a+1) (a+1+1) 50 31 #[.slice none 0 0,.slice none 0 0] #[.int .i64 9,.int .i64 0] (0,0) (0,0) _ _ rfl E.1 rfl E.2.1 underlying50 rfl Tryz.stressInfo underlying31 rfl Tryz.faultInfo) rfl ?_;have D:=(((av.o.setCell (p:=⟨a+1,0,none⟩) B (.slice none 0 0)).setCell (p:=⟨a+1,1,none⟩) B (.slice none 0 0)).setCell (p:=⟨a+1+1,0,none⟩) (Nat.le_succ_of_le B) (.int .i64 9)).setCell (p:=⟨a+1+1,1,none⟩) (Nat.le_succ_of_le B) (.int .i64 0);exact⟨.inr (.inl ⟨rfl,by rw[ae.o,ap.o];exact bd⟩),D⟩
 .
  subst cz;have cg:=c0.symm;subst cg;have ch:=c4.symm;subst ch;have c5:K<=274877906944:=by omega
  have aw:=Qvm (.slice M A.length c1) (.slice Q z.length c3) P c2 f.length g 0 us.length K us v4 (HG.o.below (m.o.trans (C.o.mono m.o.size))) ca.row cb c5 (by omega) (by have:=ae.o;omega) (by omega) rfl rfl;rw[be] at aw;obtain⟨aw,ci,c6⟩:=Ib aw a5 be;clear ca be cb a5;go_wp2_with fail;go_fit aw.o;rintro e v5 ⟨⟨g1,g2,x,y,rfl,hx,hy,cj,ck,cm,cn⟩,cp⟩;have c7:O (w.heap.size<=g1/\w.heap.size<=g2):=Hi ⟨Nat.le_trans (Nat.le_trans m.o.size C.o.size) cm,Nat.le_trans (Nat.le_trans m.o.size C.o.size) cn⟩;obtain⟨nh,ax⟩:=nm (W - f.length);rw[ax];have bf:=Hi (C.o.trans (cp.mono C.o.size));obtain⟨r,s⟩:=Ia (ab.o.below bf.o ab.o.lt) (ad.o.below bf.o ad.o.lt);obtain⟨y0,-⟩:=zc r.o
  obtain⟨-,y1,-⟩:=zc r.o;obtain⟨y2,y3,-⟩:=zc s.o;have cc:v5.frozen? ⟨a+1,0,none⟩=false:=r.o.free 0;have cd:v5.frozen? ⟨a+1,1,none⟩=false:=r.o.free 1;have ce:v5.frozen? ⟨a+1+1,0,none⟩=false:=s.o.free 0;have cf:v5.frozen? ⟨a+1+1,1,none⟩=false:=s.o.free 1;obtain⟨av,c8,bg,bh,c9,da⟩:=Ie (m.o.trans ((bf.o).mono m.o.size)) ax hx hy cj ck;clear hx hy cj ck cm cn cp ax aw Y x1 x2;go_wp2;have E:=Qcr (x1:=.slice (some ⟨g1,0,none⟩) f.length f.length) (x2:=.slice (some ⟨g2,0,none⟩) nh nh) (y1:=.int .i64 0) (y2:=.int .i64 0) (by omega:a+1≠a+1+1) r.o s.o
  refine bodyPost_ret (Qcq rfl _ _ (a+1) (a+1+1) 50 31 #[.slice (some ⟨g1,0,none⟩) f.length f.length,.slice (some ⟨g2,0,none⟩) nh nh] #[.int .i64 0,.int .i64 0] (0,0) (0,0) _ _ rfl E.1 rfl E.2.1 underlying50 rfl Tryz.stressInfo underlying31 rfl Tryz.faultInfo) rfl ?_;have D:=(((av.o.setCell (p:=⟨a+1,0,none⟩) B (.slice (some ⟨g1,0,none⟩) f.length f.length)).setCell (p:=⟨a+1,1,none⟩) B (.slice (some ⟨g2,0,none⟩) nh nh)).setCell (p:=⟨a+1+1,0,none⟩) (Nat.le_succ_of_le B) (.int .i64 0)).setCell (p:=⟨a+1+1,1,none⟩) (Nat.le_succ_of_le B) (.int .i64 0);have ax:nh=z.length:=by
   have h1:=ae.o;have h2:=c8.o;omega
  subst ax;refine⟨.inr (.inr ⟨g1,g2,x,y,us,rfl,E.2.2 _ _ _ bg.o (bg.o.unlike r.o (by decide)) (bg.o.unlike s.o (by decide)),E.2.2 _ _ _ bh.o (bh.o.unlike r.o (by decide)) (bh.o.unlike s.o (by decide)),c9.o,da.o,⟨by rw[ae.o];exact c6.o,c7.o⟩,by rw[ae.o,ap.o];exact ci.o⟩),D⟩
end Go.Proofs.YtppkmifkpjkgpaaGreatDoor
