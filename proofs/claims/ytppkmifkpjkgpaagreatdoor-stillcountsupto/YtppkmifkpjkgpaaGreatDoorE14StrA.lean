import Derived.Test.YtppkmifkpjkgpaaGreatDoorE13BalF
import Derived.BigRegion
import Derived.Test.YtppkmifkpjkgpaaGreatDoorE11LawRC
import Derived.Test.YtppkmifkpjkgpaaGreatDoorCards
import Derived.Test.YtppkmifkpjkgpaaGreatDoorTie
import Derived.Deep.DeepHandedRow
namespace Go.Proofs.YtppkmifkpjkgpaaGreatDoor
open Go.RowKit
open Go.Proofs.Tryz
set_option linter.unusedSimpArgs false
set_option linter.unusedVariables false
set_option maxHeartbeats 8000000
set_option maxRecDepth 1000000
theorem Qex{P:Program}{q:Func}{p u:Tmp}{ty b:Vr}(h:q.results=#[.cell p ty,.cell u b])(a:Vw)(w:Vz)(g f:Nat)(t r:Vr)(i c:Vw)(s e:Nat × Nat)(d j:TypeDesc)
 (v:a.getD p undef=.pointer (some ⟨g,0,none⟩)) (x:w.heap[g]?=some (.cells i t s)) (k:a.getD u undef=.pointer (some ⟨f,0,none⟩)) (l:w.heap[f]?=some (.cells c r e))
 (y:P.underlying ty=some d) (z:(match d with| .struct _| .array _ _=>true|_=>false)=true) (A:(P.info? ty).map (·.size)=some i.size) (m:P.underlying b=some j) (n:(match j with| .struct _| .array _ _=>true|_=>false)=true) (o:(P.info? b).map (·.size)=some c.size):
 (results q a).run P w=.ok (.tuple #[.agg i,.agg c]) w:=by
 have B:a[p]?.getD undef=.pointer (some ⟨g,0,none⟩):=by simpa using v
 have C:a[u]?.getD undef=.pointer (some ⟨f,0,none⟩):=by simpa using k
 simp[results,h,B,C,asAddr,run_loadVar_row w g t ty i s d x y z A,run_loadVar_row w f r b c e j l m n o]
def CarrySays(nb nh:Nat)(M:List Vec)(b:List Rat)(w:Vz)(e:Ending)(w':Vz):Prop:=
 ((e=.returned (.tuple #[.agg #[.slice none 0 0,.slice none 0 0],.agg #[.int .i64 8,.int .i64 0]])/\∀x,¬Sol (nb+nh) M b x)∨
  (e=.returned (.tuple #[.agg #[.slice none 0 0,.slice none 0 0],.agg #[.int .i64 9,.int .i64 0]])/\∃x y,Sol (nb+nh) M b x/\Sol (nb+nh) M b y/\∃c,c<nb+nh/\x c≠y c)∨
  (∃(g1 g2:Nat) (x y:Vt) (us:List FE),e=.returned (.tuple #[.agg #[.slice (some ⟨g1,0,none⟩) nb nb,.slice (some ⟨g2,0,none⟩) nh nh],.agg #[.int .i64 0,.int .i64 0]])/\SB w' g1 54 (textsV x).toArray/\SB w' g2 54 (textsV y).toArray/\Told (us.take nb) x/\Told (us.drop nb) y/\(us.length=nb+nh/\w.heap.size<=g1/\w.heap.size<=g2)/\∀y,Sol (nb+nh) M b y↔∀(i:Nat) (t:FE),us[i]?=some t->y i=t.q))/\Below w.heap.size w w'
theorem Qmi{W K:Nat}{M:List Vec}{b:List Rat}{w w':Vz}{e:Ending}(h:Solved W K M b w e w'):∃(f:Vx) (j l:Nat) (a:Int),e=.returned (.tuple #[.slice f j l,.int .i64 a])/\Below w.heap.size w w'/\
 ((a=8/\∀x,¬Sol W M b x)∨(a=9/\∃x y,Sol W M b x/\Sol W M b y/\∃c,c<W/\x c≠y c)∨(a=0/\∃(g:Nat) (us:List FE),f=some ⟨g,0,none⟩/\j=W/\l=W/\QBlk w' g us/\us.length=W/\(∀t,t∈ us->t.k<=K)/\∀y,Sol W M b y↔∀(i:Nat) (t:FE),us[i]?=some t->y i=t.q)):=by
 obtain⟨h,d⟩:=h;rcases h with ⟨rfl,h⟩|⟨rfl,h⟩|⟨g,us,rfl,h⟩
 . exact⟨_,_,_,_,rfl,d,.inl ⟨rfl,h⟩⟩
 . exact⟨_,_,_,_,rfl,d,.inr (.inl ⟨rfl,h⟩)⟩
 . exact⟨_,_,_,_,rfl,d,.inr (.inr ⟨rfl,g,us,rfl,rfl,rfl,h⟩)⟩
theorem Qey{u:Vz}{g a:Nat}{x1 x2 y1 y2 f h i j:Value}(c:g≠a)(s:SB u g 50 #[f,h])(k:SB u a 31 #[i,j]):
 SB ((((u.setCell ⟨g,0,none⟩ x1).setCell ⟨g,1,none⟩ x2).setCell ⟨a,0,none⟩ y1).setCell ⟨a,1,none⟩ y2) g 50 #[x1,x2]/\SB ((((u.setCell ⟨g,0,none⟩ x1).setCell ⟨g,1,none⟩ x2).setCell ⟨a,0,none⟩ y1).setCell ⟨a,1,none⟩ y2) a 31 #[y1,y2]/\
  (∀(b:Nat) (t:Vr) (C:Vw),SB u b t C->b≠g->b≠a->SB ((((u.setCell ⟨g,0,none⟩ x1).setCell ⟨g,1,none⟩ x2).setCell ⟨a,0,none⟩ y1).setCell ⟨a,1,none⟩ y2) b t C):=by
 refine⟨?_,?_,fun b t C l d e=>(((l.other d 0 x1).other d 1 x2).other e 0 y1).other e 1 y2⟩
 . have:=(((s.set 0 x1).set 1 x2).other c 0 y1).other c 1 y2
   simpa using this
 . have:=(((k.other c.symm 0 x1).other c.symm 1 x2).set 0 y1).set 1 y2
   simpa using this
theorem Qmj(J M P al:Vx)(c1 c2 c3 cl n K:Nat)(z:List S2)(f:List B6)(hs:List H3)(vb:List (Nat × Nat × Rat × Rat))(vh:Vy)(ls:List L3)(vs:List (Nat × Rat × Rat))(w:Vz)(hg:Glob w)(hf:FrRow w J M P c1 c2 c3 z f hs)(hz:FrSized z f hs)(bh:FrameFault z f hs 0 0)(hv:FrV n z f hs vb vh)
 (hl:ARow L3.cells w al cl ls) (da:ls.length<=20) (bi:vs.length=ls.length) (bj:∀(i:Nat) (l:L3) (p:Nat × Rat × Rat),ls[i]?=some l->vs[i]?=some p->LoadV z.length l p) (ay:∀k i,Fits (agn (vs.take k) i) K)
 (hK:4*n+1+(4*n+1)+1<=K) (cp:4*K+1<68719476000)
 (I:Nat->List Vec->List Vec->List Nat->Prop) (hI:Going K I) (h0:I 0 (List.zipWith (wider (f.length+hs.length)) (balRows z.length vb f.length vh) ((List.range (2*z.length)).map (agn vs))) [] [])
 (az:∀L S hh,I (f.length+hs.length+1) L S hh->Ech 0 (f.length+hs.length+1) S hh/\(∀x,Null (f.length+hs.length+1) (List.zipWith (wider (f.length+hs.length)) (balRows z.length vb f.length vh) ((List.range (2*z.length)).map (agn vs))) x↔Null (f.length+hs.length+1) S x)/\clnFits K S hh):
 Calls prog 24 #[.agg #[.slice J z.length c1,.slice M f.length c2,.slice P hs.length c3],.slice al ls.length cl] w (CarrySays f.length hs.length (balRows z.length vb f.length vh) ((List.range (2*z.length)).map (agn vs)) w):=by
 obtain⟨HG,HF,HZ,cq,HV,HI,H0,ah,HL⟩:=Ih hg hf hz bh hv hI h0 az hl;obtain⟨bk,bl,bm⟩:=Ib bi bj ay;have n1:=hv.j;have n2:=hv.b;have n3:=hv.h;clear hg hf hz bh hv hI h0 az hl bi bj ay;obtain⟨d,ai⟩:=nm w.heap.size;obtain⟨V0,Y⟩:=nm (((w.alloc (.cells #[.slice J z.length c1,.slice M f.length c2,.slice P hs.length c3] 26)).alloc (.cells #[.slice none 0 0,.slice none 0 0] 50)).alloc (.cells #[.int .i64 0,.int .i64 0] 31));have E:O (Bl w V0):=Hi (by rw[<-Y];exact(Below.new2 w _ _).alloc (by simp;omega) _);have aj:O (SB V0 d 26 #[.slice J z.length c1,.slice M f.length c2,.slice P hs.length c3]):=Hi (by rw[<-Y,<-ai];exact((SB.new w _ _).alloc _).alloc _)
 have a5:O (SB V0 (d+1) 50 #[.slice none 0 0,.slice none 0 0]):=Hi (by rw[<-Y,<-ai];exact(Qa1 w _ _ _).alloc _);have a6:O (SB V0 (d+1+1) 31 #[.int .i64 0,.int .i64 0]):=Hi (by
  rw[<-Y,<-ai];have h:=Qa1 (w.alloc (.cells #[.slice J z.length c1,.slice M f.length c2,.slice P hs.length c3] 26)) (.cells #[.slice none 0 0,.slice none 0 0] 50) 31 #[.int .i64 0,.int .i64 0];rw[World.size_alloc] at h
  exact h)
 obtain⟨bn,cr,bo⟩:=Ib Y ai (Qdr J M P c1 c2 c3 z f hs V0 (HG.o.below E.o) (HF.o.below E.o) HZ.o cq.o);have A:w.heap.size<=d+1:=by omega
 clear Y ai;go_enter func24,ntmps24;go_wp2_with fail;rw[bn.o,cr.o];clear bn;go_fit bo.o;rintro e w1 ⟨rfl,Z⟩;obtain⟨V1,ak⟩:=nm (w1.alloc (.cells #[.int .i64 0,.int .i64 0] 31));have U:Bl V0 V1:=by rw[<-ak];exact Z.alloc Z.size _
 have a:=Hi (aj.o.below U aj.o.lt);have X:V1.cell? ⟨d,0,none⟩=some (.slice J z.length c1):=by
  have h:=a.o.cell 0
  simpa using h
 have x1:V1.cell? ⟨d,1,none⟩=some (.slice M f.length c2):=by
  have h:=a.o.cell 1
  simpa using h
 have x2:V1.cell? ⟨d,2,none⟩=some (.slice P hs.length c3):=by
  have h:=a.o.cell 2
  simpa using h
 have k0:V1.cell? ⟨w1.heap.size,0,none⟩=some (.int .i64 0):=by rw[<-ak];exact(SB.new w1 _ _).cell 0
 rw[<-ak] at X x1 x2 k0;obtain⟨bp,am⟩:=Ia (E.o.trans (U.mono E.o.size)) U;obtain⟨bq,br⟩:=Ia (Qmh J M P al c1 c2 c3 cl z.length f.length hs.length ls V1 (HL.o.below bp.o) n1 n2 n3 (by omega)) ak;clear ak U Z a;go_wp2_with fail;rw[br.o];go_fit bq.o;rintro e w2 ⟨c,cs,rfl,bt,Q⟩;obtain⟨rfl,rfl⟩:c=0/\cs=0:=by
  rcases bt with ⟨h,_⟩|⟨_,⟨k,l,hk,_,hj,_⟩|⟨_,h1,h2⟩⟩
  . omega
  .
   obtain⟨p,hp⟩:∃p,vs[k]?=some p:=⟨vs[k]'(by have:=(gZ hk).1;have:=bk.o;omega),gE _⟩;have h:=bl.o k l p hk hp;exact absurd ⟨by rw[h.j];omega,by rw[h.j];have:=h.lt;omega⟩ hj
  . exact⟨h1,h2⟩
 obtain⟨V,hV⟩:=nm (w2.alloc (.cells #[.int .i64 0,.int .i64 0] 31));have an:=am.o.trans ((show Below V1.heap.size V1 V by rw[<-hV];exact Q.alloc Q.size _).mono am.o.size);obtain⟨H,aa,ab,m⟩:=Ic (aj.o.below an aj.o.lt) (a5.o.below an a5.o.lt) (a6.o.below an a6.o.lt) (E.o.trans (an.mono E.o.size));have a:=H;clear X x1 x2 k0;have X:V.cell? ⟨d,0,none⟩=some (.slice J z.length c1):=by
  have h:=a.o.cell 0
  simpa using h
 have x1:V.cell? ⟨d,1,none⟩=some (.slice M f.length c2):=by
  have h:=a.o.cell 1
  simpa using h
 have x2:V.cell? ⟨d,2,none⟩=some (.slice P hs.length c3):=by
  have h:=a.o.cell 2
  simpa using h
 have k0:V.cell? ⟨w2.heap.size,0,none⟩=some (.int .i64 0):=by rw[<-hV];exact(SB.new w2 _ _).cell 0
 have ct:=Hi hV;rw[<-hV] at X x1 x2 k0;clear bt Q hV an aj a5 a6 bo bq bp am br;go_wp2_with fail;rw[ct.o] at X x1 x2 ⊢;clear k0;have T:O (Bl V V):=Hi bR;obtain⟨a7,a8,bu⟩:=Ib (fun u (hu:Bl V u)=>Qds J M P c1 c2 c3 n K z f hs vb vh u (HG.o.below (m.o.trans (hu.mono m.o.size))) (HF.o.below (m.o.trans (hu.mono m.o.size))) HV.o hK) (fun u=>Qdm J M P c1 c2 c3 z.length f.length hs.length u n2 n3) (fun u (hu:Bl V u)=>Qwi J M P al c1 c2 c3 cl z.length f.length hs.length K ls vs u (HG.o.below (m.o.trans (hu.mono m.o.size))) (HL.o.below (m.o.trans (hu.mono m.o.size))) (by omega) n1 bk.o bl.o (by omega) (by omega) bm.o);obtain⟨W,hW⟩:=nm (f.length+hs.length);obtain⟨N0,a9⟩:=nm (2*z.length)
 have eW:(f.length:Int)+(hs.length:Int)=(W:Int):=by omega
 simp only[eW] at a8;rw[hW] at a7 H0 ah;rw[a9] at H0 ah;obtain⟨ad,ao⟩:=Ia hW a9;have cu:W<=100:=by omega
 have cv:N0<=100:=by omega
 have cw:0<K:=by omega
 clear eW hW a9;go_region_held3 (fun v=>v.cell? ⟨d,0,none⟩=some (.slice J z.length c1)/\v.cell? ⟨d,1,none⟩=some (.slice M f.length c2)/\v.cell? ⟨d,2,none⟩=some (.slice P hs.length c3)) ((first|(simp [*];done)|go_keep)) (first
  |(
   go_at_call 38;apply cM;apply a7.o;(first|exact T.o|exact T.o.drew);rintro e v1 ⟨N,G,rs,hN,rfl,bv,bw,bx,bz,hq,Z⟩;obtain rfl:N0=N:=by rw[hN];exact ao.o.symm
   obtain⟨ba,b0,b1,HQ⟩:=Ic bv bw bz hq;clear hN bv bw bx bz hq;have ae:=Hi ((by first|exact T.o|exact T.o.drew:Bl V _).trans (Z.mono (by first|exact T.o.size|exact T.o.drew.size)));clear Z T X x1 x2 a;have a:=Hi (H.o.below ae.o H.o.lt);have X:v1.cell? ⟨d,0,none⟩=some (.slice J z.length c1):=by
    have h:=a.o.cell 0
    simpa using h
   have x1:v1.cell? ⟨d,1,none⟩=some (.slice M f.length c2):=by
    have h:=a.o.cell 1
    simpa using h
   have x2:v1.cell? ⟨d,2,none⟩=some (.slice P hs.length c3):=by
    have h:=a.o.cell 2
    simpa using h
   skip)
  |(
   go_at_call 39;apply cM;apply a8.o;rintro e v2 ⟨rfl,Q⟩;(first
     |have F:=Hi Q
     |have F:O (Bl v1 v2):=Hi (bR.drew.trans Q))
   have R:=Hi ((by first|exact ae.o|exact ae.o.drew:Bl V _).trans (Q.mono (by first|exact ae.o.size|exact ae.o.drew.size)));clear Q ae X x1 x2 a;have a:=Hi (H.o.below R.o H.o.lt);have X:v2.cell? ⟨d,0,none⟩=some (.slice J z.length c1):=by
    have h:=a.o.cell 0
    simpa using h
   have x1:v2.cell? ⟨d,1,none⟩=some (.slice M f.length c2):=by
    have h:=a.o.cell 1
    simpa using h
   have x2:v2.cell? ⟨d,2,none⟩=some (.slice P hs.length c3):=by
    have h:=a.o.cell 2
    simpa using h
   skip)
  |(
   go_at_call 60;apply cM;apply bu.o;(first|exact R.o|exact R.o.drew);rintro e v3 ⟨⟨ga,Na,ua,b2,rfl,b3,b4,af⟩,ax⟩;obtain rfl:N0=Na:=by rw[b2];exact ao.o.symm
   (first
     |have ap:=Hi (F.o.trans (ax.mono F.o.size))
     |have ap:O (Bl v1 v3):=Hi (F.o.trans (((bR.drew).trans ax).mono F.o.size)))
   obtain⟨b5,aq,bb⟩:=Ib b3 b4 af;clear b2 b3 b4 af;have ag:=Hi ((by first|exact R.o|exact R.o.drew:Bl V _).trans (ax.mono (by first|exact R.o.size|exact R.o.drew.size)));clear ax R X x1 x2 a;have a:=Hi (H.o.below ag.o H.o.lt);have X:v3.cell? ⟨d,0,none⟩=some (.slice J z.length c1):=by
    have h:=a.o.cell 0
    simpa using h
   have x1:v3.cell? ⟨d,1,none⟩=some (.slice M f.length c2):=by
    have h:=a.o.cell 1
    simpa using h
   have x2:v3.cell? ⟨d,2,none⟩=some (.slice P hs.length c3):=by
    have h:=a.o.cell 2
    simpa using h
   skip)
  |(
   go_at_call 59;apply cM
   (have af:ua.map (·.q)=(List.range N0).map (agn vs):=by
     apply List.ext_getElem?;intro i;simp only[List.getElem?_map];rcases Nat.lt_or_ge i N0 with hi|hi
     .
      obtain⟨t,ht⟩:∃t,ua[i]?=some t:=⟨ua[i]'(by rw[aq.o];exact hi),gE _⟩;rw[ht,List.getElem?_range hi];simp[(bb.o i t ht).1]
     . rw[List.getElem?_eq_none (by rw[aq.o];exact hi),List.getElem?_eq_none (by simpa using hi)]
       rfl
    have b6:=Qv7 (some ⟨G,0,none⟩) (some ⟨ga,0,none⟩) N0 N0 W K rs ua v3 I HI.o (b0.o.below ap.o) b1.o (by have h:=b5.o.row;rw[aq.o] at h;exact h) (fun t ht=>by obtain⟨i,hi,he⟩:=List.getElem_of_mem ht;exact(bb.o i t (by rw[<-he];exact gE hi)).2) (by rw[aq.o,ba.o]) (by rw[ba.o];omega) (by omega) cw cp (by rw[HQ.o,af];exact H0.o) (by rw[HQ.o,af];exact ah.o);rw[ba.o,HQ.o,af] at b6
    exact b6)
   rintro e v4 ar;obtain⟨ra,rn,rc,ev,rfl,b7,a0⟩:=Qmi ar;have b8:=Hi a0;clear a0 ar;have B:=Hi ((by first|exact ag.o|exact ag.o.drew:Bl V _).trans (b7.mono (by first|exact ag.o.size|exact ag.o.drew.size)));clear b7 ag X x1 x2 a;have a:=Hi (H.o.below B.o H.o.lt);have X:v4.cell? ⟨d,0,none⟩=some (.slice J z.length c1):=by
    have h:=a.o.cell 0
    simpa using h
   have x1:v4.cell? ⟨d,1,none⟩=some (.slice M f.length c2):=by
    have h:=a.o.cell 1
    simpa using h
   have x2:v4.cell? ⟨d,2,none⟩=some (.slice P hs.length c3):=by
    have h:=a.o.cell 2
    simpa using h
   skip)
  |fail)
 clear b0 b1 HQ b5 aq bb F ap a7 a8 bu;rcases b8.o with ⟨rfl,cx⟩|⟨rfl,bc⟩|⟨rfl,g,us,cy,cz,c0,b9,bd,ca,a4⟩
 .
  obtain⟨r,s⟩:=Ia (aa.o.below B.o aa.o.lt) (ab.o.below B.o ab.o.lt);obtain⟨y0,y1,-⟩:=zc r.o;obtain⟨y2,y3,-⟩:=zc s.o;have cb:=r.o.free 0;have cc:=r.o.free 1;have cd:=s.o.free 0;have ce:=s.o.free 1;have au:=Hi (m.o.trans ((B.o).mono m.o.size));go_wp2;have D:=Qey (x1:=.slice none 0 0) (x2:=.slice none 0 0) (y1:=.int .i64 8) (y2:=.int .i64 0) (by omega:d+1≠d+1+1) r.o s.o
  refine bodyPost_ret (Qex rfl _ _ (d+1) (d+1+1) 50 31 #[.slice none 0 0,.slice none 0 0] #[.int .i64 8,.int .i64 0] (0,0) (0,0) _ _ rfl D.1 rfl D.2.1 underlying50 rfl Tryz.stressInfo underlying31 rfl Tryz.faultInfo) rfl ?_;have C:=(((au.o.setCell (p:=⟨d+1,0,none⟩) A (.slice none 0 0)).setCell (p:=⟨d+1,1,none⟩) A (.slice none 0 0)).setCell (p:=⟨d+1+1,0,none⟩) (Nat.le_succ_of_le A) (.int .i64 8)).setCell (p:=⟨d+1+1,1,none⟩) (Nat.le_succ_of_le A) (.int .i64 0);exact⟨.inl ⟨rfl,by rw[ad.o,ao.o];exact cx⟩,C⟩
 .
  obtain⟨r,s⟩:=Ia (aa.o.below B.o aa.o.lt) (ab.o.below B.o ab.o.lt);obtain⟨y0,y1,-⟩:=zc r.o;obtain⟨y2,y3,-⟩:=zc s.o;have cb:=r.o.free 0;have cc:=r.o.free 1;have cd:=s.o.free 0;have ce:=s.o.free 1;have au:=Hi (m.o.trans ((B.o).mono m.o.size));go_wp2;have D:=Qey (x1:=.slice none 0 0) (x2:=.slice none 0 0) (y1:=.int .i64 9) (y2:=.int .i64 0) (by omega:d+1≠d+1+1) r.o s.o
  refine bodyPost_ret (Qex rfl _ _ (d+1) (d+1+1) 50 31 #[.slice none 0 0,.slice none 0 0] #[.int .i64 9,.int .i64 0] (0,0) (0,0) _ _ rfl D.1 rfl D.2.1 underlying50 rfl Tryz.stressInfo underlying31 rfl Tryz.faultInfo) rfl ?_;have C:=(((au.o.setCell (p:=⟨d+1,0,none⟩) A (.slice none 0 0)).setCell (p:=⟨d+1,1,none⟩) A (.slice none 0 0)).setCell (p:=⟨d+1+1,0,none⟩) (Nat.le_succ_of_le A) (.int .i64 9)).setCell (p:=⟨d+1+1,1,none⟩) (Nat.le_succ_of_le A) (.int .i64 0);exact⟨.inr (.inl ⟨rfl,by rw[ad.o,ao.o];exact bc⟩),C⟩
 .
  subst cy;have cf:=cz.symm;subst cf;have cg:=c0.symm;subst cg;have c4:K<=274877906944:=by omega
  have av:=Qlu (.slice J z.length c1) (.slice P hs.length c3) M c2 f.length g 0 us.length K us v4 (HG.o.below (m.o.trans (B.o.mono m.o.size))) b9.row ca c4 (by omega) (by have:=ad.o;omega) (by omega) rfl rfl;rw[bd] at av;obtain⟨av,ch,c5⟩:=Ib av a4 bd;clear b9 bd ca a4;go_wp2_with fail;go_fit av.o;rintro e v5 ⟨⟨g1,g2,x,y,rfl,hx,hy,ci,cj,ck,cm⟩,cn⟩;have c6:O (w.heap.size<=g1/\w.heap.size<=g2):=Hi ⟨Nat.le_trans (Nat.le_trans m.o.size B.o.size) ck,Nat.le_trans (Nat.le_trans m.o.size B.o.size) cm⟩;obtain⟨nh,aw⟩:=nm (W - f.length);rw[aw];have be:=Hi (B.o.trans (cn.mono B.o.size));obtain⟨r,s⟩:=Ia (aa.o.below be.o aa.o.lt) (ab.o.below be.o ab.o.lt);obtain⟨y0,-⟩:=zc r.o
  obtain⟨-,y1,-⟩:=zc r.o;obtain⟨y2,y3,-⟩:=zc s.o;have cb:=r.o.free 0;have cc:=r.o.free 1;have cd:=s.o.free 0;have ce:=s.o.free 1;obtain⟨au,c7,bf,bg,c8,c9⟩:=Ie (m.o.trans ((be.o).mono m.o.size)) aw hx hy ci cj;clear hx hy ci cj ck cm cn aw av X x1 x2;go_wp2;have D:=Qey (x1:=.slice (some ⟨g1,0,none⟩) f.length f.length) (x2:=.slice (some ⟨g2,0,none⟩) nh nh) (y1:=.int .i64 0) (y2:=.int .i64 0) (by omega:d+1≠d+1+1) r.o s.o
  refine bodyPost_ret (Qex rfl _ _ (d+1) (d+1+1) 50 31 #[.slice (some ⟨g1,0,none⟩) f.length f.length,.slice (some ⟨g2,0,none⟩) nh nh] #[.int .i64 0,.int .i64 0] (0,0) (0,0) _ _ rfl D.1 rfl D.2.1 underlying50 rfl Tryz.stressInfo underlying31 rfl Tryz.faultInfo) rfl ?_;have C:=(((au.o.setCell (p:=⟨d+1,0,none⟩) A (.slice (some ⟨g1,0,none⟩) f.length f.length)).setCell (p:=⟨d+1,1,none⟩) A (.slice (some ⟨g2,0,none⟩) nh nh)).setCell (p:=⟨d+1+1,0,none⟩) (Nat.le_succ_of_le A) (.int .i64 0)).setCell (p:=⟨d+1+1,1,none⟩) (Nat.le_succ_of_le A) (.int .i64 0);have aw:nh=hs.length:=by
   have h1:=ad.o;have h2:=c7.o;omega
  subst aw;refine⟨.inr (.inr ⟨g1,g2,x,y,us,rfl,D.2.2 _ _ _ bf.o (bf.o.unlike r.o (by decide)) (bf.o.unlike s.o (by decide)),D.2.2 _ _ _ bg.o (bg.o.unlike r.o (by decide)) (bg.o.unlike s.o (by decide)),c8.o,c9.o,⟨by rw[ad.o];exact c5.o,c6.o⟩,by rw[ad.o,ao.o];exact ch.o⟩),C⟩
theorem q_of{l t a:Vu}{v q:Rat}(b:Lib.trimPrefix l [45]=t)(c:Lib.cut t [47]=(a,[],false))(d:IsDig a)(e:v=mkRat (decVal a:Nat) 1)(f:q=if Lib.hasPrefix l [45]=true then -v else v):QOf l q:=by
 refine⟨v,.inl ⟨⟨?_,?_⟩,?_⟩,f⟩
 . rw[b,c];exact d
 . rw[b,c];intro h;cases h
 . rw[b,c];simpa using e
theorem Qez{c:UInt8}(a:48<=c.toNat)(b:c.toNat<=57):IsDig [c]:=⟨by simp,fun d e=>by
 obtain rfl:d=c:=by simpa using e
 exact⟨a,b⟩⟩
theorem q0_of:QOf tx0.data.toList 0:=q_of (l:=[48]) (t:=[48]) (a:=[48]) (v:=0) (by decide) (by decide) (Qez (by decide) (by decide)) (by decide) (by decide)
theorem q1_of:QOf tx1.data.toList 1:=one_q
theorem qm_of:QOf (⟨#[45,49]⟩:ByteArray).data.toList (-1):=q_of (l:=[45,49]) (t:=[49]) (a:=[49]) (v:=1) (by decide) (by decide) (Qez (by decide) (by decide)) (by decide) (by decide)
theorem q2_of:QOf (⟨#[50]⟩:ByteArray).data.toList 2:=q_of (l:=[50]) (t:=[50]) (a:=[50]) (v:=2) (by decide) (by decide) (Qez (by decide) (by decide)) (by decide) (by decide)
theorem Qe0:FrSized cornerJ cornerB cornerH:=by
 refine⟨?_,?_,?_⟩
 .
  intro p a;simp[cornerJ] at a;rcases a with rfl|rfl|rfl<;>exact⟨by decide,by decide⟩
 .
  intro b c;simp[cornerB,cornerBar] at c;rcases c with rfl|rfl|rfl<;>exact⟨by decide,by decide,by decide,by decide⟩
 .
  intro x d;simp[cornerH] at d;rcases d with rfl|rfl|rfl<;>decide
def cornerVB:List (Nat × Nat × Rat × Rat):=[(0,1,1,0),(1,2,-1,1),(2,0,0,-1)]
def cornerVH:List Nat:=[0,1,3]
theorem Qe1:FrV 1048576 cornerJ cornerB cornerH cornerVB cornerVH:=by
 refine⟨by decide,by decide,by decide,rfl,rfl,?_,?_,by decide⟩
 .
  intro i b p a d
  match i,a,d with
  |0,a,d=>
   cases a;cases d;exact⟨rfl,rfl,by decide,_,_,0,0,1,0,rfl,rfl,by decide,by decide,by decide,by decide,q0_of,q0_of,q1_of,q0_of,by decide +kernel,by decide +kernel⟩
  |1,a,d=>
   cases a;cases d;exact⟨rfl,rfl,by decide,_,_,1,0,0,1,rfl,rfl,by decide,by decide,by decide,by decide,q1_of,q0_of,q0_of,q1_of,by decide +kernel,by decide +kernel⟩
  |2,a,d=>
   cases a;cases d;exact⟨rfl,rfl,by decide,_,_,0,1,0,0,rfl,rfl,by decide,by decide,by decide,by decide,q0_of,q1_of,q0_of,q0_of,by decide +kernel,by decide +kernel⟩
  |n+3,a,d=>cases a
 .
  intro i h r c e
  match i,c,e with
  |0,c,e=>
   cases c;cases e;exact⟨0,rfl,by decide,rfl⟩
  |1,c,e=>
   cases c;cases e;exact⟨0,rfl,by decide,rfl⟩
  |2,c,e=>
   cases c;cases e;exact⟨1,rfl,by decide,rfl⟩
  |n+3,c,e=>cases c
theorem Qhj:balRows 3 cornerVB 3 cornerVH=cornerM:=by
 have h:∀r c,6<=c->balM cornerVB 3 cornerVH r c=0:=Qcw (nb:=3) (nh:=3) rfl rfl;have j:∀(a b c d e f:Rat) (n:Nat),vec [a,b,c,d,e,f] (n+6)=0:=fun a b c d e f n=>by simp[vec]
 have g:∀(r:Nat) (a b c d e f:Rat),balM cornerVB 3 cornerVH r 0=a->balM cornerVB 3 cornerVH r 1=b->balM cornerVB 3 cornerVH r 2=c->balM cornerVB 3 cornerVH r 3=d->balM cornerVB 3 cornerVH r 4=e->balM cornerVB 3 cornerVH r 5=f->balM cornerVB 3 cornerVH r=vec [a,b,c,d,e,f]:=by
  intro r a b c d e f k l m o p q;funext i
  match i with
  |0=>rw[k];rfl
  |1=>rw[l];rfl
  |2=>rw[m];rfl
  |3=>rw[o];rfl
  |4=>rw[p];rfl
  |5=>rw[q];rfl
  |n+6=>rw[h r (n+6) (by omega),j]
 show [balM cornerVB 3 cornerVH 0,balM cornerVB 3 cornerVH 1,balM cornerVB 3 cornerVH 2,balM cornerVB 3 cornerVH 3,balM cornerVB 3 cornerVH 4,balM cornerVB 3 cornerVH 5]=cornerM
 rw[g 0 1 0 0 1 0 0 (by decide +kernel) (by decide +kernel) (by decide +kernel) (by decide +kernel) (by decide +kernel) (by decide +kernel),
  g 1 0 0 1 0 1 0 (by decide +kernel) (by decide +kernel) (by decide +kernel) (by decide +kernel) (by decide +kernel) (by decide +kernel),
  g 2 (-1) (-1) 0 0 0 0 (by decide +kernel) (by decide +kernel) (by decide +kernel) (by decide +kernel) (by decide +kernel) (by decide +kernel),
  g 3 0 1 0 0 0 1 (by decide +kernel) (by decide +kernel) (by decide +kernel) (by decide +kernel) (by decide +kernel) (by decide +kernel),
  g 4 0 1 0 0 0 0 (by decide +kernel) (by decide +kernel) (by decide +kernel) (by decide +kernel) (by decide +kernel) (by decide +kernel),
  g 5 0 (-1) (-1) 0 0 0 (by decide +kernel) (by decide +kernel) (by decide +kernel) (by decide +kernel) (by decide +kernel) (by decide +kernel)]
 rfl
theorem Qe2:FrameFault cornerJ cornerB cornerH 0 0:=by
 refine .inr (.inr ⟨by rintro(h|h|h|h)<;>exact absurd h (by decide),?_,.inr ⟨?_,rfl,rfl⟩⟩)
 .
  intro i x a
  match i,a with
  |0,a=>
   cases a;exact .inr ⟨⟨by decide,by decide⟩,⟨by decide,by decide⟩,_,_,rfl,rfl,0,0,1,0,1,-1,2,q0_of,q0_of,q1_of,q0_of,q1_of,qm_of,q2_of,by decide +kernel⟩
  |1,a=>
   cases a;exact .inr ⟨⟨by decide,by decide⟩,⟨by decide,by decide⟩,_,_,rfl,rfl,1,0,0,1,1,-1,2,q1_of,q0_of,q0_of,q1_of,q1_of,qm_of,q2_of,by decide +kernel⟩
  |2,a=>
   cases a;exact .inr ⟨⟨by decide,by decide⟩,⟨by decide,by decide⟩,_,_,rfl,rfl,0,1,0,0,1,-1,2,q0_of,q1_of,q0_of,q0_of,q1_of,qm_of,q2_of,by decide +kernel⟩
  |n+3,a=>cases a
 .
  intro i x a
  match i,a with
  |0,a=>cases a;decide
  |1,a=>cases a;decide
  |2,a=>cases a;decide
  |n+3,a=>cases a
def cornerL:List L3:=[⟨2,tx1,tx0⟩]
def cornerVS:List (Nat × Rat × Rat):=[(2,1,0)]
theorem Qmk:∀(i:Nat) (l:L3) (p:Nat × Rat × Rat),cornerL[i]?=some l->cornerVS[i]?=some p->LoadV 3 l p:=by
 intro i l p hl a
 match i,hl,a with
 |0,hl,a=>
  cases hl;cases a;exact⟨rfl,by decide,q1_of,q0_of,by decide,by decide⟩
 |n+1,hl,a=>cases hl
theorem Qml:(List.range 6).map (agn cornerVS)= [0,0,0,0,-1,0]:=by decide +kernel
theorem qt1:QText tx1.data.toList 1:=⟨[49],⟨[49],.inr ⟨by decide,[1],⟨fun d a=>by simp at a;omega,.inr (by simp),by simp[val]⟩,by decide⟩,by decide⟩,.inl ⟨by decide,rfl⟩⟩
theorem qtm:QText (⟨#[45,49]⟩:ByteArray).data.toList (-1):=⟨[45,49],⟨[49],.inr ⟨by decide,[1],⟨fun d a=>by simp at a;omega,.inr (by simp),by simp[val]⟩,by decide⟩,by decide⟩,.inl ⟨by decide,rfl⟩⟩
def TLst(w:Vz)(a:Vx)(l:Vt):Prop:=∀(i:Nat) (s:Vs),l[i]?=some s->∃b off,a=some ⟨b,off,none⟩/\b<w.heap.size/\w.cell? ⟨b,off+i,none⟩=some (.string s)
theorem TLst.below{w w':Vz}{a:Vx}{l:Vt}(h:TLst w a l)(d:Bl w w'):TLst w' a l:=fun i s f=>by
 obtain⟨b,c,g,e,j⟩:=h i s f;exact⟨b,c,g,Nat.lt_of_lt_of_le e d.size,ce d e j⟩
theorem SB.texts{w:Vz}{g:Nat}{t:Vr}{l:Vt}(h:SB w g t (textsV l).toArray):TLst w (some ⟨g,0,none⟩) l:=fun i s a=>⟨g,0,rfl,h.lt,by
 rw[Nat.zero_add,h.cell]
 simp[textsV,a]⟩
theorem Qhk(a b:Vx)(c d:Nat)(l:Vt)(w:Vz)(m:TLst w a l)(n:TLst w b l)(hs:l.length<=1000000):
 Calls prog 53 #[.slice a l.length c,.slice b l.length d] w fun e w'=>e=.returned (.bool true)/\Below w.heap.size w w':=by
 obtain⟨s,t⟩:=Ia m n;clear m n;go_enter func53,ntmps53;go_wp2_with fail;go_loopw [13] (fun h wr=>∃i:Nat,i<=l.length/\h=.int .i64 i/\Below w.heap.size w wr) (fun h _=>l.length - (intOf h).toNat)
 case atStart=>exact⟨0,by omega,rfl,Below.refl _ _⟩
 case round=>
  obtain⟨i,x,rfl,g⟩:=hrel;have p:=Hi g;by_cases j:i<l.length
  .
   obtain⟨f,k⟩:∃f,l[i]?=some f:=⟨l[i],gE j⟩;obtain⟨y,z,rfl,q,d1⟩:=s.o i f k;obtain⟨A,B,rfl,r,d2⟩:=t.o i f k;have u:=ce g q d1;have v:=ce g r d2;have C:((i:Int)<(l.length:Int)):=by omega
   clear k d1 d2 g q r;go_wp2_with fail;go_region;go_wp2;go_roundw
   case rel=>exact⟨i+1,by omega,by go_num,p.o.drew⟩
   case measure=>simp[intOf];omega
  .
   obtain rfl:i=l.length:=by omega
   clear g;go_wp2;go_ret;exact⟨rfl,p.o⟩
theorem Qhl(a b k i:Vx)(c d t u:Nat)(x y:Vt)(w:Vz)(E:TLst w a x)(F:TLst w b y)(l:TLst w k x)(m:TLst w i y)(K:x.length<=1000000)(L:y.length<=1000000):
 Calls prog 16 #[.agg #[.slice a x.length c,.slice b y.length d],.agg #[.slice k x.length t,.slice i y.length u]] w fun e w'=>e=.returned (.bool true)/\Below w.heap.size w w':=by
 obtain⟨V,j⟩:=nm ((w.alloc (.cells #[.slice a x.length c,.slice b y.length d] 50)).alloc (.cells #[.slice k x.length t,.slice i y.length u] 50));obtain⟨G,h⟩:=nm w.heap.size;have f:Bl w V:=by rw[<-j];exact Below.new2 w _ _
 have v:SB V G 50 #[.slice a x.length c,.slice b y.length d]:=by rw[<-j,<-h];exact(SB.new w _ _).alloc _
 have z:SB V (G+1) 50 #[.slice k x.length t,.slice i y.length u]:=by rw[<-j,<-h];exact Qa1 w _ _ _
 obtain⟨A,H⟩:=Ia (Qhk a k c t x V (E.below f) (l.below f) K) (⟨F.below f,m.below f⟩:TLst V b y/\TLst V i y);obtain⟨I,-⟩:=zc v;obtain⟨J,-⟩:=zc z;obtain⟨n,p,q⟩:=Ib v z f;rw[<-j,<-h] at I J;obtain⟨M,B⟩:=Ia j h;clear j h f v z E l F m;go_enter func16,ntmps16;go_wp2_with fail;rw[M.o,B.o];go_fit A.o;rintro e N ⟨rfl,g⟩;obtain⟨r,C⟩:=Ia (q.o.trans (g.mono q.o.size)) (Qhk b i d u y N (H.o.1.below g) (H.o.2.below g) L);obtain⟨-,O,-⟩:=zc (n.o.below g n.o.lt);obtain⟨-,P,-⟩:=zc (p.o.below g p.o.lt);clear g I J;go_wp2_with fail;go_fit C.o
 rintro e Q ⟨rfl,s⟩;have D:=Hi (r.o.trans (s.mono r.o.size));clear s O P;go_wp2;go_ret;exact⟨rfl,D.o⟩
theorem Qmm{w w':Vz}{e:Ending}(h:CarrySays 3 3 cornerM [0,0,0,0,-1,0] w e w'):
 ∃m n,e=.returned (.tuple #[.agg #[.slice (some ⟨m,0,none⟩) 3 3,.slice (some ⟨n,0,none⟩) 3 3],.agg #[.int .i64 0,.int .i64 0]])/\TLst w' (some ⟨m,0,none⟩) [⟨#[49]⟩,⟨#[45,49]⟩,⟨#[49]⟩]/\TLst w' (some ⟨n,0,none⟩) [⟨#[45,49]⟩,⟨#[45,49]⟩,⟨#[49]⟩]/\Below w.heap.size w w':=by
 have f:Sol 6 cornerM [0,0,0,0,-1,0] (vec [1,-1,1,-1,-1,1]):=(Qfc _).2 (by decide +kernel);obtain⟨h,v⟩:=h;rcases h with ⟨_,h⟩|⟨_,x,y,o,p,c,R,d⟩|⟨m,n,x,y,us,rfl,z,A,g,j,B,k⟩
 . exact absurd f (h _)
 .
  exfalso
  obtain⟨C,D,E,F,G,H⟩:=(Qfc x).1 o;obtain⟨I,J,K,L,M,N⟩:=(Qfc y).1 p;have e:c=0∨c=1∨c=2∨c=3∨c=4∨c=5:=by omega
  rcases e with rfl|rfl|rfl|rfl|rfl|rfl
  . exact d (C.trans I.symm)
  . exact d (D.trans J.symm)
  . exact d (E.trans K.symm)
  . exact d (F.trans L.symm)
  . exact d (G.trans M.symm)
  . exact d (H.trans N.symm)
 .
  have O:=(k _).1 f;have b:∀(s t:Vs) (q:Rat),QText s.data.toList q->QText t.data.toList q->s=t:=fun s t q o p=>by
   have:=o.inj p;cases s;cases t
   congr 1
   exact Array.toList_inj.1 this
  have l:∀(i:Nat),i<6->∃t,us[i]?=some t/\vec [1,-1,1,-1,-1,1] i=t.q:=fun i r=>⟨us[i]'(by omega),gE (by omega),O i _ (gE (by omega))⟩
  have P:x= [⟨#[49]⟩,⟨#[45,49]⟩,⟨#[49]⟩]:=by
   have hl:x.length=3:=by rw[g.1,List.length_take];omega
   have a:∀i s,i<3->x[i]?=some s->QText s.data.toList (vec [1,-1,1,-1,-1,1] i):=fun i s r hs=>by
    obtain⟨t,u,e⟩:=l i (by omega);rw[e];exact g.2 i t s (by rw[List.getElem?_take_of_lt r];exact u) hs
   match x,hl,a with
   | [s0,s1,s2],_,a=>
     rw[b s0 ⟨#[49]⟩ 1 (a 0 s0 (by decide) rfl) qt1,b s1 ⟨#[45,49]⟩ (-1) (a 1 s1 (by decide) rfl) qtm,b s2 ⟨#[49]⟩ 1 (a 2 s2 (by decide) rfl) qt1]
  have Q:y= [⟨#[45,49]⟩,⟨#[45,49]⟩,⟨#[49]⟩]:=by
   have hl:y.length=3:=by rw[j.1,List.length_drop];omega
   have a:∀i s,i<3->y[i]?=some s->QText s.data.toList (vec [1,-1,1,-1,-1,1] (3+i)):=fun i s r hs=>by
    obtain⟨t,u,e⟩:=l (3+i) (by omega);rw[e];exact j.2 i t s (by rw[List.getElem?_drop];exact u) hs
   match y,hl,a with
   | [s0,s1,s2],_,a=>
     rw[b s0 ⟨#[45,49]⟩ (-1) (a 0 s0 (by decide) rfl) qtm,b s1 ⟨#[45,49]⟩ (-1) (a 1 s1 (by decide) rfl) qtm,b s2 ⟨#[49]⟩ 1 (a 2 s2 (by decide) rfl) qt1]
  subst P;subst Q;exact⟨m,n,rfl,z.texts,A.texts,v⟩
def textD{H:Type}(s:Vs):DataW H:=.lit (.string s.data.toList)
def spotD{H:Type}(s:S2):DataW H:=.agg [textD s.x,textD s.y]
def barD{H:Type}(b:B6):DataW H:=.agg [.lit (.int .i64 b.a),.lit (.int .i64 b.b),textD b.c,textD b.e,textD b.l,textD b.m]
def holdD{H:Type}(h:H3):DataW H:=.agg [.lit (.int .i64 h.j),.lit (.int .i64 h.w),textD h.q]
section
variable {H:Type} {enc:TypeId × Value->H} {P:Program} {w:Vz} {base:Nat} {spare:Nat->Bool} {held:Bool} {fuel:Nat} {cs:Vv} {x:DataW H × List MemPlace} {tE tS tQ tI tI':Vr} {f0 f1 f2 f3 f4 f5:Field}
theorem Qkw(u:P.underlying tE=some (.struct #[f0,f1,f2,f3,f4,f5]))(f:P.underlying tQ=some .string)(s:P.underlying tI=some (.int .i64))(v:P.cellsOf tE=6)(g:P.cellsOf tQ=1)(t:P.cellsOf tI=1)
 (t0:f0.type=tI) (t1:f1.type=tI) (t2:f2.type=tQ) (t3:f3.type=tQ) (t4:f4.type=tQ) (t5:f5.type=tQ) (y:f0.offset=0) (z:f1.offset=1) (A:f2.offset=2) (B:f3.offset=3) (C:f4.offset=4) (D:f5.offset=5)
 (h:DataW.trod enc P w base spare held fuel tE cs=some x):∃b:B6,cs=b.cells/\x.1=barD b:=by
 obtain⟨xs,n,rfl,rfl,hl,i,d⟩:=DataW.trod_struct u h;rw[v] at hl;clear h;have j:=d 0 f0 rfl;have k:=d 1 f1 rfl;have o:=d 2 f2 rfl;have p:=d 3 f3 rfl;have q:=d 4 f4 rfl;have r:=d 5 f5 rfl;rw[t0,y,t] at j;rw[t1,z,t] at k;rw[t2,A,g] at o;rw[t3,B,g] at p;rw[t4,C,g] at q;rw[t5,D,g] at r;clear d
 match cs,hl,xs,i with
 | [v0,v1,v2,v3,v4,v5],_,[y0,y1,y2,y3,y4,y5],_=>
   simp only[List.drop_zero,List.drop_succ_cons,List.take_succ_cons,List.take_zero,List.getElem?_cons_zero,List.getElem?_cons_succ] at j k o p q r;obtain⟨a,E,rfl,_⟩:=DataW.trod_int s j;obtain⟨b,F,rfl,_⟩:=DataW.trod_int s k;obtain⟨c,G,rfl,_⟩:=DataW.trod_string f o;obtain⟨e,I,rfl,_⟩:=DataW.trod_string f p;obtain⟨l,J,rfl,_⟩:=DataW.trod_string f q;obtain⟨m,K,rfl,_⟩:=DataW.trod_string f r;obtain rfl:v0=_:=by simpa using E
   obtain rfl:v1=_:=by simpa using F
   obtain rfl:v2=_:=by simpa using G
   obtain rfl:v3=_:=by simpa using I
   obtain rfl:v4=_:=by simpa using J
   obtain rfl:v5=_:=by simpa using K
   exact⟨⟨a,b,c,e,l,m⟩,rfl,rfl⟩
theorem Qkx(l:P.underlying tE=some (.struct #[f0,f1,f2]))(m:P.underlying tQ=some .string)(o:P.underlying tI=some (.int .i64))(e:P.underlying tI'=some (.int .i64))(p:P.cellsOf tE=3)(q:P.cellsOf tQ=1)(r:P.cellsOf tI=1)(f:P.cellsOf tI'=1)
 (t0:f0.type=tI) (t1:f1.type=tI') (t2:f2.type=tQ) (s:f0.offset=0) (t:f1.offset=1) (u:f2.offset=2)
 (h:DataW.trod enc P w base spare held fuel tE cs=some x):∃b:H3,cs=b.cells/\x.1=holdD b:=by
 obtain⟨xs,n,rfl,rfl,hl,g,d⟩:=DataW.trod_struct l h;rw[p] at hl;clear h;have i:=d 0 f0 rfl;have j:=d 1 f1 rfl;have k:=d 2 f2 rfl;rw[t0,s,r] at i;rw[t1,t,f] at j;rw[t2,u,q] at k;clear d
 match cs,hl,xs,g with
 | [v0,v1,v2],_,[y0,y1,y2],_=>
   simp only[List.drop_zero,List.drop_succ_cons,List.take_succ_cons,List.take_zero,List.getElem?_cons_zero,List.getElem?_cons_succ] at i j k;obtain⟨a,v,rfl,_⟩:=DataW.trod_int o i;obtain⟨b,y,rfl,_⟩:=DataW.trod_int e j;obtain⟨c,z,rfl,_⟩:=DataW.trod_string m k;obtain rfl:v0=_:=by simpa using v
   obtain rfl:v1=_:=by simpa using y
   obtain rfl:v2=_:=by simpa using z
   exact⟨⟨a,b,c⟩,rfl,rfl⟩
theorem Qtu(u:P.underlying tE=some (.struct #[f0,f1,f2]))(k:P.cellsOf tE=3){t0 t1 t2:Vr}(l:f0.type=t0)(m:f1.type=t1)(o:f2.type=t2)(p:P.cellsOf t0=1)(q:P.cellsOf t1=1)(r:P.cellsOf t2=1)(s:f0.offset=0)(t:f1.offset=1)(v:f2.offset=2)
 (h:DataW.trod enc P w base spare held fuel tE cs=some x):∃n a b c d y1 y2,cs= [a,b,c]/\x.1=.agg [d.1,y1.1,y2.1]/\DataW.trod enc P w base spare held n t0 [a]=some d/\DataW.trod enc P w base spare held n t1 [b]=some y1/\DataW.trod enc P w base spare held n t2 [c]=some y2:=by
 obtain⟨xs,n,rfl,rfl,hl,f,e⟩:=DataW.trod_struct u h;rw[k] at hl;clear h;have g:=e 0 f0 rfl;have i:=e 1 f1 rfl;have j:=e 2 f2 rfl;rw[l,s,p] at g;rw[m,t,q] at i;rw[o,v,r] at j;clear e
 match cs,hl,xs,f with
 | [a,b,c],_,[d,y1,y2],_=>
   simp only[List.drop_zero,List.drop_succ_cons,List.take_succ_cons,List.take_zero,List.getElem?_cons_zero,List.getElem?_cons_succ] at g i j;exact⟨n,a,b,c,d,y1,y2,rfl,rfl,g,i,j⟩
theorem Qgu{α:Type}{c:α->List Value}{dat:α->DataW H}{sz:Nat}{t:Vr}(B:α)(g:0<sz)(G:∀e,(c e).length=sz)(X:P.underlying t=some (.slice tE))(Y:P.cellsOf tE=sz)
 (C:∀(fuel:Nat) (cs:Vv) (x:DataW H × List MemPlace),DataW.trod enc P w base spare held fuel tE cs=some x->∃e,cs=c e/\x.1=dat e)
 (h:DataW.trod enc P w base spare held fuel t cs=some x):
 ∃(a:Vx) (cap:Nat) (I:List α),cs= [.slice a I.length cap]/\ARow c w a cap I/\(∀l r,x.1=.slice l r->l=I.map dat)/\((I= []/\x.1=.nil)∨∃l r,x.1=.slice l r):=by
 rcases Deep.open_slice X h with ⟨rfl,rfl⟩|⟨a,d,cap,m,n,D,Pl,rfl,hb,L,Z,hm,rfl,hD⟩
 . exact⟨none,0,[],rfl,⟨by simp,⟨fun j u A=>by simp at A⟩⟩,fun l r e=>by simp at e,.inl ⟨rfl,rfl⟩⟩
 have aa:d<=m:=by rw[hm];split<;>omega
 have o:∀i,∃f:α,i<d->w.cells? base (a.add (i*sz)) sz=some (c f)/\D i=dat f:=by
  intro i;by_cases M:i<d
  .
   obtain⟨ab,J,K⟩:=hD i (by omega);obtain⟨f,rfl,hd⟩:=C _ _ _ K;rw[Y] at J;exact⟨f,fun _=>⟨J,hd⟩⟩
  . exact⟨B,fun h=>absurd h M⟩
 obtain⟨F,N⟩:=Classical.axiomOfChoice o;refine⟨some a,cap,(List.range d).map F,by simp,⟨by simpa using L,⟨?_⟩⟩,?_,.inr ⟨_,_,rfl⟩⟩
 .
  intro j u A;have p:=(gZ A).1;rw[Qa9 G] at p;simp only[List.length_map,List.length_range] at p;have q:j / sz<d:=(Nat.div_lt_iff_lt_mul g).2 p;have O:j % sz<sz:=Nat.mod_lt _ g;obtain⟨U,E⟩:∃U,(c (F (j / sz)))[j % sz]?=some U:=⟨_,gE (by rw[G];exact O)⟩;have J:((List.range d).map F)[j / sz]?=some (F (j / sz)):=by simp[q]
  have K:=Qcb G _ _ _ _ _ J E;rw[Nat.div_add_mod' j sz,A] at K;obtain rfl:=Option.some.inj K;obtain⟨Q,_⟩:=N _ q;obtain⟨_,_,s⟩:=World.cells?_some Q;obtain⟨b,y,V⟩:=a;have R:=s (j % sz) (by omega);have z:=(World.cells?_some (N 0 (Nat.lt_of_le_of_lt (Nat.zero_le _) q)).1).2.2 0 g;have S:V=none:=by
   cases V with
   |none=>rfl
   |some v=>
    exfalso
    obtain⟨W,T⟩:∃W,(c (F 0))[0]?=some W:=⟨_,gE (by rw[G];exact g)⟩;rw[T] at z;simp only[Nat.zero_mul,Addr.add,if_true,World.cell?] at z
    split at z<;>simp at z
  subst S;have ea:∀j k,(Addr.add ⟨b,y,none⟩ j).add k=⟨b,y+j+k,none⟩:=by
   intro j k;unfold Addr.add;by_cases A:j=0<;>by_cases hk:k=0<;>simp[A,hk]
  rw[ea,E,Nat.add_assoc,Nat.div_add_mod'] at R;exact⟨b,y,rfl,World.block_lt_of_cell? _ _ R,R⟩
 .
  intro l r e;have e1:(List.range d).map D=l:=by simpa using (DataW.slice.inj e).1
  rw[<-e1,List.map_map];refine List.map_congr_left fun i M=>?_
  exact(N i (by simpa using M)).2
end
section
open Go.ChangeShapes Go.WideShapes Go.ChangeAt Go.RowKit
theorem Qgz:prog.cellsOf 80=6:=by kernel_rfl
theorem Qg0:prog.cellsOf 83=3:=by kernel_rfl
theorem Quz:prog.cellsOf 22=1:=by kernel_rfl
theorem Qu0:prog.cellsOf 23=1:=by kernel_rfl
theorem Qu1:prog.cellsOf 24=1:=by kernel_rfl
theorem Qu2:prog.cellsOf 26=3:=by kernel_rfl
theorem Qu3:prog.readableRec 26=true:=by kernel_rfl
theorem Qu4:26<prog.types.size:=by refine of_decide_eq_true ?_;kernel_rfl
section
variable {H:Type}
theorem Qg1{α:Type}(dat:α->DataW H)(b:∀e,1<=Rows.uptoBulk (dat e))(a:List α):a.length<=Rows.uptoBulkAll (a.map dat):=by
 induction a with
 |nil=>simp
 |cons e l c=>
  have:=b e;simp only[List.map_cons,Rows.uptoBulkAll,List.length_cons];omega
theorem Qeq{α:Type}{dat:α->DataW H}{a:List α}{d:DataW H}{N:Nat}(b:Rows.uptoBulk d<=N)(hl:∀l r,d=.slice l r->l=a.map dat)(hs:(a= []/\d=.nil)∨∃l r,d=.slice l r):Rows.uptoBulkAll (a.map dat)<=N:=by
 rcases hs with ⟨rfl,_⟩|⟨l,r,rfl⟩
 . simp[Rows.uptoBulkAll]
 . rw[<-hl l r rfl]
   exact Nat.le_trans (Quo l r) b
theorem Qg2(s:S2):1<=Rows.uptoBulk (spotD (H:=H) s)/\s.x.size+s.y.size<=Rows.uptoBulk (spotD (H:=H) s):=by
 simp[spotD,textD,Rows.uptoBulk,Rows.uptoBulkAll];omega
theorem Qk8(b:B6):1<=Rows.uptoBulk (barD (H:=H) b)/\b.c.size+b.e.size+b.l.size+b.m.size<=Rows.uptoBulk (barD (H:=H) b):=by
 simp[barD,textD,Rows.uptoBulk,Rows.uptoBulkAll];omega
theorem Qk9(h:H3):1<=Rows.uptoBulk (holdD (H:=H) h)/\h.q.size<=Rows.uptoBulk (holdD (H:=H) h):=by
 simp[holdD,textD,Rows.uptoBulk,Rows.uptoBulkAll];omega
theorem Qg3{α:Type}(dat:α->DataW H){a:List α}{e:α}(b:e∈ a):Rows.uptoBulk (dat e)<=Rows.uptoBulkAll (a.map dat):=Qgy (List.mem_map.2 ⟨e,b,rfl⟩)
variable {enc:TypeId × Value->H} {W:Vz}
theorem Qu5{b:Vw}{d:DataW H}{B:List MemPlace}(q:Rows.uptoBulk d<=1048576)
 (h:DataW.Trod enc prog W 0 (fun _=>true) true 26 (.agg b) d B):
 ∃(l m o:Vx) (c1 c2 c3:Nat) (f:List S2) (g:List B6) (hs:List H3),b=#[.slice l f.length c1,.slice m g.length c2,.slice o hs.length c3]/\FrRow W l m o c1 c2 c3 f g hs/\FrSized f g hs/\f.length<=1048576/\g.length<=1048576/\hs.length<=1048576/\Rows.uptoBulkAll (f.map (spotD (H:=H)))<=Rows.uptoBulk d:=by
 obtain⟨a,h⟩:=h;obtain⟨n,C,D,E,u,y1,y2,j,i,F,G,I⟩:=Qtu underlying26 Qu2 rfl rfl rfl Quz Qu0 Qu1 rfl rfl rfl h;have v:(Value.agg b).cells.toList=b.toList:=by rfl
 rw[v] at j;clear h v;obtain⟨l,c1,f,J,K,w,y⟩:=Qgu (c:=S2.cells) (dat:=spotD) (sz:=2) ⟨⟨#[]⟩,⟨#[]⟩⟩ (by decide) (fun _=>rfl) underlying22 Qgv (fun a b x i=>by
  obtain⟨s,t,e,r,_⟩:=Qky underlying56 underlying54 Qgv Qco rfl rfl rfl rfl i
  exact⟨⟨s,t⟩,e,r⟩) F
 obtain⟨m,c2,g,L,M,N,O⟩:=Qgu (c:=B6.cells) (dat:=barD) (sz:=6) ⟨0,0,⟨#[]⟩,⟨#[]⟩,⟨#[]⟩,⟨#[]⟩⟩ (by decide) (fun _=>rfl) underlying23 Qgz (fun a b x i=>Qkw underlying80 underlying54 underlying3 Qgz Qco cellsInt rfl rfl rfl rfl rfl rfl rfl rfl rfl rfl rfl rfl i) G;obtain⟨o,c3,hs,P,Q,R,S⟩:=Qgu (c:=H3.cells) (dat:=holdD) (sz:=3) ⟨0,0,⟨#[]⟩⟩ (by decide) (fun _=>rfl) underlying24 Qg0 (fun a b x i=>Qkx underlying83 underlying54 underlying3 underlying3 Qg0 Qco cellsInt cellsInt rfl rfl rfl rfl rfl rfl i) I;obtain rfl:C=_:=by simpa using J
 obtain rfl:D=_:=by simpa using L
 obtain rfl:E=_:=by simpa using P
 have r:d=.agg [u.1,y1.1,y2.1]:=i;subst r;have T:Rows.uptoBulk u.1<=1048576:=Nat.le_trans (by simp only[Rows.uptoBulk,Rows.uptoBulkAll];omega) q;have U:Rows.uptoBulk y1.1<=1048576:=Nat.le_trans (by simp only[Rows.uptoBulk,Rows.uptoBulkAll];omega) q;have V:Rows.uptoBulk y2.1<=1048576:=Nat.le_trans (by simp only[Rows.uptoBulk,Rows.uptoBulkAll];omega) q;have X:=Qeq T w y;have Y:=Qeq U N O;have Z:=Qeq V R S;have n0:=Qg1 (H:=H) spotD (fun e=>(Qg2 e).1) f;have n1:=Qg1 (H:=H) barD (fun e=>(Qk8 e).1) g;have n2:=Qg1 (H:=H) holdD (fun e=>(Qk9 e).1) hs;refine⟨l,m,o,c1,c2,c3,f,g,hs,by rw[<-Array.toArray_toList (xs:=b),j],⟨K,M,Q⟩,⟨fun p k=>?_,fun p k=>?_,fun p k=>?_⟩,by omega,by omega,by omega,Nat.le_trans (Qeq lZ w y) (by simp only[Rows.uptoBulk,Rows.uptoBulkAll];omega)⟩
 .
  have z:=Qg3 (H:=H) spotD k;have A:=(Qg2 (H:=H) p).2;omega
 .
  have z:=Qg3 (H:=H) barD k;have A:=(Qk8 (H:=H) p).2;omega
 .
  have z:=Qg3 (H:=H) holdD k;have A:=(Qk9 (H:=H) p).2;omega
end
end
def unitV(c:Nat):Vec:=fun i=>if i=c then 1 else 0
def nullF(c:Nat)(S:List Vec)(hs:Vy):Nat->Vec
 |0=>unitV c
 |k+1=>upd (nullF c S hs k) (hs.getD k 0) (-(S.getD k (fun _=>0) c))
theorem Qec{c:Nat}{S:List Vec}{hs:Vy}{k h:Nat}{r:Vec}(a:hs[k]?=some h)(b:S[k]?=some r):nullF c S hs (k+1)=upd (nullF c S hs k) h (-(r c)):=by
 simp[nullF,List.getD,a,b]
theorem Qcj{c:Nat}{S:List Vec}{hs:Vy}(hl:S.length=hs.length){d:Nat}(b:d ∉ hs):∀k,k<=hs.length->nullF c S hs k d=unitV c d
 |0,_=>rfl
 |k+1,hk=>by
  have a:k<hs.length:=by omega
  rw[Qec (gE a) (gE (by omega)),Qad _ _ (fun e=>b (by rw[e];exact List.getElem_mem _))];exact Qcj hl b k (by omega)
theorem Ech.lt_at:∀{S:List Vec} {hs:Vy} {lo c:Nat},Ech lo c S hs->∀(i j a b:Nat),i<j->hs[i]?=some a->hs[j]?=some b->a<b
 |r :: S,h :: hs,lo,c,⟨_,_,_,h4⟩,0,j+1,a,b,_,ha,hb=>by
  obtain rfl:=Option.some.inj (show some h=some a from ha);have:=(h4.head b (mO (show hs[j]?=some b from hb))).1;omega
 |r :: S,h :: hs,lo,c,⟨_,_,_,h4⟩,i+1,j+1,a,b,hij,ha,hb=>h4.lt_at i j a b (by omega) ha hb
 | [],[],_,_,_,i,j,a,b,_,ha,_=>by simp at ha
 | [],_ :: _,_,_,h,_,_,_,_,_,_,_=>h.elim
 |_ :: _,[],_,_,h,_,_,_,_,_,_,_=>h.elim
theorem Qgf{c lo g:Nat}{S:List Vec}{hs:Vy}(b:Ech lo g S hs){t h:Nat}{r:Vec}(d:hs[t]?=some h)(f:S[t]?=some r):∀k,k<=hs.length->t<k->nullF c S hs k h= -(r c)
 |0,_,ht=>by omega
 |k+1,hk,ht=>by
  have a:k<hs.length:=by omega
  have hl:=b.len;rw[Qec (gE a) (gE (by omega))];by_cases e:t=k
  .
   subst e;obtain rfl:hs[t]=h:=Option.some.inj ((gE a).symm.trans d);obtain⟨_,rfl⟩:=gZ f;exact Qan _ _ _
  .
   have:=b.lt_at t k h hs[k] (by omega) d (gE a);rw[Qad _ _ (by omega)];exact Qgf b d f k (by omega) (by omega)
theorem Qr8(W:Nat)(r x:Vec)(h c:Nat)(f:h<W)(g:c<W)(a:h≠c)(j:∀i,i<W->i≠h->i≠c->r i*x i=0):dot W r x=r h*x h+r c*x c:=by
 have e:=Qch W r (upd x h 0) h (x h) f;have k:upd (upd x h 0) h (x h)=x:=by
  funext i;unfold upd
  split
  . next q=>rw[q]
  . rfl
 rw[k,Qan] at e;rw[e,Qbz W r (upd x h 0) c g (fun i l b=>?_),Qad _ _ (Ne.symm a)]
 . grind
 .
  by_cases d:i=h
  . rw[d,Qan];grind
  . rw[Qad _ _ d];exact j i l d b
theorem Qgg{c W:Nat}{S:List Vec}{hs:Vy}(b:Cln 0 W S hs)(n:c<W)(j:c ∉ hs):Null W S (nullF c S hs hs.length):=by
 intro r o;obtain⟨t,p,rfl⟩:=List.getElem_of_mem o;have hl:=b.ech.len;have k:S[t]?=some S[t]:=gE p;obtain⟨h,d⟩:∃h,hs[t]?=some h:=⟨hs[t]'(by omega),gE _⟩;obtain⟨q,s,u⟩:=b.at t S[t] h k d;have l:=mO d;have f:=(b.ech.head h l).2;have g:h≠c:=fun e=>j (e ▸ l)
 rw[Qr8 W _ _ h c f n g (fun i w x v=>?_)]
 .
  rw[Qgf b.ech d k hs.length lZ (by omega),q,Qcj hl j hs.length lZ];simp only[unitV,if_pos];grind
 .
  by_cases a:i∈ hs
  .
   rcases Nat.lt_or_ge i h with m|m
   . rw[s i m];grind
   . rw[u i a (by omega)];grind
  .
   rw[Qcj hl a hs.length lZ];simp only[unitV,if_neg v];grind
theorem Qgh{c:Nat}{S:List Vec}{hs:Vy}(hl:S.length=hs.length)(a:c ∉ hs):nullF c S hs hs.length c=1:=by
 rw[Qcj hl a hs.length lZ];exact if_pos rfl
theorem Qgi{c d:Nat}{S:List Vec}{hs:Vy}(hl:S.length=hs.length)(b:d ∉ hs)(a:d≠c):nullF c S hs hs.length d=0:=by
 rw[Qcj hl b hs.length lZ];exact if_neg a
def freeTo(hs:Vy)(k:Nat):List Nat:=(List.range k).filter (fun c=>decide (c ∉ hs))
theorem Qdf(hs:Vy)(k:Nat):freeTo hs (k+1)=if k∈ hs then freeTo hs k else freeTo hs k++ [k]:=by
 unfold freeTo;rw[List.range_succ,List.filter_append];by_cases h:k∈ hs
 . rw[if_pos h,List.filter_cons_of_neg (by simpa using h)]
   simp
 . rw[if_neg h,List.filter_cons_of_pos (by simpa using h)]
   simp
theorem freeTo_mem{hs:Vy}{k c:Nat}:c∈ freeTo hs k↔c<k/\c ∉ hs:=by
 unfold freeTo;rw[List.mem_filter,List.mem_range];simp
theorem Qdg(hs:Vy)(k:Nat):(freeTo hs k).length<=k:=by
 unfold freeTo;have:=List.length_filter_le (fun c=>decide (c ∉ hs)) (List.range k);rw[List.length_range] at this;exact this
theorem Qj1(W:Nat)(M:List Vec):∀c,c<=W->∃(L S:List Vec) (hs:Vy),Elim W M c L S hs/\L.length+S.length=M.length
 |0,_=>⟨M,[],[],Elim.start W M,rfl⟩
 |c+1,hc=>by
  obtain⟨L,S,hs,e,hl⟩:=Qj1 W M c (by omega);by_cases h:∀r,r∈ L->r c=0
  . exact⟨L,S,hs,e.skip h,hl⟩
  .
   obtain⟨s,a,b⟩:∃s,s∈ L/\s c≠0:=by
    apply bC;intro g;exact h fun r i=>bC fun k=>g ⟨r,i,k⟩
   obtain⟨j,f,d⟩:=List.getElem_of_mem a;refine⟨_,_,_,e.step (j:=j) (s:=s) (by rw[gE f,d]) b,?_⟩;rw[List.length_map,List.length_eraseIdx_of_lt f,List.length_append,List.length_singleton];omega
theorem Qr9{W:Nat}{M:List Vec}(h:M.length<W):∃x:Vec,Null W M x/\∃c,c<W/\x c≠0:=by
 obtain⟨L,S,hs,d,hl⟩:=Qj1 W M W lZ;obtain⟨a,e⟩:=d.done;have b:=a.len;obtain⟨c,_,c2,c3⟩:=a.hole (by omega);obtain⟨x,x1,x2⟩:=a.solve W (fun i=>if i=c then 1 else 0) lZ;refine⟨x,(e x).2 x2,c,c2,?_⟩;rw[x1 c c3,if_pos rfl];decide
def sumQ:Nat->(Nat->Rat)->Rat
 |0,_=>0
 |n+1,f=>sumQ n f+f n
theorem Qj2:∀(n:Nat) (f:Nat->Rat),(∀p,p<n->f p=0)->sumQ n f=0
 |0,_,_=>rfl
 |n+1,f,h=>by rw[sumQ,Qj2 n f (fun p a=>h p (by omega)),h n (by omega)];grind
theorem Qgj:∀(n:Nat) (f:Nat->Rat) (a:Nat),a<n->(∀p,p<n->p≠a->f p=0)->sumQ n f=f a
 |n+1,f,a,ha,h=>by
  rw[sumQ];by_cases e:a=n
  . subst e
    rw[Qj2 a f (fun p b=>h p (by omega) (by omega)),Rat.zero_add]
  . rw[Qgj n f a (by omega) (fun p b=>h p (by omega)),h n (by omega) (by omega),Rat.add_zero]
theorem Qj3:∀(n:Nat) (f:Nat->Rat) (a b:Nat),a<n->b<n->a≠b->(∀p,p<n->p≠a->p≠b->f p=0)->sumQ n f=f a+f b
 |n+1,f,a,b,ha,hb,hab,h=>by
  rw[sumQ];by_cases e:a=n
  .
   subst e;rw[Qgj a f b (by omega) (fun p d c=>h p (by omega) (by omega) c)];grind
  .
   by_cases g:b=n
   . subst g
     rw[Qgj b f a (by omega) (fun p d c=>h p (by omega) c (by omega))]
   . rw[Qj3 n f a b (by omega) (by omega) hab (fun p d=>h p (by omega)),h n (by omega) (by omega) (by omega),Rat.add_zero]
structure NRow (w:Vz) (g W K:Nat) (us:List FE) (x:Vec):Prop where
 blk:QBlk w g us
 len:us.length=W
 sz:∀t,t∈ us->t.k<=K
 q:∀(i:Nat) (t:FE),us[i]?=some t->t.q=x i
theorem NRow.below{w w':Vz}{g W K:Nat}{us:List FE}{x:Vec}(h:NRow w g W K us x)(a:Bl w w'):NRow w' g W K us x:=⟨h.blk.below a,h.len,h.sz,h.q⟩
theorem NRow.put{w:Vz}{g W K i:Nat}{us:List FE}{x:Vec}{a b c:Value}{q:Rat}(h:NRow w g W K us x)(n:i<W)(k:FracV w (.agg #[a,b,c]) q)(l:Fits q K)(m:0<K):NRow (((w.setCell ⟨g,i*3,none⟩ a).setCell ⟨g,i*3+1,none⟩ b).setCell ⟨g,i*3+2,none⟩ c) g W K (us.set i ⟨a,b,c,q,K⟩) (upd x i q):=by
 have hl:i<us.length:=by have:=h.len;omega
 refine⟨Qev h.blk hl k l m,by rw[List.length_set];exact h.len,fun t f=>?_,fun j t d=>?_⟩
 .
  rcases List.mem_or_eq_of_mem_set f with f|rfl
  . exact h.sz t f
  . exact Nat.le_refl _
 .
  by_cases e:j=i
  .
   subst e;rw[List.getElem?_set_self hl] at d;cases d;exact(Qan _ _ _).symm
  .
   rw[List.getElem?_set_ne (Ne.symm e)] at d;rw[Qad _ _ e];exact h.q j t d
theorem NRow.new(w:Vz)(W K:Nat)(C:Vw)(hC:C=((List.replicate W FE.zero).flatMap FE.cells).toArray)(a:0<K):NRow (w.alloc (.cells C 141)) w.heap.size W K (List.replicate W FE.zero) (fun _=>0):=
 ⟨QBlk.new w W C hC,by simp,fun t b=>by obtain⟨_,rfl⟩:=List.mem_replicate.1 b;exact a,fun i t c=>by obtain⟨_,rfl⟩:=List.mem_replicate.1 (mO c);rfl⟩
theorem NRow.cells{w:Vz}{g W K i:Nat}{us:List FE}{x:Vec}(h:NRow w g W K us x)(b:i<W):∃e:FE,w.cell? ⟨g,i*3,none⟩=some e.x/\w.cell? ⟨g,i*3+1,none⟩=some e.y/\w.cell? ⟨g,i*3+2,none⟩=some e.z/\w.frozen? ⟨g,i*3,none⟩=false/\w.frozen? ⟨g,i*3+1,none⟩=false/\w.frozen? ⟨g,i*3+2,none⟩=false:=by
 have hl:i<us.length:=by have:=h.len;omega
 obtain⟨c,d,a,_,t0,t1,t2⟩:=h.blk.row.at (gE hl);cases a;simp only[Nat.zero_add] at t0 t1 t2;exact⟨us[i],t0,t1,t2,h.blk.blk.free _,h.blk.blk.free _,h.blk.blk.free _⟩
theorem NRow.mr{w:Vz}{g W K:Nat}{us:List FE}{x:Vec}(h:NRow w g W K us x)(b:∀i,W<=i->x i=0):MOk w W K ⟨some ⟨g,0,none⟩,W,us⟩/\(⟨some ⟨g,0,none⟩,W,us⟩:MR).q=x:=by
 refine⟨⟨?_,h.len,h.sz⟩,?_⟩
 .
  have:=h.blk.row;rw[h.len] at this;exact this
 .
  funext i;rcases Nat.lt_or_ge i W with a|a
  . rw[MR.q_at (r:=⟨some ⟨g,0,none⟩,W,us⟩) (e:=us[i]'(by have:=h.len;omega)) (gE _)]
    exact h.q i _ (gE _)
  . rw[MR.q_beyond (by show us.length<=i;have:=h.len;omega),b i a]
theorem Qv8(a b:Vx)(ca cb W K c:Nat)(S:List MR)(hs:Vy)(w:Vz)(hg:Glob w)(hr:CRow w a (S.map MR.val))(hh:CRow w b (headsV hs))(I:Oks w W K S)(C:S.length=hs.length)(J:∀h,h∈ hs->h<W)(hc:c<W)(hW:W<=1000)(hl:hs.length<=1000)(be:1<K):
 Calls prog 86 #[.agg #[.int .i64 W,.slice a S.length ca,.slice b hs.length cb],.int .i64 c] w fun e w'=>∃(g:Nat) (us:List FE),e=.returned (.slice (some ⟨g,0,none⟩) W W)/\NRow w' g W K us (nullF c (S.map MR.q) hs hs.length)/\Below w.heap.size w w':=by
 obtain⟨HG,HR,HH,am,L,an⟩:=Ie hg hr hh I C J;have M:=fun w=>Qcu W (by omega) w
 obtain⟨MC,D⟩:=nm (((List.replicate W FE.zero).flatMap FE.cells).toArray);rw[D] at M;have ao:=Hi D.symm;clear hg hr hh I C J D;obtain⟨B0,E⟩:=nm w.heap.size;obtain⟨W1,m⟩:=nm (w.alloc (.cells #[.int .i64 W,.slice a S.length ca,.slice b hs.length cb] 135));have u:=Ua m;have j:=Uf m E;obtain⟨W2,v⟩:=nm (W1.alloc (.cells MC 141));obtain⟨g,n⟩:=nm W1.heap.size;have N:w.heap.size+1=g:=by rw[<-n,<-m,World.size_alloc]
 have d:=Ua v;have ap:O (NRow W2 g W K (List.replicate W FE.zero) (fun _=>0)):=Hi (by rw[<-v,<-n];exact NRow.new W1 W K MC ao.o (by omega));obtain⟨x0,-⟩:=zc j.o;obtain⟨-,-,x2,-⟩:=zc (j.o.below d.o j.o.lt);obtain⟨ar,au,av,P,aw,ax⟩:=Ie m v E n N (of_val (q:=1) (s:=⟨#[49]⟩) ((HG.o.below u.o).below d.o) one_q (by decide));have Q:O (w.heap.size<=g):=Hi (by rw[<-n];exact u.o.size);rw[<-m] at x0;clear m v E n N;go_enter func86,ntmps86;go_wp2_with fail;rw[ar.o,au.o]
 try rw[aw.o]
 try rw[av.o]
 go_fit ax.o;rintro e w3 ⟨⟨vn,rfl,l⟩,x⟩;obtain⟨nq,aq,lq,dq,mq,oq,pq,rfl,l⟩:=l;have ay:O (FracV w3 (.agg #[.bool nq,.slice aq lq dq,.slice mq oq pq]) 1):=Hi ⟨nq,aq,lq,dq,mq,oq,pq,rfl,l⟩;have R:=Hi (ap.o.below x);obtain⟨e0,c0,c1,c2,f0,f1,f2⟩:=R.o.cells hc;obtain⟨az,a0⟩:=Ia ((j.o.below d.o j.o.lt).below x (j.o.below d.o j.o.lt).lt) (u.o.trans ((d.o.trans (x.mono d.o.size)).mono u.o.size));obtain⟨V,G⟩:=nm (((w3.setCell ⟨g,c*3,none⟩ (.bool nq)).setCell ⟨g,c*3+1,none⟩ (.slice aq lq dq)).setCell ⟨g,c*3+2,none⟩ (.slice mq oq pq));have a1:O (NRow V g W K ((List.replicate W FE.zero).set c ⟨.bool nq,.slice aq lq dq,.slice mq oq pq,1,K⟩) (upd (fun _=>0) c 1)):=Hi (by rw[<-G];exact R.o.put hc ay.o (Fits.one.mono (by omega)) (by omega));have a2:O (Bl w V):=Hi (by
  rw[<-G];have y:=Q.o
  exact((a0.o.setCell (p:=⟨g,c*3,none⟩) y _).setCell (p:=⟨g,c*3+1,none⟩) y _).setCell (p:=⟨g,c*3+2,none⟩) y _)
 have T:O (SB V B0 135 #[.int .i64 W,.slice a S.length ca,.slice b hs.length cb]):=Hi (by
  rw[<-G];have a3:B0≠g:=by have y:=j.o.lt;have h2:=P.o;omega
  exact az.o.only ((((Only.refl g w3).setCell _ _).setCell _ _).setCell _ _) a3)
 obtain⟨-,-,y2,-⟩:=zc T.o;have a4:=Hi G;rw[<-G] at y2;have a5:O (upd (fun _=>0) c 1=nullF c (S.map MR.q) hs 0):=Hi (by
  funext i;unfold upd nullF unitV
  rfl)
 clear l x G x0 x2 M;go_wp2_with fail;rw[a4.o];clear y2 c0 c1 c2 f0 f1 f2;go_loopw [18] (fun iv wr=>∃(k:Nat) (us:List FE),k<=hs.length/\iv=.int .i64 k/\NRow wr g W K us (nullF c (S.map MR.q) hs k)/\SB wr B0 135 #[.int .i64 W,.slice a S.length ca,.slice b hs.length cb]/\Below w.heap.size w wr) (fun iv _=>hs.length - (intOf iv).toNat)
 case atStart=>exact⟨0,_,Nat.zero_le _,rfl,a5.o ▸ a1.o,T.o,a2.o⟩
 case round=>
  obtain⟨k,us,hk,rfl,U,X,Y⟩:=hrel;obtain⟨HN,HS,H⟩:=Ib U X Y;clear U X Y;by_cases a6:k<hs.length
  .
   obtain⟨r,z⟩:∃r,S[k]?=some r:=⟨S[k]'(by have:=L.o;omega),gE _⟩;obtain⟨t,A⟩:∃t,hs[k]?=some t:=⟨hs[k],gE a6⟩;have Z:t<W:=an.o t (mO A);have f:=(am.o.fr (Fr.of_below H.o)) r (mO z);obtain⟨e,he⟩:∃e,r.ts[c]?=some e:=⟨r.ts[c]'(by have:=f.len;omega),gE _⟩;obtain⟨rb,ro,aa,bf,d0,d1,d2⟩:=f.row.at he;have F:=f.row.get he;have ab:=f.sz e (mO he);obtain⟨bg,bh,rfl,bi,a7⟩:=(HH.o.below H.o).cell k (.int .i64 (t:Nat)) (by simp[headsV,A]);obtain⟨gb,go,rfl,bj,ad⟩:=(HR.o.below H.o).cell k r.val (by rw[List.getElem?_map,z];rfl);rw[MR.val,aa,f.len] at ad;obtain⟨-,x1,-⟩:=zc HS.o;have q2:((k:Int)<(hs.length:Int)):=by omega
   have q3:((c:Int)<(W:Int)):=by omega
   have q4:((k:Int)<(S.length:Int)):=by have:=L.o;omega
   have a8:=Hi (Qc3 F.1);have a9:O (Fits (-e.q) K):=Hi (Fits.neg (F.2.1.mono ab));have ba:O (nullF c (S.map MR.q) hs (k+1)=upd (nullF c (S.map MR.q) hs k) t (-e.q)):=Hi (by
    rw[Qec A (r:=r.q) (by rw[List.getElem?_map,z];rfl),MR.q_at he])
   clear f he F ab z A aa;go_wp2_with fail;go_fit a8.o;rintro e' w4 ⟨⟨vn,rfl,l⟩,B⟩;obtain⟨ae,af,ag,ah,ai,aj,ak,rfl,l⟩:=l;have bb:O (FracV w4 (.agg #[.bool ae,.slice af ag ah,.slice ai aj ak]) (-e.q)):=Hi ⟨ae,af,ag,ah,ai,aj,ak,rfl,l⟩;obtain⟨al,bc,bd⟩:=Ib (HN.o.below B) (HS.o.below B HS.o.lt) (H.o.trans (B.mono H.o.size));obtain⟨e0,c0,c1,c2,f0,f1,f2⟩:=al.o.cells Z;have q5:((t:Int)<(W:Int)):=by omega
   clear l B ad a7 x1 d0 d1 d2;go_wp2;go_roundw
   case rel=>
    have y:=Q.o;refine⟨k+1,_,by omega,by go_num,ba.o ▸ al.o.put Z bb.o a9.o (by omega),bc.o.only ((((Only.refl g w4).setCell _ _).setCell _ _).setCell _ _) ?_,((bd.o.setCell (p:=⟨g,t*3,none⟩) y _).setCell (p:=⟨g,t*3+1,none⟩) y _).setCell (p:=⟨g,t*3+2,none⟩) y _⟩;have y:=j.o.lt;have h2:=P.o;omega
   case measure=>simp[intOf];omega
  .
   obtain rfl:k=hs.length:=by omega
   go_wp2;go_ret;exact⟨g,us,rfl,HN.o,H.o⟩
def appR(P:Program)(t ty:Vr)(vs vx:Value)(w:Vz):Result Value:=(Builtin.append_ #[t,t] ty #[vs,vx]).run P w
@[go_sem ↓] theorem Qxx (ρ:Operand->Value) (dst:Option Tmp) (x y:Operand) (t ty:Vr) (pos:String) (after:Array Go.Edge) (guard:Option (Nat × Bool)) (w:Vz):
   (execOp ρ { dst,op:=.call { callee:=.builtin .append,args:=#[x,y],argTypes:=#[t,t] },type:=ty,pos,after,guard }).run prog w=(appR prog t ty (ρ x) (ρ y) w).andThen (fun v w'=>.ok (.value v) w'):=by
  have e:(#[x,y]:Array Operand).map ρ=#[ρ x,ρ y]:=by simp
  rw[BigFrame.execOp_builtin,BigFrame.builtin_append,e,Sem.run_bind]
  unfold appR
  simp only[Sem.run_pure]
theorem Grow.row{w:Vz}{B nb c:Nat}{v:Value}{a:List MR}{r:MR}(h:Grow w B 93 1 IsSl v a.length (a.map MR.val))(g:w.cell? ⟨nb,0,none⟩=some r.val)(s:a.length<=1000)(hB:B<=w.heap.size)(ty:Vr):
 ∃d w',appR prog 89 ty v (.slice (some ⟨nb,0,none⟩) 1 c) w=.ok d w'/\Grow w' B 93 1 IsSl d (a++ [r]).length ((a++ [r]).map MR.val)/\w.grownBy w' v.ownBlock:=by
 obtain⟨i,k,l⟩:=Option.map_eq_some_iff.1 Qcv;injection l with m e
 injection e with e n
 obtain⟨d,w',o,p,q,_⟩:=h.app (P:=prog) (t:=89) (ty:=ty) underlying89 k m e n rfl (by decide) (fun u b=>⟨none,0,0,by simpa [Value.cells] using b⟩) ⟨nb,0,none⟩ 1 c [r.val] rfl (fun j u f=>by
  match j,f with
  |0,f=>
   obtain rfl:=Option.some.inj f
   exact g) (fun u b=>by obtain rfl:=List.mem_singleton.1 b;rfl) (fun u b=>by obtain rfl:=List.mem_singleton.1 b;exact⟨_,_,_,rfl⟩) (by omega) (by decide) hB
 refine⟨d,w',o,?_,q⟩;rw[List.length_append,List.length_singleton,List.map_append];exact p
theorem Qb4{w w':Vz}{B:Nat}{v:Value}(h:w.grownBy w' v.ownBlock)(a:∀g,v.ownBlock=some g->B<=g)(hB:B<=w.heap.size):Below B w w':=
 ⟨h.os,h.tape,h.output,h.size,fun b c=>h.block b (by omega) (fun e=>by have:=a b e.symm;omega)⟩
theorem Qv9{w w':Vz}{B n:Nat}{v:Value}{xs:Vv}(a:Grow w B 93 1 IsSl v n xs)(h:w.grownBy w' v.ownBlock):Fr w w':=a.only h (fun C hC=>IsSl.plain hC)
structure NullsAt (w w':Vz) (W K:Nat) (v:Value) (vs:List Vec) (ns:List MR):Prop where
 list:Grow w' w.heap.size 93 1 IsSl v ns.length (ns.map MR.val)
 ok:Oks w' W K ns
 own:∀r,r∈ ns->∃g,r.a=some ⟨g,0,none⟩/\r.cap=W
 q:ns.map MR.q=vs
 base:Bl w w'
theorem Qlm(a:Vx)(cap W K:Nat)(rs:List MR)(w:Vz)(ad:Glob w)(I:Nat->List Vec->List Vec->List Nat->Prop)(hI:Going K I)(h:ARow MR.cells w a cap rs)(ae:Oks w W K rs)(hl:rs.length<=1000)(hW:W<=1000)(ay:1<K)(hK:4*K+1<68719476000)(h0:I 0 (rs.map MR.q) [] [])
 (z:∀L S hs,I W L S hs->Ech 0 W S hs/\clnFits K S hs):
 Calls prog 41 #[.slice a rs.length cap,.int .i64 W] w fun e w'=>∃(L S:List Vec) (hs:Vy) (v:Value) (j:List MR),e=.returned v/\I W L S hs/\NullsAt w w' W K v ((freeTo hs W).map (fun c=>nullF c (cln S hs) hs hs.length)) j:=by
 obtain⟨af,HF,HG⟩:=Ib (Qg7 a cap W K W rs w I hI h ae hl hW lZ (by omega) hK h0) z ad;clear hI h ae h0 z ad;go_enter func41,ntmps41;go_wp2_with fail;go_fit af.o;rintro e w2 ⟨⟨L,S,hs,sv,hv,rfl,hi,bg,bh,E,F,ag⟩,ah⟩;obtain⟨b1,c1,rfl,_,_,_⟩:=E.slice;obtain⟨b2,c2,rfl,_,_,_⟩:=F.slice;obtain⟨n,ai⟩:=HF.o _ _ _ hi;obtain⟨HI,HE,az,aj,a0,a1,ak,G⟩:=Ig hi n ai E F ag ah (by have:=n.len;simpa using this);clear hi E F ag ah n ai af;obtain⟨B0,t⟩:=nm w2.heap.size;obtain⟨V,hV⟩:=nm (w2.alloc (.cells #[.int .i64 (W:Nat),.slice b1 S.length c1,.slice b2 hs.length c2] 135));have p:=Ua hV
 have u:=Uf hV t;have al:=Hi (Qll w.heap.size W K S hs (.slice b1 S.length c1) (.slice b2 hs.length c2) (W:Nat) V (aj.o.below p.o) (a0.o.below p.o) (a1.o.fr (Fr.of_below p.o)) G.o (fun c hc=>(HE.o.head c hc).2) az.o (by omega) (by omega) (by omega) hK);obtain⟨x0,x1,x2,-⟩:=zc u.o;obtain⟨a2,a3⟩:=Ia hV t;rw[<-hV] at x0 x1 x2;rw[<-t] at x0 x1 x2;clear hV t;go_wp2_with fail;rw[a2.o,a3.o];clear x0 x1 x2;go_fit al.o;rintro e w4 ⟨rfl,S',am,an,b⟩;have l:=Hi (ak.o.trans (p.o.mono ak.o.size))
 have s:O (Bl w w4):=Hi ⟨b.o.1.trans l.o.os,b.o.2.1.trans l.o.tape,b.o.2.2.1.trans l.o.output,Nat.le_trans l.o.size b.o.2.2.2,fun k hk=>(b.base k (Nat.lt_of_lt_of_le hk l.o.size) (fun e=>by have:=(b.rows.lt e).1;omega)).trans (l.o.block k hk)⟩;have A:O (SB w4 B0 135 #[.int .i64 (W:Nat),.slice b1 S.length c1,.slice b2 hs.length c2]):=Hi (by
  have h1:=b.base B0 u.o.lt (fun e=>by
   obtain⟨D,d1,_⟩:=(aj.o.below p.o).sb e
   exact u.o.unlike d1 row_stairs.symm rfl)
  have h2:=u.o;unfold SB at h2 ⊢;rw[h1]
  exact h2)
 obtain⟨a4,H,a5⟩:=Ib b am an;clear b am an al;go_wp2_with fail;go_loopw [14,6] (fun iv nv wr=>∃(k:Nat) (j:List MR),k<=W/\iv=.int .i64 k/\Grow wr w4.heap.size 93 1 IsSl nv j.length (j.map MR.val)/\Oks wr W K j/\(∀r,r∈ j->∃g,r.a=some ⟨g,0,none⟩/\r.cap=W)/\j.map MR.q=(freeTo hs k).map (fun c=>nullF c (S'.map MR.q) hs hs.length)/\Below w4.heap.size w4 wr) (fun iv _ _=>W - (intOf iv).toNat)
 case atStart=>exact⟨0,[],Nat.zero_le _,rfl,Grow.nil _ _ _ _ _,okNil,(fun r m=>by cases m),rfl,Below.refl _ _⟩
 case round=>
  obtain⟨k,j,hk,rfl,ao,B,ap,hq,aq⟩:=hrel;obtain⟨J,M,N,HQ,d⟩:=Id ap ao B hq aq;have a6:O (j.length<=1000):=Hi (by
   have h1:=congrArg List.length hq;rw[List.length_map,List.length_map] at h1;have h2:=Qdg hs k
   omega)
  clear ao B ap hq aq;by_cases a7:k<W
  .
   have q1:((k:Int)<(W:Int)):=by omega
   have b:=a4.o.below d.o;obtain⟨x0,x1,x2,-⟩:=zc (A.o.below d.o A.o.lt);have a8:=Hi (Qlj b2 c2 k hs wr b.heads.crow (by omega));have P:=Qv8 b1 b2 c1 c2 W K k S' hs wr (HG.o.below (s.o.trans (d.o.mono s.o.size))) b.rows.crow b.heads.crow b.ok (by have:=H.o;have:=G.o;omega) (fun c hc=>(HE.o.head c hc).2) a7 hW (by omega) ay;rw[H.o] at P;have a9:=Hi P;clear b P;go_wp2_with fail;go_fit a8.o;rintro e w5 ⟨rfl,rfl⟩;by_cases x:k∈ hs
   .
    rw[decide_eq_true x];have Q:O (freeTo hs (k+1)=freeTo hs k):=Hi (by rw[Qdf,if_pos x]);clear x;go_wp2;go_roundw
    case rel=>exact⟨k+1,j,by omega,by go_num,M.o,N.o,J.o,by rw[Q.o];exact HQ.o,d.o⟩
    case measure=>simp[intOf];omega
   .
    rw[decide_eq_false x];have Q:O (freeTo hs (k+1)=freeTo hs k++ [k]):=Hi (by rw[Qdf,if_neg x]);have bi:=Hi x;clear x;go_wp2_with fail;go_fit a9.o;rintro e R ⟨g,us,rfl,T,U⟩;have ar:(S'.map MR.q).length=hs.length:=by rw[List.length_map];have:=H.o;have:=G.o;omega
    obtain⟨au,av⟩:=T.mr (fun i hi=>by
     rw[Qcj ar (fun x=>by have:=(HE.o.head i x).2;omega) hs.length lZ]
     exact if_neg (by omega))
    obtain⟨X,hX⟩:=nm (R.alloc (.cells #[.slice (some ⟨g,0,none⟩) W W] 93));have Y:Bl R X:=by rw[<-hX];exact(Below.refl _ _).alloc lZ _
    have f:=U.trans (Y.mono U.size);have aw:X.cell? ⟨R.heap.size,0,none⟩=some (MR.val ⟨some ⟨g,0,none⟩,W,us⟩):=by
     rw[MR.val,T.len,<-hX];exact Qa0 R _ _
    have y:=M.o.below f;have Z:w4.heap.size<=X.heap.size:=by have h1:=d.o.size;have h2:=f.size;omega
    obtain⟨v7,w7,C,ax,aa⟩:=y.row (r:=⟨some ⟨g,0,none⟩,W,us⟩) (c:=1) aw a6.o Z 89;have ab:=Qv9 y aa;have ba:=Hi ax;have bb:O (Oks w7 W K (j++ [⟨some ⟨g,0,none⟩,W,us⟩])):=Hi (fun r m=>by
     rcases List.mem_append.1 m with m|m
     . exact((N.o.fr (Fr.of_below f)).fr ab) r m
     . obtain rfl:=List.mem_singleton.1 m
       exact(au.fr (Fr.of_below Y)).fr ab)
    have bc:O (∀r,r∈ j++ [(⟨some ⟨g,0,none⟩,W,us⟩:MR)]->∃g,r.a=some ⟨g,0,none⟩/\r.cap=W):=Hi (fun r m=>by
     rcases List.mem_append.1 m with m|m
     . exact J.o r m
     . obtain rfl:=List.mem_singleton.1 m
       exact⟨_,rfl,rfl⟩)
    have bd:O ((j++ [(⟨some ⟨g,0,none⟩,W,us⟩:MR)]).map MR.q=(freeTo hs (k+1)).map (fun c=>nullF c (S'.map MR.q) hs hs.length)):=Hi (by
     rw[Q.o,List.map_append,List.map_append,HQ.o,List.map_singleton,List.map_singleton,av])
    have be:=Hi ((d.o.trans (f.mono d.o.size)).trans (Qb4 aa (fun g hg=>(y.lt hg).1) Z));have bf:appR prog 89 89 u6 (.slice (some ⟨R.heap.size,0,none⟩) 1 1) (R.alloc (.cells #[.slice (some ⟨g,0,none⟩) W W] 93))=.ok v7 w7:=by rw[hX];exact C
    clear ar au av hX Y f aw y Z C ax aa ab T U x0 x1 x2;go_wp2;go_roundw
    case rel=>exact⟨k+1,_,by omega,by go_num,ba.o,bb.o,bc.o,bd.o,be.o⟩
    case measure=>simp[intOf];omega
  .
   obtain rfl:k=W:=by omega
   go_wp2;go_ret;refine⟨_,_,hs,_,j,rfl,HI.o,M.o.mono s.o.size,N.o,J.o,?_,s.o.trans (d.o.mono s.o.size)⟩;rw[HQ.o,a5.o]
def turnTo(M:Nat->Nat->Rat)(k j:Nat):Nat->Nat->Rat:=fun c i=>if i<k∨(i=k/\c<j) then M i c else 0
theorem Qwa(a:Vx)(cap W K:Nat)(rs:List MR)(w:Vz)(h:QMat w a cap W rs)(hk:∀r,r∈ rs->∀t,t∈ r.ts->t.k<=K)(hl:rs.length<=1000)(hW:W<=1000)(T:0<K):
 Calls prog 43 #[.slice a rs.length cap,.int .i64 W] w fun e w'=>∃(G:Nat) (C:List MR),e=.returned (.slice (some ⟨G,0,none⟩) W W)/\C.length=W/\QMat w' (some ⟨G,0,none⟩) W rs.length C/\Oks w' rs.length K C/\C.map MR.q=(List.range W).map (fun c i=>if i<rs.length then (rs.map MR.q).getD i (fun _=>0) c else 0)/\Below w.heap.size w w':=by
 obtain⟨U,HK⟩:=Ia h hk;obtain⟨n,V⟩:=nm rs.length;have D:=Hi (Qhg W n w hW (by omega));obtain⟨M,hM⟩:∃M:Nat->Nat->Rat,M=fun i c=>(rs.map MR.q).getD i (fun _=>0) c:=⟨_,rfl⟩
 obtain⟨X,HN⟩:=Ia hM V;rw[V] at hl ⊢;clear h hk hM V;go_enter func43,ntmps43;go_wp2_with fail;go_fit D.o;rintro e v ⟨⟨G,B,rfl,E,u,A,d,F⟩,hb⟩;have Y:O (GM w v w.heap.size G n K B (turnTo M 0 0)):=Hi (by
  refine⟨hb,A,fun r g m=>⟨_,(d r g m).1,by simp,fun c t ht=>?_⟩,F,fun r g m=>by have:=(d r g m).2;omega,u,fun r g m=>by have:=(d r g m).2;omega⟩;obtain⟨_,rfl⟩:=List.mem_replicate.1 (mO ht)
  exact⟨by simp[turnTo,FE.zero],by simp[FE.zero];omega⟩)
 have p:=Hi E;clear E u A d F hb D;go_wp2_with fail;go_loopw [15] (fun Z wr=>∃k:Nat,k<=n/\Z=.int .i64 k/\GM w wr w.heap.size G n K B (turnTo M k 0)) (fun Z _=>n - (intOf Z).toNat)
 case atStart=>exact⟨0,Nat.zero_le _,rfl,Y.o⟩
 case round=>
  obtain⟨k,hk,rfl,f⟩:=hrel;have S:=Hi f;clear f;by_cases H:k<n
  .
   obtain⟨r,m⟩:∃r,rs[k]?=some r:=⟨rs[k]'(by have:=HN.o;omega),gE _⟩;have l:=U.o.below S.o.base;obtain⟨b,ad,rfl,ae,d0⟩:=l.at m;have q1:((k:Int)<(n:Int)):=by omega
   have I:=Hi m;clear l m;go_wp2_with fail;clear d0;go_loopw [21] (fun jv wi=>∃j:Nat,j<=W/\jv=.int .i64 j/\GM w wi w.heap.size G n K B (turnTo M k j)) (fun jv _=>W - (intOf jv).toNat)
   case atStart=>exact⟨0,Nat.zero_le _,rfl,S.o⟩
   case round=>
    obtain⟨j,hj,rfl,f⟩:=hrel;have J:=Hi f;clear f;by_cases af:j<W
    .
     obtain⟨g,hg⟩:∃g,B[j]?=some g:=⟨B[j]'(by have:=p.o;omega),gE _⟩;have l:=U.o.below J.o.base;obtain⟨d,L⟩:=l.get I.o;obtain⟨e,N⟩:∃e,r.ts[j]?=some e:=⟨r.ts[j]'(by omega),gE _⟩;obtain⟨rb,ro,P,ag,d0,d1,d2⟩:=d.at N;have s:=d.get N;have Q:=HK.o r (mO I.o) e (mO N);have s0:=J.o.cell hg;obtain⟨x,y,z,c0,c1,c2,f0,f1,f2⟩:=J.o.at hg H;have aa:O (GM w (set3 wr g k e.x e.y e.z) w.heap.size G n K B (turnTo M k (j+1))):=Hi (by
      refine(J.o.put lZ hg H s.1 (s.2.1.mono Q) T).congr (fun c i=>?_);have ab:M k j=e.q:=by rw[X.o];simp[List.getD,I.o,MR.q_at N]
      simp only[updM,turnTo];by_cases h1:c=j/\i=k
      . obtain⟨rfl,rfl⟩:=h1
        rw[if_pos ⟨rfl,rfl⟩,if_pos (.inr ⟨rfl,by omega⟩),ab]
      .
       rw[if_neg h1];by_cases R:i<k∨(i=k/\c<j)
       . rw[if_pos R,if_pos (by omega)]
       . rw[if_neg R,if_neg (by omega)])
     obtain⟨o1,o2,o3⟩:=s.1.one;have ah:=Qao prog o1;have ai:=Qao prog o2;have aj:=Qao prog o3;have q2:((j:Int)<(W:Int)):=by omega
     have q3:((j:Int)<(r.ts.length:Int)):=by omega
     rw[P];clear l d L N s Q o1 o2 o3 P;go_wp2_with fail;go_region;go_wp2;go_roundw
     case rel=>exact⟨j+1,by omega,by go_num,aa.o.below bR.drew⟩
     case measure=>simp[intOf];omega
    .
     obtain rfl:j=W:=by omega
     have HE:O (GM w wr w.heap.size G n K B (turnTo M (k+1) 0)):=Hi (by
      refine J.o.congr (fun c i=>?_);simp only[turnTo];by_cases R:i<k∨(i=k/\c<j)
      . rw[if_pos R,if_pos (by omega)]
      .
       rw[if_neg R];by_cases h3:i<k+1
       .
        obtain rfl:i=k:=by omega
        have L:=(U.o.get I.o).2;rw[if_pos (.inl h3),X.o];simp only[List.getD,List.getElem?_map,I.o,Option.map_some,Option.getD_some];rw[MR.q_beyond (by omega)]
       . rw[if_neg (by omega)])
     go_wp2;go_roundw
     case rel=>exact⟨k+1,by omega,by go_num,HE.o⟩
     case measure=>simp[intOf];omega
  .
   obtain rfl:k=n:=by omega
   obtain⟨C,t1,t2,t3,t4,t5⟩:=S.o.rows (fun r c hc=>if_neg (by omega));go_wp2;go_ret;refine⟨G,C,rfl,?_,?_,?_,?_,S.o.base⟩
   . rw[t1,p.o]
   . rw[<-p.o];exact t2
   . exact t3
   .
    rw[t5,p.o];apply List.map_congr_left;intro c _;funext i;simp only[turnTo,X.o,Nat.not_lt_zero,and_false,or_false]
def S2.none:S2:=⟨⟨#[]⟩,⟨#[]⟩⟩
theorem Qqr(n:Nat):madeCells (Value.cells (.agg #[.string ⟨#[]⟩,.string ⟨#[]⟩])) (n*2)=((List.replicate n S2.none).flatMap S2.cells).toArray:=by
 apply Array.ext';apply List.ext_getElem?;intro i;by_cases d:i<n*2
 .
  have b:(List.replicate n S2.none)[i / 2]?=some S2.none:=by rw[List.getElem?_replicate,if_pos (by omega)]
  have a:i % 2=0∨i % 2=1:=by omega
  have e:Value.cells (.agg #[.string ⟨#[]⟩,.string ⟨#[]⟩])=#[.string ⟨#[]⟩,.string ⟨#[]⟩]:=by rfl
  have f:i / 2*2+i % 2=i:=by omega
  have g:(madeCells (Value.cells (.agg #[.string ⟨#[]⟩,.string ⟨#[]⟩])) (n*2)).toList[i]?=some ((#[Value.string ⟨#[]⟩,.string ⟨#[]⟩]:Array Value)[i % 2]!):=by
   rw[e];simp[madeCells,d]
  rw[g];have c:∀u,(S2.cells S2.none)[i % 2]?=some u->((List.replicate n S2.none).flatMap S2.cells)[i]?=some u:=fun u h=>by
   have:=Qcb (sz:=2) (fun _=>rfl) _ _ _ _ _ b h;rw[f] at this;exact this
  simp only[List.toList_toArray];rcases a with a|a
  all_goals
   rw[a] at c ⊢;exact(c _ rfl).symm
 .
  have b:((List.replicate n S2.none).flatMap S2.cells).length=n*2:=by rw[Qa9 (sz:=2) (fun _=>rfl)];simp
  have j:=size_madeCells (Value.cells (.agg #[.string ⟨#[]⟩,.string ⟨#[]⟩])) (n*2);rw[List.getElem?_eq_none (by rw[Array.length_toList,j];omega),List.getElem?_eq_none (by simp only[List.toList_toArray];rw[b];omega)]
theorem Qqs:(prog.info? 56).map (fun i=>(i.zero,i.size,i.bytes))=some (some (.agg #[.string ⟨#[]⟩,.string ⟨#[]⟩]),2,32):=by kernel_rfl
theorem Qqt(n:Nat)(d:n<=1048576)(w:Vz):(Instr.makeSlice 22 (.int .i64 n) (.int .i64 n)).run prog w=.ok (.slice (some ⟨w.heap.size,0,.none⟩) n n) (w.alloc (.cells ((List.replicate n S2.none).flatMap S2.cells).toArray 56)):=by
 obtain⟨i,a,h⟩:=Option.map_eq_some_iff.1 Qqs;simp only[Prod.mk.injEq] at h;obtain⟨b,hs,c⟩:=h;have:=run_make w 22 56 i _ underlying22 a b .i64 .i64 n n (by omega) (by omega) (by rw[c];omega) (by omega);rw[Int.toNat_natCast,hs,Qqr] at this;exact this
theorem Qjn:∀(a:List S2) (k:Nat) (e:S2),k<a.length->(a.set k e).flatMap S2.cells=((a.flatMap S2.cells).set (k*2) (.string e.x)).set (k*2+1) (.string e.y)
 | [],k,e,h=>by simp at h
 |t :: l,0,e,_=>by simp[S2.cells]
 |t :: l,k+1,e,h=>by
  have b:=Qjn l k e (by simpa using h);rw[List.set_cons_succ,List.flatMap_cons,b,List.flatMap_cons];simp only[S2.cells,List.cons_append,List.nil_append];rw[show (k+1)*2=k*2+1+1 by omega];simp only[List.set_cons_succ,Nat.add_assoc]
def SpotsTold(x:Vec)(ss:List S2):Prop:=∀(i:Nat) (s:S2),ss[i]?=some s->QText s.x.data.toList (x (2*i))/\QText s.y.data.toList (x (2*i+1))
theorem Qqu(a:Vx)(cap n K:Nat)(r:MR)(w:Vz)(z:Glob w)(h:MOk w (2*n) K r)(ad:r.a=a)(ae:r.cap=cap)(hK:K<=274877906944)(hn:n<=10):
 Calls prog 44 #[.slice a (2*n) cap] w fun e w'=>(∃(g:Nat) (f:List S2),e=.returned (.slice (some ⟨g,0,none⟩) n n)/\f.length=n/\SB w' g 56 (f.flatMap S2.cells).toArray/\SpotsTold r.q f)/\Below w.heap.size w w':=by
 subst ad;subst ae;obtain⟨H,af⟩:=Ia h z;have I:=fun w=>Qqt n (by omega) w
 obtain⟨MC,D⟩:=nm (((List.replicate n S2.none).flatMap S2.cells).toArray);rw[D] at I;have ag:=Hi D;have az:((2*n:Nat):Int).tdiv 2=(n:Int):=by rw[Int.tdiv_eq_ediv_of_nonneg (by omega)];omega
 have a0:IntKind.i64.wrap (n:Int)=(n:Int):=wrap_i64 _ (by omega) (by omega);clear h z D;go_enter func44,ntmps44;go_wp2_with fail;clear I;obtain⟨g,z⟩:=nm w.heap.size;obtain⟨V,hV⟩:=nm (w.alloc (.cells MC 56));have ah:O (Below g w V):=Hi (by rw[<-hV,<-z];exact(Below.refl _ _).alloc lZ _);have ai:O (SB V g 56 ((List.replicate n S2.none).flatMap S2.cells).toArray):=Hi (by rw[<-hV,<-z,ag.o];exact SB.new w _ _)
 try rw[hV]
 try rw[z]
 clear hV;go_loopw [11] (fun i wr=>∃(k:Nat) (f:List S2),k<=n/\i=.int .i64 k/\f.length=n/\SB wr g 56 (f.flatMap S2.cells).toArray/\(∀(i:Nat) (s:S2),i<k->f[i]?=some s->QText s.x.data.toList (r.q (2*i))/\QText s.y.data.toList (r.q (2*i+1)))/\Below g w wr) (fun i _=>n - (intOf i).toNat)
 case atStart=>exact⟨0,_,by omega,rfl,by simp,ai.o,fun i s hi=>by omega,ah.o⟩
 case round=>
  obtain⟨k,f,hk,rfl,J,E,A,hb⟩:=hrel;obtain⟨HB,l,HA⟩:=Ib hb E A;have L:=E.lt;have b:=Hi J;clear hb E A J;by_cases a1:k<n
  .
   have m:Below w.heap.size w wr:=by rw[z];exact HB.o
   have M:=H.o.len;obtain⟨t,N⟩:∃t,r.ts[2*k]?=some t:=⟨r.ts[2*k]'(by omega),gE _⟩;obtain⟨u,hu⟩:∃u,r.ts[2*k+1]?=some u:=⟨r.ts[2*k+1]'(by omega),gE _⟩;have c:=H.o.row.below m;obtain⟨fb,aj,F,a2,d0,d1,d2⟩:=c.at N;obtain⟨P,Q,ak,al,R,am,an,ao,S⟩:=Ih (c.get N) hu (H.o.sz t (mO N)) (H.o.sz u (mO hu)) (af.o.below m) (MR.q_at N) (MR.q_at hu) m (fun v=>Qdn k v (by omega));have T:=Hi (fun v=>Qdo k v (by omega));have q1:((k:Int)<(n:Int)):=by omega
   have q2:((2*k:Nat):Int)<((2*n:Nat):Int):=by omega
   have q3:((2*k+1:Nat):Int)<((2*n:Nat):Int):=by omega
   have ek:(2*(k:Int))=((2*k:Nat):Int):=by omega
   have U:(2*(k:Int)+1)=((2*k+1:Nat):Int):=by omega
   simp only[ek] at S;simp only[U] at T;obtain⟨s0,W⟩:∃s0,f[k]?=some s0:=⟨f[k]'(by have:=b.o;omega),gE _⟩;obtain⟨ap,aq⟩:=Ia W F;rw[F];clear N m W M c hu ek U F;go_wp2_with fail;go_fit (S.o wr);rintro e w1 ⟨rfl,rfl⟩;go_wp2_with fail;go_fit (Qfr R.o.tab P.o.1 (P.o.2.1.mono ak.o) hK);rintro e w2 ⟨⟨s,rfl,X⟩,Y⟩;obtain⟨ar,j⟩:=Ia X Y;clear X Y d0 d1 d2;go_wp2_with fail;go_fit (T.o w2);rintro e w3 ⟨rfl,rfl⟩;have c:=(H.o.row.below ao.o).below j.o;obtain⟨au,Z,B,ay,d0,d1,d2⟩:=c.at Q.o;have aa:=Hi (c.get Q.o);obtain⟨e1,e2⟩:fb=au/\aj=Z:=by
    have:=aq.o.symm.trans B
    simpa using this
   subst e1;subst e2;clear c B;go_wp2_with fail;go_fit (Qfr (R.o.below j.o).tab aa.o.1 (aa.o.2.1.mono al.o) hK);rintro e w4 ⟨⟨s',rfl,C⟩,G⟩;have ab:=Hi C;obtain⟨av,d⟩:=Ia G ((l.o.below j.o l.o.lt).below G (l.o.below j.o l.o.lt).lt);have f0:=d.o.free (k*2);have f1:=d.o.free (k*2+1);have hA:ARow S2.cells w4 (some ⟨g,0,none⟩) n f:=d.o.arow rfl (by have:=b.o;omega);obtain⟨bb,oo,aw,_,t0,t1⟩:=hA.spot ap.o;cases aw;simp only[Nat.zero_add] at t0 t1;clear C G d0 d1 d2 hA;go_wp2;go_roundw
   case rel=>
    refine⟨k+1,f.set k ⟨s,s'⟩,by omega,by go_num,by rw[List.length_set];exact b.o,?_,fun i y hi hy=>?_,(((HB.o.trans (j.o.mono (Nat.le_of_lt L))).trans (av.o.mono (Nat.le_trans (Nat.le_of_lt L) j.o.size))).setCell (p:=⟨g,k*2,none⟩) lZ _).setCell (p:=⟨g,k*2+1,none⟩) lZ _⟩
    .
     have:=(d.o.set (k*2) (.string s)).set (k*2+1) (.string s');rw[Qjn _ _ _ (by have:=b.o;omega)]
     simpa using this
    .
     rcases Nat.lt_or_ge i k with h1|h1
     . rw[List.getElem?_set_ne (by omega)] at hy
       exact HA.o i y h1 hy
     .
      obtain rfl:i=k:=by omega
      rw[List.getElem?_set_self (by have:=b.o;omega)] at hy;obtain rfl:=Option.some.inj hy;exact⟨am.o ▸ ar.o,an.o ▸ ab.o⟩
   case measure=>simp[intOf];omega
  .
   have ax:k=n:=by omega
   subst ax;go_wp2;go_ret;rw[z];exact⟨⟨g,f,rfl,b.o,l.o,fun i s hs=>HA.o i s (by have:=(gZ hs).1;have:=b.o;omega) hs⟩,HB.o⟩
theorem Qoh(p:Rat):p*(p.den:Rat)=(p.num:Rat):=by
 have a:(p.den:Rat)≠0:=by
  intro h;exact p.den_nz (Rat.natCast_inj.1 (by rw[h];rfl))
 have:p=(p.num:Rat) / (p.den:Rat):=by rw[<-Rat.mkRat_eq_div,Rat.mkRat_self]
 rw[Rat.div_def] at this;have e:p*(p.den:Rat)=(p.num:Rat)*(p.den:Rat)⁻¹*(p.den:Rat):=by rw[<-this]
 rw[e,Rat.mul_assoc,Rat.inv_mul_cancel _ a,Rat.mul_one]
def denP:List Rat->Nat
 | []=>1
 |q :: l=>q.den*denP l
theorem Qh4:∀l:List Rat,0<denP l
 | []=>by decide
 |q :: l=>Nat.mul_pos q.den_pos (Qh4 l)
theorem Qh5:∀(l:List (Rat × Nat)),(∀p,p∈ l->Fits p.1 p.2)->denP (l.map (·.1))<=2 ^ (l.map (·.2)).sum
 | [],_=>by decide
 |p :: l,h=>by
  rw[List.map_cons,List.map_cons,denP,List.sum_cons,Nat.pow_add];exact Nat.mul_le_mul (Nat.le_of_lt (h p (by simp)).2) (Qh5 l fun q a=>h q (by simp[a]))
def Wh(P b:Nat)(q:Rat):Prop:=∃z:Int,q*(P:Rat)=(z:Rat)/\z.natAbs<=2 ^ b
theorem Wh.mono{P b c:Nat}{q:Rat}(h:Wh P b q)(a:b<=c):Wh P c q:=by
 obtain⟨z,e,d⟩:=h;exact⟨z,e,Nat.le_trans d (Nat.pow_le_pow_right (by decide) a)⟩
theorem Wh.zero(P b:Nat):Wh P b 0:=⟨0,by rw[Rat.zero_mul];rfl,by simp⟩
theorem Wh.neg{P b:Nat}{q:Rat}(h:Wh P b q):Wh P b (-q):=by
 obtain⟨z,e,a⟩:=h;refine⟨-z,?_,by rw[Int.natAbs_neg];exact a⟩;rw[Rat.intCast_neg,<-e];grind
theorem Wh.sub{P b:Nat}{p q:Rat}(h:Wh P b p)(k:Wh P b q):Wh P (b+1) (p - q):=by
 obtain⟨y,e,a⟩:=h;obtain⟨z,f,c⟩:=k;refine⟨y - z,?_,?_⟩
 . rw[Rat.intCast_sub,<-e,<-f]
   grind
 . rw[Nat.pow_succ]
   omega
theorem Wh.of_mem:∀{l:List Rat} {q:Rat} {k m:Nat},q∈ l->Fits q k->denP l<=2 ^ m->Wh (denP l) (k+m) q
 |p :: l,q,k,m,h,hf,hm=>by
  have b:∀(t:List Rat) (q:Rat),q∈ t->∃d:Nat,denP t=q.den*d/\d<=denP t:=fun t=>by
   induction t with
   |nil=>intro q a;cases a
   |cons p t f=>
    intro q a;rcases List.mem_cons.1 a with rfl|a
    . exact⟨denP t,rfl,Nat.le_mul_of_pos_left _ q.den_pos⟩
    .
     obtain⟨d,e,c⟩:=f q a;refine⟨p.den*d,?_,?_⟩
     . rw[denP,e,Nat.mul_left_comm]
     . rw[denP];exact Nat.mul_le_mul_left _ c
  obtain⟨d,e,c⟩:=b _ q h;refine⟨q.num*(d:Int),?_,?_⟩
  . rw[e,Rat.natCast_mul,<-Rat.mul_assoc,Qoh,Rat.intCast_mul,Rat.intCast_natCast]
  . rw[Int.natAbs_mul,Int.natAbs_natCast,Nat.pow_add]
    exact Nat.mul_le_mul (Nat.le_of_lt hf.1) (Nat.le_trans c hm)
theorem Wh.one{P b:Nat}(h:P<=2 ^ b):Wh P b 1:=⟨(P:Int),by rw[Rat.one_mul,Rat.intCast_natCast],by simpa using h⟩
theorem Qoi{a b:Nat}(c:a=2 ^ b):(20+1)*(a*(2*((20+1)*a)) ^ 20)<=2 ^ (5+(b+(6+b)*20)):=by
 have f:2 ^ 6=64:=by decide
 have e:2*((20+1)*a)<=2 ^ (6+b):=by rw[Nat.pow_add,c];omega
 have d:(2*((20+1)*a)) ^ 20<=(2 ^ (6+b)) ^ 20:=Nat.pow_le_pow_left e 20;rw[<-Nat.pow_mul] at d;rw[Nat.pow_add 2 5,Nat.pow_add 2 b,<-c];exact Nat.mul_le_mul (by decide) (Nat.mul_le_mul_left _ d)
abbrev kE(b:Nat):Nat:=21*b+126
abbrev kC(b:Nat):Nat:=22*b+126
abbrev kW(b:Nat):Nat:=41*kC b+20
theorem Qe9{b W P:Nat}{M:List Vec}(l:0<P)(d:P<=2 ^ b)(e:∀r,r∈ M->∀j,Wh P b (r j))(m:∀r,r∈ M->∀i,W<=i->r i=0)(hl:M.length<=20∨W<=20):
 Going (kE b) (MJ W 20 (kC b) M)/\MJ W 20 (kC b) M 0 M [] []/\∀L S hs,MJ W 20 (kC b) M W L S hs->(Ech 0 W S hs/\∀x,Null W M x↔Null W S x)/\clnFits (kW b) S hs/\∀v,v∈ cln S hs->∀i,Fits (v i) (kC b):=by
 have f:∀j:Nat,0<(fun _=>P) j/\(fun _=>P) j<=2 ^ b:=fun _=>⟨l,d⟩
 have g:=Qoi (a:=2 ^ b) (b:=b) rfl;have k:0<2 ^ b:=Nat.pow_pos (by decide);have n:(20+1)*(2 ^ b*(2*((20+1)*2 ^ b)) ^ 20)<2 ^ kE b:=Nat.lt_of_le_of_lt g (Nat.pow_lt_pow_right (by decide) (by simp only[kE];omega));have c:(20+1)*(2 ^ b*(2*((20+1)*2 ^ b)) ^ 20)*2 ^ b<2 ^ kC b:=by
  refine Nat.lt_of_le_of_lt (Nat.mul_le_mul_right _ g) ?_;rw[<-Nat.pow_add];exact Nat.pow_lt_pow_right (by decide) (by simp only[kC];omega)
 refine⟨MJ.going (D:=fun _=>P) k f e n (by simp only[kE];omega) c (by simp only[kC];omega),MJ.start W 20 _ M m hl,fun L S hs h=>⟨h.1.done,?_⟩⟩;exact MJ.clean (D:=fun _=>P) k f e c (by simp only[kC];omega) (by simp only[kW,kC];omega) h
theorem Going.mono{K K':Nat}{I:Nat->List Vec->List Vec->List Nat->Prop}(h:Going K I)(a:K<=K'):Going K' I:=⟨fun b r c i=>(h.fit b r c i).mono a,h.skip,h.step⟩
def down(c:Nat)(p v:Vec):Vec:=fun i=>v i - v c*p i
def overAt(c:Nat)(s:Vec):Vec:=fun i=>s i / s c
theorem Qsw{c:Nat}{s v:Vec}:down c (overAt c s) v=lessBy c s v:=by
 funext i;simp only[down,overAt,lessBy];grind
theorem Qsx{c:Nat}{s:Vec}(h:s c≠0):overAt c s c=1:=by
 simp only[overAt];grind
def plStep(c k b:Nat)(s t:Vec)(L:List Vec):List Vec:=((L.set k s).set b t).mapIdx fun j v=>if j=k then overAt c s else down c (overAt c s) v
theorem Qef(c k b:Nat)(s t:Vec)(L:List Vec):(plStep c k b s t L).length=L.length:=by simp[plStep]
theorem Qeg{c k b:Nat}{s t:Vec}{L:List Vec}(hs:L[b]?=some s)(a:L[k]?=some t):(plStep c k b s t L)[k]?=some (overAt c s):=by
 have hk:=(gZ a).1;simp only[plStep,List.getElem?_mapIdx];rw[gE (by simpa using hk)];simp
theorem Qkk{c k b:Nat}{s t:Vec}{L:List Vec}(hs:L[b]?=some s)(e:L[k]?=some t)(a:b≠k):(plStep c k b s t L)[b]?=some (down c (overAt c s) t):=by
 have d:=(gZ hs).1;simp only[plStep,List.getElem?_mapIdx];rw[List.getElem?_set_self (by simpa using d)];simp[a]
theorem Qgn{c k b j:Nat}{s t v:Vec}{L:List Vec}(d:L[j]?=some v)(a:j≠k)(e:j≠b):(plStep c k b s t L)[j]?=some (down c (overAt c s) v):=by
 simp only[plStep,List.getElem?_mapIdx];rw[List.getElem?_set_ne (Ne.symm e),List.getElem?_set_ne (Ne.symm a),d];simp[a]
theorem Qgo{c k b j:Nat}{s t v:Vec}{L:List Vec}(hs:L[b]?=some s)(f:L[k]?=some t)(a:(plStep c k b s t L)[j]?=some v):
 (j=k/\v=overAt c s)∨(j≠k/\∃u,v=down c (overAt c s) u/\((j=b/\u=t)∨(j≠b/\L[j]?=some u))):=by
 by_cases d:j=k
 .
  subst d;rw[Qeg hs f] at a;exact .inl ⟨rfl,(Option.some.inj a).symm⟩
 .
  refine .inr ⟨d,?_⟩;by_cases e:j=b
  .
   subst e;rw[Qkk hs f d] at a;exact⟨t,(Option.some.inj a).symm,.inl ⟨rfl,rfl⟩⟩
  .
   have hl:j<L.length:=by
    have:=(gZ a).1;rw[Qef] at this;exact this
   obtain⟨u,g⟩:∃u,L[j]?=some u:=⟨_,gE hl⟩;rw[Qgn g d e] at a;exact⟨u,(Option.some.inj a).symm,.inr ⟨e,g⟩⟩
theorem Qgp(W c:Nat)(p v x:Vec):dot W (down c p v) x=dot W v x - v c*dot W p x:=by
 have e:down c p v=fun i=>v i - p i*v c:=by
  funext i;simp only[down];grind
 rw[e,Qbn]
theorem Qkl(W c:Nat)(s x:Vec):dot W (overAt c s) x=dot W s x / s c:=by
 unfold overAt;rw[Qc6]
theorem Qsy{W c k b:Nat}{s t:Vec}{L:List Vec}(hs:L[b]?=some s)(d:L[k]?=some t)(o:s c≠0)(x:Vec):Null W L x↔Null W (plStep c k b s t L) x:=by
 constructor
 .
  intro h v f;obtain⟨j,e⟩:=List.mem_iff_getElem?.1 f;have a:dot W (overAt c s) x=0:=by
   rw[Qkl,h s (mO hs)];grind
  rcases Qgo hs d e with ⟨_,rfl⟩|⟨_,u,rfl,g⟩
  . exact a
  .
   have n:u∈ L:=by
    rcases g with ⟨_,rfl⟩|⟨_,g⟩
    . exact mO d
    . exact mO g
   rw[Qgp,a,h u n];grind
 .
  intro h v f;have a:=h _ (mO (Qeg (c:=c) hs d));have i:dot W s x=0:=by
   rw[Qkl] at a;have:dot W s x=dot W s x / s c*s c:=by grind
   rw[this,a];grind
  obtain⟨j,e⟩:=List.mem_iff_getElem?.1 f;by_cases l:j=b
  .
   subst l;obtain rfl:=Option.some.inj (hs.symm.trans e);exact i
  .
   by_cases m:j=k
   .
    subst m;obtain rfl:=Option.some.inj (d.symm.trans e);have:=h _ (mO (Qkk (c:=c) hs d (Ne.symm l)));rw[Qgp,a] at this;grind
   .
    have:=h _ (mO (Qgn (c:=c) (s:=s) (t:=t) e m l));rw[Qgp,a] at this;grind
theorem Cln.snoc{c:Nat}{p:Vec}(f:p c=1)(b:∀i,i<c->p i=0):∀{S:List Vec} {hs:Vy} {lo e:Nat},Cln lo e S hs->e<=c->Cln lo (c+1) (S.map (down c p)++ [p]) (hs++ [c])
 | [],[],lo,e,h,hc=>⟨Nat.le_trans h hc,f,b,fun d a=>(by cases a),Nat.le_refl _⟩
 |r :: S,h :: hs,lo,e,⟨k1,k2,k3,k4,k5⟩,hc=>by
  have g:h<c:=by have:=(Cln.ech k5).le;omega
  refine⟨k1,?_,fun d a=>?_,fun d a=>?_,Cln.snoc f b k5 hc⟩
  .
   simp only[down];rw[k2,b h g];grind
  .
   simp only[down];rw[k3 d a,b d (by omega)];grind
  .
   simp only[down];rcases List.mem_append.1 a with a|a
   .
    have:=((Cln.ech k5).head d a).2;rw[k4 d a,b d (by omega)];grind
   . rw[List.mem_singleton.1 a,f]
     grind
 | [],_ :: _,_,_,h,_=>h.elim
 |r :: S,[],_,_,h,_=>h.elim
theorem Cln.mono:∀{S:List Vec} {hs:Vy} {lo b a:Nat},Cln lo b S hs->b<=a->Cln lo a S hs
 | [],[],_,_,_,h,k=>Nat.le_trans h k
 |r :: S,h :: hs,_,_,_,⟨k1,k2,k3,k4,k5⟩,k=>⟨k1,k2,k3,k4,Cln.mono k5 k⟩
 | [],_ :: _,_,_,_,h,_=>h.elim
 |r :: S,[],_,_,_,h,_=>h.elim
theorem MI.other{W N:Nat}{M:List Vec}{c:Nat}{L a S e:List Vec}{hs:Vy}(h:MI W N M c L S hs)(hl:a.length=L.length)(f:∀v,v∈ a->v∈ L)(g:∀(R:Nat->Vec),(∀s,s∈ S->Span hs.length R s)->∀s,s∈ e->Span hs.length R s):MI W N M c a e hs:=by
 obtain⟨i,j,k,R,l,m,n,b⟩:=h;exact⟨i,by rw[hl];exact j,fun v d=>k v (f v d),R,l,m,fun v d=>n v (f v d),g R b⟩
structure Pl (W N:Nat) (M:List Vec) (c:Nat) (L:List Vec) (hs:Vy):Prop where
 len:L.length=M.length
 null:∀x,Null W M x↔Null W L x
 cln:Cln 0 c (L.take hs.length) hs
 rest:∀(j:Nat) (v:Vec),L[j]?=some v->hs.length<=j->∀d,d<c->v d=0
 mi:MI W N M c (L.drop hs.length) (L.take hs.length) hs
theorem Pl.start(W N:Nat)(M:List Vec)(a:∀v,v∈ M->∀i,W<=i->v i=0)(b:M.length<=N∨W<=N):Pl W N M 0 M []:=
 ⟨rfl,fun x=>Iff.rfl,Nat.le_refl _,fun _ _ _ _ d c=>by omega,MI.start W N M a b⟩
theorem Pl.skip{W N c:Nat}{M L:List Vec}{hs:Vy}(h:Pl W N M c L hs)(e:∀(j:Nat) (v:Vec),L[j]?=some v->hs.length<=j->v c=0):Pl W N M (c+1) L hs:=
 ⟨h.len,h.null,h.cln.mono (Nat.le_succ _),fun j v a hk d f=>by
   rcases Nat.lt_or_ge d c with b|b
   . exact h.rest j v a hk d b
   . obtain rfl:d=c:=by omega
     exact e j v a hk,h.mi.skip⟩
theorem Pl.le{W N c:Nat}{M L:List Vec}{hs:Vy}(h:Pl W N M c L hs):hs.length<=L.length:=by
 have:=(Cln.ech h.cln).len;rw[List.length_take] at this;omega
theorem Pl.step{W N c b:Nat}{M L:List Vec}{hs:Vy}{s t:Vec}(h:Pl W N M c L hs)(C:hs.length<=b)(a:L[b]?=some s)(n:L[hs.length]?=some t)(z:s c≠0):Pl W N M (c+1) (plStep c hs.length b s t L) (hs++ [c]):=by
 have D:∀i,i<c->s i=0:=h.rest b s a C;have o:=Qsx z;have p:∀i,i<c->overAt c s i=0:=fun i w=>by
  simp only[overAt];rw[D i w];grind
 have E:=(gZ n).1;have g:(plStep c hs.length b s t L).take (hs.length+1)=(L.take hs.length).map (down c (overAt c s))++ [overAt c s]:=by
  apply List.ext_getElem?;intro j;rcases Nat.lt_trichotomy j hs.length with l|l|l
  .
   rw[List.getElem?_take_of_lt (by omega),List.getElem?_append_left (by rw[List.length_map,List.length_take];omega),List.getElem?_map,List.getElem?_take_of_lt l];obtain⟨u,f⟩:∃u,L[j]?=some u:=⟨_,gE (by omega)⟩;rw[Qgn f (by omega) (by omega),f];rfl
  .
   subst l;rw[List.getElem?_take_of_lt (by omega),Qeg a n,List.getElem?_append_right (by rw[List.length_map,List.length_take];omega)];rw[List.length_map,List.length_take,Nat.min_eq_left (by omega),Nat.sub_self];rfl
  . rw[List.getElem?_eq_none (by rw[List.length_take];omega),List.getElem?_eq_none (by rw[List.length_append,List.length_map,List.length_take];simp;omega)]
 have k:(hs++ [c]).length=hs.length+1:=by simp
 refine⟨by rw[Qef];exact h.len,fun x=>(h.null x).trans (Qsy a n z x),?_,?_,?_⟩
 . rw[k,g]
   exact Cln.snoc o p h.cln lZ
 .
  intro j v y hk d G;rw[k] at hk;rcases Qgo a n y with ⟨l,_⟩|⟨l,u,rfl,f⟩
  . omega
  .
   have A:∀i,i<c->u i=0:=by
    rcases f with ⟨_,rfl⟩|⟨_,f⟩
    . exact h.rest _ _ n lZ
    . exact h.rest _ _ f (by omega)
   simp only[down];rcases Nat.lt_or_ge d c with q|q
   . rw[A d q,p d q]
     grind
   .
    obtain rfl:d=c:=by omega
    rw[o];grind
 .
  have y:(L.drop hs.length)[b - hs.length]?=some s:=by
   rw[List.getElem?_drop,show hs.length+(b - hs.length)=b by omega];exact a
  have F:=h.mi.step y z;rw[k];refine F.other ?_ ?_ ?_
  . rw[List.length_drop,Qef,List.length_map,List.length_eraseIdx_of_lt (gZ y).1,List.length_drop]
    omega
  .
   intro v m;obtain⟨i,w⟩:=List.mem_iff_getElem?.1 m;rw[List.getElem?_drop] at w;rcases Qgo a n w with ⟨l,_⟩|⟨l,u,rfl,f⟩
   . omega
   .
    rw[Qsw];refine List.mem_map.2 ⟨u,List.mem_eraseIdx_iff_getElem?.2 ?_,rfl⟩;rcases f with ⟨q,rfl⟩|⟨q,f⟩
    . exact⟨0,by omega,by rw[List.getElem?_drop];exact n⟩
    . exact⟨i+1,by omega,by rw[List.getElem?_drop,<-Nat.add_assoc,Nat.add_right_comm];exact f⟩
  .
   intro R B v m;rw[g] at m;have r:Span (hs++ [c]).length R (overAt c s):=(B s (by simp)).over _;rcases List.mem_append.1 m with m|m
   .
    obtain⟨u,f,rfl⟩:=List.mem_map.1 m;have e:down c (overAt c s) u=fun i=>u i - overAt c s i*u c:=by
     funext i;simp only[down];grind
    rw[e];exact(B u (List.mem_append.2 (.inl f))).less r _
   . rw[List.mem_singleton.1 m]
     exact r
theorem Pl.fits{W N c P b:Nat}{M L:List Vec}{hs:Vy}(h:Pl W N M c L hs)(t:0<P)(e:P<=2 ^ b)(m:∀r,r∈ M->∀j,Wh P b (r j)){K:Nat}(n:(N+1)*(2 ^ b*(2*((N+1)*2 ^ b)) ^ N)*2 ^ b<2 ^ K)(a:0<K)(j:Nat)(v:Vec)(o:L[j]?=some v)(i:Nat):Fits (v i) K:=by
 have f:0<2 ^ b:=Nat.pow_pos (by decide);have p:∀A:Nat,0<P/\P<=2 ^ b:=fun _=>⟨t,e⟩
 rcases Nat.lt_or_ge j hs.length with k|k
 .
  obtain⟨B,C,E,R,u,w,F,y⟩:=h.mi;have q:(L.take hs.length)[j]?=some v:=by rw[List.getElem?_take_of_lt k];exact o
  obtain⟨g,s⟩:∃g,hs[j]?=some g:=⟨_,gE k⟩;obtain⟨c1,c2,c3⟩:=h.cln.at j v g q s;refine Qf9 (W:=N) (H:=hs) (D:=fun _=>P) f p m n a rfl (by omega) u w (y v (mO q)) (mO s) c1 (fun x z l=>?_) i;rcases Nat.lt_trichotomy x g with d|d|d
  . exact c2 x d
  . exact absurd d l
  . exact c3 x z d
 .
  refine h.mi.fit (D:=fun _=>P) f p m (Nat.lt_of_le_of_lt ?_ n) a v ?_ i
  . exact Nat.le_mul_of_pos_right _ f
  . exact mO (i:=j - hs.length) (by rw[List.getElem?_drop,show hs.length+(j - hs.length)=j by omega];exact o)
theorem Ech.asc:∀{S:List Vec} {hs:Vy} {lo a:Nat},Ech lo a S hs->hs.Pairwise (· < ·)
 | [],[],_,_,_=>List.Pairwise.nil
 |r :: S,h :: hs,lo,a,⟨_,_,_,k⟩=>List.Pairwise.cons (fun x b=>by have:=(Ech.head k x b).1;omega) (Ech.asc k)
 | [],_ :: _,_,_,h=>h.elim
 |r :: S,[],_,_,h=>h.elim
theorem Qkm:∀{l m:Vy},l.Pairwise (· < ·)->m.Pairwise (· < ·)->(∀x,x∈ l↔x∈ m)->l=m
 | [],[],_,_,_=>rfl
 | [],y :: m,_,_,h=>by have:=(h y).2 (by simp);cases this
 |x :: l,[],_,_,h=>by have:=(h x).1 (by simp);cases this
 |x :: l,y :: m,hl,hm,h=>by
  obtain⟨c,f⟩:=List.pairwise_cons.1 hl;obtain⟨d,g⟩:=List.pairwise_cons.1 hm;have e:x=y:=by
   rcases List.mem_cons.1 ((h x).1 (by simp)) with e|e
   . exact e
   .
    rcases List.mem_cons.1 ((h y).2 (by simp)) with b|b
    . exact b.symm
    .
     have:=d x e;have:=c y b;omega
  subst e;rw[Qkm f g (fun z=>⟨fun a=>?_,fun a=>?_⟩)]
  .
   rcases List.mem_cons.1 ((h z).1 (by simp[a])) with e|e
   . have:=c z a;omega
   . exact e
  .
   rcases List.mem_cons.1 ((h z).2 (by simp[a])) with e|e
   . have:=d z a;omega
   . exact e
theorem Qsz{c d W:Nat}{S:List Vec}{hs:Vy}(a:Cln 0 W S hs)(i:c ∉ hs)(h:c<d):nullF c S hs hs.length d=0:=by
 have hl:=a.ech.len;by_cases f:d∈ hs
 .
  obtain⟨t,b⟩:=List.mem_iff_getElem?.1 f;have e:=(gZ b).1;obtain⟨r,g⟩:∃r,S[t]?=some r:=⟨_,gE (by omega)⟩;rw[Qgf a.ech b g hs.length lZ e,(a.at t r d g b).2.1 c h];grind
 . exact Qgi hl f (by omega)
theorem Qkn{c W:Nat}{S:List Vec}{hs:Vy}(a:Cln 0 W S hs)(f:c<W):c∈ hs↔¬∃x:Vec,Null W S x/\x c≠0/\∀d,c<d->d<W->x d=0:=by
 constructor
 .
  rintro j ⟨x,k,l,m⟩;obtain⟨t,g⟩:=List.mem_iff_getElem?.1 j;have n:=(gZ g).1;obtain⟨r,i⟩:∃r,S[t]?=some r:=⟨_,gE (by rw[a.ech.len];omega)⟩;obtain⟨o,p,_⟩:=a.at t r c i g;have:=k r (mO i);rw[Qbz W r x c f (fun d b q=>?_),o] at this
  . exact l (by grind)
  .
   rcases Nat.lt_or_ge d c with h|h
   . rw[p d h];grind
   . rw[m d (by omega) b];grind
 .
  intro h;refine bC fun e=>h ⟨nullF c S hs hs.length,Qgg a f e,?_,fun d b _=>Qsz a e b⟩
  rw[Qgh a.ech.len e];decide
theorem Qs0{W:Nat}{S j:List Vec}{hs a:Vy}(h:Cln 0 W S hs)(g:Cln 0 W j a)(o:∀x,Null W S x↔Null W j x):
 hs=a/\∀c,c<W->c ∉ hs->∀i,i<W->nullF c S hs hs.length i=nullF c j a a.length i:=by
 have e:hs=a:=Qkm h.ech.asc g.ech.asc (fun c=>by
  have k:∀c,c<W->(c∈ hs↔c∈ a):=fun c l=>by
   rw[Qkn h l,Qkn g l];simp only[o]
  exact⟨fun b=>(k c (h.ech.head c b).2).1 b,fun b=>(k c (g.ech.head c b).2).2 b⟩)
 subst e;refine⟨rfl,fun c l b i t=>?_⟩;have q:=Qgg h l b;have s:=(o _).2 (Qgg g l b);have f:∀d,d ∉ hs->nullF c S hs hs.length d=nullF c j hs hs.length d:=fun d f=>by
  by_cases n:d=c
  . subst n
    rw[Qgh h.ech.len f,Qgh g.ech.len f]
  . rw[Qgi h.ech.len f n,Qgi g.ech.len f n]
 by_cases m:i∈ hs
 . have:=Ech.uniq W (fun i=>nullF c S hs hs.length i - nullF c j hs hs.length i) h.ech lZ (fun r p=>by rw[Qje,q r p,s r p];grind) (fun d _ b=>.inl (by rw[f d b];grind)) i m
   grind
 . exact f i m
theorem Pl.done{W N:Nat}{M L:List Vec}{hs:Vy}(h:Pl W N M W L hs)(x:Vec):Null W M x↔Null W (L.take hs.length) x:=by
 rw[h.null x];constructor
 . exact fun k v a=>k v (List.mem_of_mem_take a)
 .
  intro k v a;obtain⟨j,d⟩:=List.mem_iff_getElem?.1 a;rcases Nat.lt_or_ge j hs.length with b|b
  . exact k v (mO (i:=j) (by rw[List.getElem?_take_of_lt b];exact d))
  . exact Qbm W v x fun c e=>by rw[h.rest j v d b c e];grind
theorem FrameFault.few{a:List S2}{c:List B6}{hs:List H3}{x:Int}(h:FrameFault a c hs 0 x):¬Many a.length c.length hs.length/\(∀(i:Nat) (b:B6),c[i]?=some b->BarCode a b 0)/\(∀i y,hs[i]?=some y->holdAt a.length hs i y=0)/\x=0:=by
 rcases h with ⟨_,h,_⟩|⟨_,k,b,_,_,_,h,_⟩|⟨d,e,h⟩
 . cases h
 . exact absurd rfl h
 .
  rcases h with ⟨_,_,_,_,_,h,_⟩|⟨f,_,g⟩
  . exact absurd rfl h
  . exact⟨d,e,f,g⟩
theorem Qmr{c:List S2}{z:List B6}{hs:List H3}(m:FrSized c z hs){b:B6}(h:BarCode c b 0):∃p:Nat × Nat × Rat × Rat,BarV 1048576 c b p/\p.1<c.length/\p.2.1<c.length/\¬(p.2.2.1=0/\p.2.2.2=0):=by
 rcases h with ⟨_,h⟩|⟨n,o,s,t,hs,f,g,i,k,l,C,D,E,q,r,u,v,_,_,_,w⟩
 . cases h
 have d:¬(g=k/\i=l):=fun e=>by rw[if_pos e] at w;cases w
 have x:=m.j s (mO hs);have y:=m.j t (mO f);have F:=n.1;have G:=o.1;have H:=n.2;have I:=o.2;refine⟨(b.a.toNat,b.b.toNat,k - g,l - i),⟨by simp only;omega,by simp only;omega,fun e=>?_,s,t,g,i,k,l,hs,f,x.1,x.2,y.1,y.2,q,r,u,v,rfl,rfl⟩,by simp only;omega,by simp only;omega,fun ⟨A,B⟩=>d ⟨?_,?_⟩⟩
 .
  simp only at e;rw[e,f] at hs;cases hs;exact d ⟨q.inj u,r.inj v⟩
 . simp only at A
   grind
 . simp only at B
   grind
theorem Qms{n:Nat}{hs:List H3}{i:Nat}{h:H3}(k:holdAt n hs i h=0):∃r:Nat,HoldV n h r:=by
 unfold holdAt holdC at k;have a:0<=h.j/\h.j<n:=by
  apply bC;intro b;rw[if_neg b] at k;cases k
 obtain⟨c,d⟩:=a;exact⟨_,h.j.toNat,by omega,by omega,rfl⟩
theorem Qmt{a:List S2}{d:List B6}{hs:List H3}(v:FrSized a d hs){x:Int}(h:FrameFault a d hs 0 x):∃(t:List (Nat × Nat × Rat × Rat)) (vh:Vy),FrV 1048576 a d hs t vh/\∀p,p∈ t->p.1<a.length/\p.2.1<a.length/\¬(p.2.2.1=0/\p.2.2.2=0):=by
 obtain⟨m,j,w,_⟩:=h.few;have n:∀i:Nat,∃p:Nat × Nat × Rat × Rat,∀b,d[i]?=some b->BarV 1048576 a b p/\p.1<a.length/\p.2.1<a.length/\¬(p.2.2.1=0/\p.2.2.2=0):=fun i=>by
  rcases k:d[i]? with _|b
  . exact⟨(0,0,0,0),fun b j=>by cases j⟩
  . obtain⟨p,c⟩:=Qmr v (j i b k)
    exact⟨p,fun B e=>by cases e;exact c⟩
 have o:∀i:Nat,∃r:Nat,∀y,hs[i]?=some y->HoldV a.length y r:=fun i=>by
  rcases k:hs[i]? with _|y
  . exact⟨0,fun b j=>by cases j⟩
  . obtain⟨r,q⟩:=Qms (w i y k)
    exact⟨r,fun C e=>by cases e;exact q⟩
 obtain⟨f,u⟩:=Classical.axiomOfChoice n;obtain⟨g,z⟩:=Classical.axiomOfChoice o;have l:∀{β:Type} (F:Nat->β) (L i:Nat) (p:β),((List.range L).map F)[i]?=some p->i<L/\p=F i:=fun F L i p c=>by
  have hl:=(gZ c).1;rw[List.length_map,List.length_range] at hl;rw[List.getElem?_map,List.getElem?_range hl] at c;exact⟨hl,(Option.some.inj c).symm⟩
 refine⟨(List.range d.length).map f,(List.range hs.length).map g,⟨?_,?_,?_,by simp,by simp,fun i b p j c=>?_,fun i y r A q=>?_,Nat.le_refl _⟩,fun p c=>?_⟩
 . exact Nat.le_of_not_lt fun h=>m (.inr (.inl h))
 . exact Nat.le_of_not_lt fun h=>m (.inr (.inr (.inl h)))
 . exact Nat.le_of_not_lt fun h=>m (.inr (.inr (.inr h)))
 . obtain⟨_,rfl⟩:=l f _ _ _ c
   exact(u i b j).1
 . obtain⟨_,rfl⟩:=l g _ _ _ q
   exact z i y A
 .
  obtain⟨i,k,rfl⟩:=List.mem_map.1 c;have s:=List.mem_range.1 k;exact(u i d[i] (gE s)).2
theorem Qmu(m n q:Vx)(c1 c2 c3:Nat)(j:List S2)(k:List B6)(hs:List H3)(c a:Int)(w:Vz)(v:Glob w)(x:FrRow w m n q c1 c2 c3 j k hs)(y:FrSized j k hs)(b:FrameFault j k hs c a)(z:c≠0):
 Calls prog 8 #[.agg #[.slice m j.length c1,.slice n k.length c2,.slice q hs.length c3]] w fun e w'=>e=.returned (.tuple #[.int .i64 0,.int .i64 0,.int .i64 0,.agg #[.int .i64 c,.int .i64 a]])/\Below w.heap.size w w':=by
 obtain⟨A,B,C,s⟩:=Ic v x y b;clear v x y b;go_enter func8,ntmps8;obtain⟨W,r⟩:=nm ((w.alloc (.cells #[.slice m j.length c1,.slice n k.length c2,.slice q hs.length c3] 26)).alloc (.cells #[.int .i64 0,.int .i64 0] 31));have f:=Ub r;have h:=Ue r;have D:=Hi r;clear r;go_wp2_with fail;rw[D.o];go_fit (Qdi m n q c1 c2 c3 j k hs W (A.o.below f.o) (B.o.below f.o) C.o);rintro e E ⟨M,F,rfl,b,i⟩;obtain⟨G,H⟩:=s.o.inj b;obtain rfl:=G;obtain rfl:=H;have d:=h.o.below i h.o.lt;obtain⟨V,l⟩:=nm ((E.setCell ⟨w.heap.size+1,0,none⟩ (.int .i64 c)).setCell ⟨w.heap.size+1,1,none⟩ (.int .i64 a))
 have g:O (SB V (w.heap.size+1) 31 #[.int .i64 c,.int .i64 a]):=Hi (by rw[<-l];exact(d.set 0 _).set 1 _);have t:O (Bl w V):=Hi (by rw[<-l];exact((f.o.trans (i.mono f.o.size)).setCell (Nat.le_succ _) _).setCell (Nat.le_succ _) _);obtain⟨N,P,-⟩:=zc d;have f0:=d.free 0;have f1:=d.free 1;obtain⟨I,J,-⟩:=zc g.o;have K:=g.o.free 0;have L:=g.o.free 1;have u:=Hi l;rw[<-l] at I J K L;have Q:(c != 0)=true:=by simpa using z
 clear i d l b z h;go_wp2;go_region
 all_goals
  go_wp2;rw[u.o];refine bodyPost_ret (Qhh rfl _ _ (w.heap.size+1) 31 #[.int .i64 c,.int .i64 a] (0,0) _ rfl ((g.o.set 0 _).set 1 _) underlying31 rfl Tryz.faultInfo) rfl ?_;exact⟨rfl,((t.o.setCell (p:=⟨w.heap.size+1,0,none⟩) (Nat.le_succ _) _).setCell (p:=⟨w.heap.size+1,1,none⟩) (Nat.le_succ _) _).drew⟩
def jW:List S2->Nat
 | []=>0
 |s :: l=>s.x.size+s.y.size+jW l
theorem Qe3:∀{l:List S2} {s:S2},s∈ l->s.x.size<=jW l/\s.y.size<=jW l
 |t :: l,s,h=>by
  rcases List.mem_cons.1 h with rfl|h
  . simp only[jW];omega
  . have:=Qe3 h;simp only[jW];omega
theorem Qmv(s:Vs):s.data.toList.length=s.size:=by rw[Array.length_toList];rfl
theorem QOf.fits'{s:Vs}{q:Rat}{n:Nat}(h:QOf s.data.toList q)(a:s.size<=n):Fits q (4*n+1):=h.fits (by rw[Qmv];exact a)
theorem Qhn:∀js:List S2,∃l:List (Rat × Nat),(∀p,p∈ l->Fits p.1 p.2)/\(l.map (·.2)).sum=4*jW js+2*js.length/\∀s,s∈ js->∀x y,QOf s.x.data.toList x->QOf s.y.data.toList y->x∈ l.map (·.1)/\y∈ l.map (·.1)
 | []=>⟨[],(fun p a=>by cases a),rfl,(fun s hs=>by cases hs)⟩
 |s :: js=>by
  obtain⟨l,h,i,j⟩:=Qhn js;obtain⟨x,d⟩:=QOf.ex s.x.data.toList;obtain⟨y,e⟩:=QOf.ex s.y.data.toList;refine⟨(x,4*s.x.size+1) :: (y,4*s.y.size+1) :: l,fun p a=>?_,?_,fun t c u v f g=>?_⟩
  .
   rcases List.mem_cons.1 a with rfl|a
   . exact d.fits' lZ
   .
    rcases List.mem_cons.1 a with rfl|a
    . exact e.fits' lZ
    . exact h p a
  . simp only[List.map_cons,List.sum_cons,i,jW,List.length_cons]
    omega
  .
   rcases List.mem_cons.1 c with rfl|c
   . rw[f.inj d,g.inj e]
     simp
   . obtain⟨k,m⟩:=j t c u v f g
     exact⟨List.mem_cons_of_mem _ (List.mem_cons_of_mem _ k),List.mem_cons_of_mem _ (List.mem_cons_of_mem _ m)⟩
structure FrP (P b:Nat) (vb:List (Nat × Nat × Rat × Rat)):Prop where
 pos:0<P
 le:P<=2 ^ b
 wh:∀p,p∈ vb->Wh P b p.2.2.1/\Wh P b p.2.2.2
theorem FrP.at{P b nb:Nat}{vb:List (Nat × Nat × Rat × Rat)}{vh:Vy}(h:FrP P b vb)(r c:Nat):Wh P b (balM vb nb vh r c):=by
 unfold balM;cases hp:vb[c]? with
 |none=>
  simp only;cases vh[c - nb]? with
  |none=>exact Wh.zero _ _
  |some x=>
   simp only
   split
   . exact Wh.one h.le
   . exact Wh.zero _ _
 |some p=>
  obtain⟨a,d⟩:=h.wh p (mO hp);simp only[barAt]
  split
  . exact a
  .
   split
   . exact a.neg
   .
    split
    . exact d
    .
     split
     . exact d.neg
     . exact Wh.zero _ _
theorem FrV.over{n T:Nat}{js:List S2}{bs:List B6}{hs:List H3}{vb:List (Nat × Nat × Rat × Rat)}{vh:Vy}(c:FrV n js bs hs vb vh)(H:jW js<=T):∃P,FrP P (8*T+64) vb:=by
 obtain⟨l,u,I,e⟩:=Qhn js;have v:=Qh5 l u;have J:=c.j;have a:denP (l.map (·.1))<=2 ^ (4*T+20):=Nat.le_trans v (Nat.pow_le_pow_right (by decide) (by omega));refine⟨denP (l.map (·.1)),Qh4 _,Nat.le_trans a (Nat.pow_le_pow_right (by decide) (by omega)),fun p x=>?_⟩;obtain⟨i,y,rfl⟩:=List.getElem_of_mem x;have d:i<bs.length:=by have:=c.lb;omega
 obtain⟨s,t,x1,y1,x2,y2,z,A,_,_,_,_,f,g,h,k,B,C⟩:=(c.vb i bs[i] vb[i] (gE d) (gE y)).ex;have m:=mO z;have mt:=mO A;have D:=Qe3 m;have E:=Qe3 mt;have o:=e s m x1 y1 f g;have r:=e t mt x2 y2 h k;have w:∀q:Rat,q∈ l.map (·.1)->Fits q (4*T+1)->Wh (denP (l.map (·.1))) (8*T+63) q:=fun q F G=>(Wh.of_mem F G a).mono (by omega)
 rw[B,C];exact⟨(w x2 r.1 (h.fits' (by omega))).sub (w x1 o.1 (f.fits' (by omega))),(w y2 r.2 (k.fits' (by omega))).sub (w y1 o.2 (g.fits' (by omega)))⟩
def balCols(nj:Nat)(vb:List (Nat × Nat × Rat × Rat))(nb:Nat)(vh:Vy)(nh:Nat):List Vec:=(List.range (nb+nh)).map (fun c i=>if i<2*nj then balM vb nb vh i c else 0)
theorem Qmw{a nb nh:Nat}{vb:List (Nat × Nat × Rat × Rat)}{vh:Vy}{L:List Vec}(h:L=balRows a vb nb vh):(List.range (nb+nh)).map (fun c i=>if i<L.length then L.getD i (fun _=>0) c else 0)=balCols a vb nb vh nh:=by
 subst h;unfold balCols;apply List.map_congr_left;intro c _;funext i;have hl:(balRows a vb nb vh).length=2*a:=by simp[balRows]
 rw[hl];by_cases d:i<2*a
 . rw[if_pos d,if_pos d]
   simp[balRows,List.getD,d]
 . rw[if_neg d,if_neg d]
section
variable {n P b:Nat} {js:List S2} {bs:List B6} {hs:List H3} {vb:List (Nat × Nat × Rat × Rat)} {vh:Vy}
theorem FrP.rows(h:FrP P b vb)(c:FrV n js bs hs vb vh):
 Going (kE b) (MJ (bs.length+hs.length) 20 (kC b) (balRows js.length vb bs.length vh))/\MJ (bs.length+hs.length) 20 (kC b) (balRows js.length vb bs.length vh) 0 (balRows js.length vb bs.length vh) [] []/\
 ∀L S a,MJ (bs.length+hs.length) 20 (kC b) (balRows js.length vb bs.length vh) (bs.length+hs.length) L S a->(Ech 0 (bs.length+hs.length) S a/\∀x,Null (bs.length+hs.length) (balRows js.length vb bs.length vh) x↔Null (bs.length+hs.length) S x)/\clnFits (kW b) S a/\∀v,v∈ cln S a->∀i,Fits (v i) (kC b):=by
 refine Qe9 h.pos h.le (fun r d j=>?_) (fun r d i e=>?_) (.inl ?_)
 . obtain⟨k,_,rfl⟩:=List.mem_map.1 d
   exact h.at k j
 . obtain⟨k,_,rfl⟩:=List.mem_map.1 d
   exact Qcw c.lb c.lh k i e
 .
  have:=c.j;simp only[balRows,List.length_map,List.length_range];omega
theorem FrP.cols(h:FrP P b vb)(d:FrV n js bs hs vb vh):
 Going (kE b) (MJ (2*js.length) 20 (kC b) (balCols js.length vb bs.length vh hs.length))/\MJ (2*js.length) 20 (kC b) (balCols js.length vb bs.length vh hs.length) 0 (balCols js.length vb bs.length vh hs.length) [] []/\
 ∀L S a,MJ (2*js.length) 20 (kC b) (balCols js.length vb bs.length vh hs.length) (2*js.length) L S a->(Ech 0 (2*js.length) S a/\∀x,Null (2*js.length) (balCols js.length vb bs.length vh hs.length) x↔Null (2*js.length) S x)/\clnFits (kW b) S a/\∀v,v∈ cln S a->∀i,Fits (v i) (kC b):=by
 refine Qe9 h.pos h.le (fun r c j=>?_) (fun r c i e=>?_) (.inr ?_)
 .
  obtain⟨k,_,rfl⟩:=List.mem_map.1 c
  show Wh P b (if j<2*js.length then balM vb bs.length vh j k else 0)
  split
  . exact h.at j k
  . exact Wh.zero _ _
 . obtain⟨k,_,rfl⟩:=List.mem_map.1 c
   exact if_neg (by omega)
 . have:=d.j
   omega
end
structure SL where
 g:Nat
 ss:List S2
def SL.val(n:Nat)(m:SL):Value:=.slice (some ⟨m.g,0,none⟩) n n
structure SLat (w:Vz) (n:Nat) (m:SL):Prop where
 blk:SB w m.g 56 (m.ss.flatMap S2.cells).toArray
 len:m.ss.length=n
theorem SLat.below{w w':Vz}{n:Nat}{m:SL}(h:SLat w n m)(a:Bl w w'):SLat w' n m:=⟨h.blk.below a h.blk.lt,h.len⟩
structure MotsAt (w:Vz) (B n:Nat) (v:Value) (ms:List SL) (xs:List Vec):Prop where
 list:Grow w B 22 1 IsSl v ms.length (ms.map (SL.val n))
 each:∀m,m∈ ms->SLat w n m
 len:ms.length=xs.length
 told:∀(i:Nat) (m:SL) (x:Vec),ms[i]?=some m->xs[i]?=some x->SpotsTold x m.ss
theorem MotsAt.below{w w':Vz}{B n:Nat}{v:Value}{a:List SL}{xs:List Vec}(h:MotsAt w B n v a xs)(b:Bl w w'):MotsAt w' B n v a xs:=⟨h.list.below b,fun m c=>(h.each m c).below b,h.len,h.told⟩
theorem Qqv:(prog.info? 22).map (fun i=>(i.zero,i.size,i.bytes))=some (some (.slice .none 0 0),1,24):=by kernel_rfl
theorem Qqw:22≠56:=by decide
theorem MotsAt.app{w:Vz}{B n nb c:Nat}{v:Value}{f:List SL}{xs:List Vec}{m:SL}{x:Vec}(h:MotsAt w B n v f xs)(z:w.cell? ⟨nb,0,none⟩=some (m.val n))(b:SLat w n m)(A:SpotsTold x m.ss)(L:f.length<=1000)(hB:B<=w.heap.size)(ty:Vr):
 ∃o w',appR prog 38 ty v (.slice (some ⟨nb,0,none⟩) 1 c) w=.ok o w'/\MotsAt w' B n o (f++ [m]) (xs++ [x])/\Below B w w':=by
 obtain⟨i,D,E⟩:=Option.map_eq_some_iff.1 Qqv;injection E with F q
 injection q with q G
 obtain⟨o,w',H,I,s,_⟩:=h.list.app (P:=prog) (t:=38) (ty:=ty) underlying38 D F q G rfl (by decide) (fun u k=>⟨none,0,0,by simpa [Value.cells] using k⟩) ⟨nb,0,none⟩ 1 c [m.val n] rfl (fun j u d=>by
  match j,d with
  |0,d=>
   obtain rfl:=Option.some.inj d
   exact z) (fun u k=>by obtain rfl:=List.mem_singleton.1 k;rfl) (fun u k=>by obtain rfl:=List.mem_singleton.1 k;exact⟨_,_,_,rfl⟩) (by omega) (by decide) hB
 have l:∀m,SLat w n m->SLat w' n m:=fun m b=>by
  refine⟨?_,b.len⟩;have J:=s.block m.g b.blk.lt (fun e=>by
   obtain⟨C,hC,_⟩:=h.list.sb e.symm
   exact hC.unlike b.blk Qqw rfl)
  have:=b.blk;unfold SB at this ⊢;rw[J];exact this
 refine⟨o,w',H,⟨?_,fun t a=>?_,?_,fun j t y a p=>?_⟩,Qb4 s (fun g K=>(h.list.lt K).1) hB⟩
 . rw[List.length_append,List.length_singleton,List.map_append]
   exact I
 .
  rcases List.mem_append.1 a with a|a
  . exact l t (h.each t a)
  . obtain rfl:=List.mem_singleton.1 a
    exact l t b
 . rw[List.length_append,List.length_append,h.len];rfl
 .
  by_cases d:j<f.length
  .
   rw[List.getElem?_append_left d] at a;rw[List.getElem?_append_left (by rw[<-h.len];exact d)] at p;exact h.told j t y a p
  .
   have r:j=f.length:=by
    have:=(gZ a).1;simp at this;omega
   subst r;rw[List.getElem?_append_right lZ,Nat.sub_self] at a;rw[List.getElem?_append_right (by rw[h.len];exact Nat.le_refl _),<-h.len,Nat.sub_self] at p;cases a;cases p;exact A
theorem Qqx(a1 a2 a3:Vx)(c1 c2 c3 P b:Nat)(f:List S2)(t:List B6)(hs:List H3)(vb:List (Nat × Nat × Rat × Rat))(vh:Vy)(w:Vz)(hg:Glob w)(hf:FrRow w a1 a2 a3 c1 c2 c3 f t hs)(hz:FrSized f t hs)(a6:FrameFault f t hs 0 0)(hv:FrV 1048576 f t hs vb vh)(hp:FrP P b vb)(an:1000000<=b)(Z:b<=16000000):
 Calls prog 10 #[.agg #[.slice a1 f.length c1,.slice a2 t.length c2,.slice a3 hs.length c3]] w fun e w'=>∃(L S:List Vec) (Y:Vy) (v:Value) (ms:List SL),e=.returned (.tuple #[v,.agg #[.int .i64 0,.int .i64 0]])/\MJ (2*f.length) 20 (kC b) (balCols f.length vb t.length vh hs.length) (2*f.length) L S Y/\MotsAt w' w.heap.size f.length v ms ((freeTo Y (2*f.length)).map (fun c=>nullF c (cln S Y) Y Y.length))/\Below w.heap.size w w':=by
 obtain⟨HG,HF,HZ,b9,HV⟩:=Id hg hf hz a6 hv;obtain⟨a7,a8,a9⟩:=hp.cols hv;obtain⟨ao,ba,af⟩:=Ib (a7.mono (K':=kW b) (by simp only[kE,kW,kC];omega)) a8 a9;have n1:=hv.j;have n2:=hv.b;have n3:=hv.h;clear hg hf hz a6 hv a7 a8 a9;obtain⟨K,hK⟩:=nm (kW b);have bb:=hK;simp only[kW,kC] at bb;have ca:1<K:=by omega
 have cb:4*K+1<68719476000:=by omega
 have cc:4*1048576+1+(4*1048576+1)+1<=K:=by omega
 rw[hK] at ao af;clear bb;obtain⟨I,hI⟩:=nm (MJ (2*f.length) 20 (kC b) (balCols f.length vb t.length vh hs.length));rw[hI] at ao ba af ⊢;have cw:=Hi hI;clear hI hK;obtain⟨B,ag⟩:=nm w.heap.size;obtain⟨V0,aa⟩:=nm ((w.alloc (.cells #[.slice a1 f.length c1,.slice a2 t.length c2,.slice a3 hs.length c3] 26)).alloc (.cells #[.int .i64 0,.int .i64 0] 31));have C:=Ub aa;have ap:=Ug aa ag;have aq:=Uh aa ag;obtain⟨bc,bd,be⟩:=Ib aa ag (Qdr a1 a2 a3 c1 c2 c3 f t hs V0 (HG.o.below C.o) (HF.o.below C.o) HZ.o b9.o);clear aa ag
 go_enter func10,ntmps10;go_wp2_with fail;rw[bc.o,bd.o];clear bc;go_fit be.o;rintro e w1 ⟨rfl,ab⟩;obtain⟨V,hV⟩:=nm (w1.alloc (.cells #[.int .i64 0,.int .i64 0] 31));obtain⟨B2,ah⟩:=nm w1.heap.size;have s:Bl V0 V:=by rw[<-hV];exact ab.alloc ab.size _
 obtain⟨l,ar⟩:=Ia (ap.o.below s ap.o.lt) (aq.o.below s aq.o.lt);have cd:=Uf hV ah;have n:=Hi (C.o.trans (s.mono C.o.size));obtain⟨k0,-⟩:=zc cd.o;obtain⟨ce,cf⟩:=Ia hV ah;rw[<-hV,<-ah] at k0;clear ab s ap aq be hV ah;go_wp2_with fail;rw[ce.o,cf.o];clear k0;have d:=l;obtain⟨x0,x1,x2,-⟩:=zc d.o;have y:O (Bl V V):=Hi bR
 obtain⟨au,av,aw⟩:=Ib (fun u (hu:Bl V u)=>Qds a1 a2 a3 c1 c2 c3 1048576 K f t hs vb vh u (HG.o.below (n.o.trans (hu.mono n.o.size))) (HF.o.below (n.o.trans (hu.mono n.o.size))) HV.o cc) (fun u=>Qdm a1 a2 a3 c1 c2 c3 f.length t.length hs.length u n2 n3) (fun u=>Qeu a1 a2 a3 c1 c2 c3 f.length t.length hs.length u n1);obtain⟨W,hW⟩:=nm (t.length+hs.length);obtain⟨N0,bf⟩:=nm (2*f.length);have eW:(t.length:Int)+(hs.length:Int)=(W:Int):=by omega
 have eN:2*(f.length:Int)=(N0:Int):=by omega
 simp only[eW] at av;simp only[eN] at aw;rw[hW] at au;obtain⟨cg,H⟩:=Ia hW bf;have ch:W<=100:=by omega
 have ci:N0<=20:=by omega
 clear eW eN hW bf;go_region_held3 (fun v=>v.cell? ⟨B,0,none⟩=some (.slice a1 f.length c1)/\v.cell? ⟨B,1,none⟩=some (.slice a2 t.length c2)/\v.cell? ⟨B,2,none⟩=some (.slice a3 hs.length c3)) ((first|(simp [*];done)|go_keep)) (first
  |(
   go_at_call 38;apply cM;apply au.o;(first|exact y.o|exact y.o.drew);rintro e v1 ⟨N,G,rs,hN,rfl,bg,bh,bi,bj,hq,an⟩;obtain rfl:N0=N:=by rw[hN];exact H.o.symm
   obtain⟨ax,bk,bl,HQ⟩:=Ic bg bh bj hq;clear hN bg bh bi hq bj;have J:=Hi ((by first|exact y.o|exact y.o.drew:Bl V _).trans (an.mono (by first|exact y.o.size|exact y.o.drew.size)));clear an y x0 x1 x2 d;have d:=Hi (l.o.below J.o l.o.lt);obtain⟨x0,x1,x2,-⟩:=zc d.o
   skip)
  |(
   go_at_call 39;apply cM;apply av.o;rintro e v2 ⟨rfl,Z⟩;(first
     |have ad:=Hi Z
     |have ad:O (Bl v1 v2):=Hi (bR.drew.trans Z))
   have M:=Hi ((by first|exact J.o|exact J.o.drew:Bl V _).trans (Z.mono (by first|exact J.o.size|exact J.o.drew.size)));clear Z J x0 x1 x2 d;have d:=Hi (l.o.below M.o l.o.lt);obtain⟨x0,x1,x2,-⟩:=zc d.o
   skip)
  |(
   go_at_call 43;apply cM
   (have bm:=Qwa (some ⟨G,0,none⟩) N0 W K rs v2 (bk.o.below ad.o) bl.o (by rw[ax.o];omega) (by omega) (by omega)
    rw[ax.o] at bm
    exact bm)
   rintro e v3 ⟨GT,ts,rfl,bn,bo,bp,bq,br⟩;obtain⟨ay,bt,bu,bv⟩:=Ic bn bo.row bp bq;clear bn bo bp bq;have Q:=Hi ((by first|exact M.o|exact M.o.drew:Bl V _).trans (br.mono (by first|exact M.o.size|exact M.o.drew.size)));clear br M x0 x1 x2 d;have d:=Hi (l.o.below Q.o l.o.lt);obtain⟨x0,x1,x2,-⟩:=zc d.o
   skip)
  |(
   go_at_call 40;apply cM;apply aw.o;rintro e v4 ⟨rfl,ai⟩;(first
     |have D:=Hi ai
     |have D:O (Bl v3 v4):=Hi (bR.drew.trans ai))
   have z:=Hi ((by first|exact Q.o|exact Q.o.drew:Bl V _).trans (ai.mono (by first|exact Q.o.size|exact Q.o.drew.size)));clear ai Q x0 x1 x2 d;have d:=Hi (l.o.below z.o l.o.lt);obtain⟨x0,x1,x2,-⟩:=zc d.o
   skip)
  |(
   go_at_call 41;apply cM
   (have aj:=Qlm (some ⟨GT,0,none⟩) W N0 K ts v4 (HG.o.below (n.o.trans (z.o.mono n.o.size))) I ao.o (bt.o.below D.o) (bu.o.fr (Fr.of_below D.o)) (by rw[ay.o];omega) (by omega) ca cb
     (by
       have e:=bv.o;have e2:=Qmw (nh:=hs.length) HQ.o;rw[cg.o,List.length_map,ax.o] at e2;rw[e,e2]
       exact ba.o)
     (fun L S hs hi=>by
       rw[<-H.o] at hi ⊢
       exact⟨(af.o L S hs hi).1.1,(af.o L S hs hi).2.1⟩)
    rw[ay.o] at aj
    exact aj)
   rintro e v5 ⟨L,S,Y,nv,ns,rfl,hi,ak⟩;obtain⟨na,nc,rfl,_,_,_⟩:=ak.list.slice;obtain⟨R,HJ⟩:=Ia ak hi;have bw:=ak.base;clear hi ak;have T:=Hi ((by first|exact z.o|exact z.o.drew:Bl V _).trans (bw.mono (by first|exact z.o.size|exact z.o.drew.size)));clear bw z x0 x1 x2 d;have d:=Hi (l.o.below T.o l.o.lt);obtain⟨x0,x1,x2,-⟩:=zc d.o
   skip)
  |fail)
 obtain⟨xs,al⟩:=nm ((freeTo Y N0).map (fun c=>nullF c (cln S Y) Y Y.length));have cj:=Hi al;rw[al] at R;have aj:O (ns.length<=20):=Hi (by
  have E:=congrArg List.length R.o.q;rw[<-al,List.length_map,List.length_map] at E;have h2:=Qdg Y N0
  omega)
 have cx:=aj.o;have ck:=Hi (HG.o.below (n.o.trans (T.o.mono n.o.size)));clear al bk bl HQ ad ay bt bu bv D au av aw x0 x1 x2 d;go_wp2_with fail;go_loopw [23,5] (fun iv lv wr=>∃(k:Nat) (ms:List SL),k<=ns.length/\iv=.int .i64 k/\MotsAt wr v5.heap.size f.length lv ms (xs.take k)/\Below v5.heap.size v5 wr) (fun iv _ _=>ns.length - (intOf iv).toNat)
 case atStart=>exact⟨0,[],Nat.zero_le _,rfl,⟨Grow.nil _ _ _ _ _,(fun m hm=>by cases hm),rfl,fun i m x hm=>by simp at hm⟩,Below.refl _ _⟩
 case round=>
  obtain⟨k,ms,hk,rfl,bx,bz⟩:=hrel;obtain⟨az,A⟩:=Ia bx bz;clear bx bz;by_cases cl:k<ns.length
  .
   obtain⟨r,hr⟩:∃r,ns[k]?=some r:=⟨ns[k],gE cl⟩;have ae:=(R.o.ok.fr (Fr.of_below A.o)) r (mO hr);obtain⟨gb,go,rfl,cy,d0⟩:=(R.o.list.below A.o).crow.cell k r.val (by rw[List.getElem?_map,hr];rfl);rw[MR.val,ae.len] at d0;have q1:((k:Int)<(ns.length:Int)):=by omega
   have a0:=Qqu r.a r.cap f.length K r wr (ck.o.below A.o) (by rw[H.o];exact ae) rfl rfl (by omega) n1;rw[H.o] at a0;have cm:=Hi a0;have cn:O (xs.take (k+1)=xs.take k++ [r.q]):=Hi (by
    have E:xs[k]?=some r.q:=by rw[<-R.o.q,List.getElem?_map,hr];rfl
    rw[List.take_add_one,E]
    rfl)
   clear a0 ae hr;go_wp2_with fail;go_fit cm.o;rintro e w6 ⟨⟨g,ss,rfl,b0,b1,b2⟩,a4⟩;obtain⟨X,hX⟩:=nm (w6.alloc (.cells #[.slice (some ⟨g,0,none⟩) f.length f.length] 22));have a5:Bl w6 X:=by rw[<-hX];exact(Below.refl _ _).alloc lZ _
   have F:=a4.trans (a5.mono a4.size);have b3:X.cell? ⟨w6.heap.size,0,none⟩=some (SL.val f.length ⟨g,ss⟩):=by rw[<-hX];exact Qa0 w6 _ _
   have b4:=az.o.below F;have b5:v5.heap.size<=X.heap.size:=by have E:=A.o.size;have h2:=F.size;omega
   obtain⟨v7,w7,am,b6,b7⟩:=b4.app (m:=⟨g,ss⟩) (x:=r.q) (c:=1) b3 (SLat.below ⟨b1,b0⟩ a5) b2 (by rw[az.o.len,List.length_take];omega) b5 38;have cp:O (MotsAt w7 v5.heap.size f.length v7 (ms++ [⟨g,ss⟩]) (xs.take (k+1))):=Hi (by rw[cn.o];exact b6);have cq:=Hi ((A.o.trans (F.mono A.o.size)).trans b7);have cr:appR prog 38 38 u5 (.slice (some ⟨w6.heap.size,0,none⟩) 1 1) (w6.alloc (.cells #[.slice (some ⟨g,0,none⟩) f.length f.length] 22))=.ok v7 w7:=by rw[hX];exact am
   clear b0 b1 b2 a4 hX a5 F b3 b4 b5 am b6 b7 d0;go_wp2;go_roundw
   case rel=>exact⟨k+1,_,by omega,by go_num,cp.o,cq.o⟩
   case measure=>simp[intOf];omega
  .
   obtain rfl:k=ns.length:=by omega
   have s:=T.o.trans (A.o.mono T.o.size);have U:=ar.o.below s ar.o.lt;obtain⟨z0,z1,-⟩:=zc U;have f0:=U.free 0;have f1:=U.free 1;have cs:=Hi U;have b8:w.heap.size<=B+1:=by have:=bd.o;omega
   have ct:O (Bl w ((wr.setCell ⟨B+1,0,none⟩ (.int .i64 0)).setCell ⟨B+1,1,none⟩ (.int .i64 0))):=Hi (((n.o.trans (s.mono n.o.size)).setCell (p:=⟨B+1,0,none⟩) b8 _).setCell (p:=⟨B+1,1,none⟩) b8 _);have cu:O (MotsAt ((wr.setCell ⟨B+1,0,none⟩ (.int .i64 0)).setCell ⟨B+1,1,none⟩ (.int .i64 0)) w.heap.size f.length u5 ms xs):=Hi (by
    have E:=az.o;have cv:xs.length=ns.length:=by rw[<-R.o.q,List.length_map]
    rw[<-cv,List.take_length] at E;have ho:Only (B+1) wr ((wr.setCell ⟨B+1,0,none⟩ (.int .i64 0)).setCell ⟨B+1,1,none⟩ (.int .i64 0)):=((Only.refl _ _).setCell _ _).setCell _ _;refine⟨(E.list.keep fun g hg=>ho.block g (E.list.lt hg).2 (fun e=>?_)).mono (Nat.le_trans n.o.size T.o.size),fun m hm=>⟨(E.each m hm).blk.only ho ?_,(E.each m hm).len⟩,E.len,E.told⟩
    .
     have a1:=(E.list.lt hg).1;have a2:=ar.o.lt;have a3:=T.o.size;omega
    . exact(E.each m hm).blk.unlike U (by decide))
   clear U s;go_wp2;refine bodyPost_ret (Qct rfl _ _ (B+1) 31 #[.int .i64 0,.int .i64 0] (0,0) _ rfl ((cs.o.set 0 _).set 1 _) underlying31 rfl Tryz.faultInfo) rfl ?_;refine⟨L,S,Y,_,ms,rfl,?_,?_,ct.o⟩
   . rw[H.o];exact HJ.o
   . rw[H.o,cj.o];exact cu.o
structure SP where
 g1:Nat
 g2:Nat
 x:List ByteArray
 y:List ByteArray
def SP.cells(n m:Nat)(p:SP):List Value:=[.slice (some ⟨p.g1,0,none⟩) n n,.slice (some ⟨p.g2,0,none⟩) m m]
structure SPat (w:Vz) (n m:Nat) (p:SP):Prop where
 b1:SB w p.g1 54 (textsV p.x).toArray
 b2:SB w p.g2 54 (textsV p.y).toArray
 l1:p.x.length=n
 l2:p.y.length=m
theorem SPat.below{w w':Vz}{n m:Nat}{p:SP}(h:SPat w n m p)(a:Bl w w'):SPat w' n m p:=⟨h.b1.below a h.b1.lt,h.b2.below a h.b2.lt,h.l1,h.l2⟩
def STold(n:Nat)(x:Vec)(p:SP):Prop:=(∀(j:Nat) (s:Vs),p.x[j]?=some s->QText s.data.toList (x j))/\∀(j:Nat) (s:Vs),p.y[j]?=some s->QText s.data.toList (x (n+j))
structure StrsAt (w:Vz) (B n m:Nat) (v:Value) (ps:List SP) (xs:List Vec):Prop where
 list:Grow w B 50 2 IsSl v ps.length (ps.flatMap (SP.cells n m))
 each:∀p,p∈ ps->SPat w n m p
 len:ps.length=xs.length
 told:∀(i:Nat) (p:SP) (x:Vec),ps[i]?=some p->xs[i]?=some x->STold n x p
theorem StrsAt.below{w w':Vz}{B n m:Nat}{v:Value}{a:List SP}{xs:List Vec}(h:StrsAt w B n m v a xs)(b:Bl w w'):StrsAt w' B n m v a xs:=⟨h.list.below b,fun p c=>(h.each p c).below b,h.len,h.told⟩
theorem Qwt:(prog.info? 50).map (fun i=>(i.zero,i.size,i.bytes))=some (some (.agg #[.slice .none 0 0,.slice .none 0 0]),2,48):=by kernel_rfl
theorem Qwu:50≠54:=by decide
theorem StrsAt.app{w:Vz}{B n m nb c:Nat}{v:Value}{f:List SP}{xs:List Vec}{p:SP}{x:Vec}(h:StrsAt w B n m v f xs)(E:SB w nb 50 (SP.cells n m p).toArray)(d:SPat w n m p)(F:STold n x p)(Q:f.length<=1000)(hB:B<=w.heap.size)(ty:Vr):
 ∃l w',appR prog 35 ty v (.slice (some ⟨nb,0,none⟩) 1 c) w=.ok l w'/\StrsAt w' B n m l (f++ [p]) (xs++ [x])/\Below B w w':=by
 obtain⟨i,G,H⟩:=Option.map_eq_some_iff.1 Qwt;injection H with I s
 injection s with s J
 obtain⟨l,w',K,L,A,_⟩:=h.list.app (P:=prog) (t:=35) (ty:=ty) underlying35 G I s J rfl (by decide) (fun u b=>⟨none,0,0,by simpa [Value.cells] using b⟩) ⟨nb,0,none⟩ 1 c (SP.cells n m p) rfl (fun j u o=>by
  have:=E.cell j;rw[List.getElem?_toArray,o] at this;unfold Addr.add
  split
  .
   rename_i M;subst M;exact this
  . simpa using this) (fun u b=>by simp only[SP.cells,List.mem_cons,List.not_mem_nil,or_false] at b;rcases b with rfl|rfl<;>rfl) (fun u b=>by simp only[SP.cells,List.mem_cons,List.not_mem_nil,or_false] at b;rcases b with rfl|rfl<;>exact⟨_,_,_,rfl⟩) (by omega) (by decide) hB
 have k:∀p,SPat w n m p->SPat w' n m p:=fun p d=>by
  have q:∀(g:Nat) (C:Vw),SB w g 54 C->SB w' g 54 C:=fun g C hs=>by
   have q:=A.block g hs.lt (fun e=>by
    obtain⟨D,N,_⟩:=h.list.sb e.symm
    exact N.unlike hs Qwu rfl)
   unfold SB at hs ⊢;rw[q];exact hs
  exact⟨q _ _ d.b1,q _ _ d.b2,d.l1,d.l2⟩
 refine⟨l,w',K,⟨?_,fun t a=>?_,?_,fun j t y a r=>?_⟩,Qb4 A (fun g O=>(h.list.lt O).1) hB⟩
 . rw[List.length_append,List.length_singleton,List.flatMap_append]
   simpa using L
 .
  rcases List.mem_append.1 a with a|a
  . exact k t (h.each t a)
  . obtain rfl:=List.mem_singleton.1 a
    exact k t d
 . rw[List.length_append,List.length_append,h.len];rfl
 .
  by_cases o:j<f.length
  .
   rw[List.getElem?_append_left o] at a;rw[List.getElem?_append_left (by rw[<-h.len];exact o)] at r;exact h.told j t y a r
  .
   have z:j=f.length:=by
    have:=(gZ a).1;simp at this;omega
   subst z;rw[List.getElem?_append_right lZ,Nat.sub_self] at a;rw[List.getElem?_append_right (by rw[h.len];exact Nat.le_refl _),<-h.len,Nat.sub_self] at r;cases a;cases r;exact F
theorem Qwv{n:Nat}{r:MR}{x y:Vt}{e f:Nat}(c:Told (r.ts.take n) x)(d:Told (r.ts.drop n) y)(g:n<=r.ts.length):STold n r.q ⟨e,f,x,y⟩:=by
 refine⟨fun j s hs=>?_,fun j s hs=>?_⟩
 .
  have b:=(gZ hs).1;rw[c.1,List.length_take] at b;obtain⟨t,a⟩:∃t,r.ts[j]?=some t:=⟨_,gE (by omega)⟩;have:=c.2 j t s (by rw[List.getElem?_take_of_lt (by omega)];exact a) hs;rw[MR.q_at a];exact this
 .
  have b:=(gZ hs).1;rw[d.1,List.length_drop] at b;obtain⟨t,a⟩:∃t,r.ts[n+j]?=some t:=⟨_,gE (by omega)⟩;have:=d.2 j t s (by rw[List.getElem?_drop];exact a) hs;rw[MR.q_at a];exact this
theorem Qww(a1 a2 a3:Vx)(c1 c2 c3 P b:Nat)(H:List S2)(a:List B6)(hs:List H3)(vb:List (Nat × Nat × Rat × Rat))(vh:Vy)(w:Vz)(hg:Glob w)(hf:FrRow w a1 a2 a3 c1 c2 c3 H a hs)(hz:FrSized H a hs)(ba:FrameFault H a hs 0 0)(hv:FrV 1048576 H a hs vb vh)(hp:FrP P b vb)(ap:1000000<=b)(Y:b<=16000000):
 Calls prog 9 #[.agg #[.slice a1 H.length c1,.slice a2 a.length c2,.slice a3 hs.length c3]] w fun e w'=>∃(L S:List Vec) (U:Vy) (v:Value) (ps:List SP),e=.returned (.tuple #[v,.agg #[.int .i64 0,.int .i64 0]])/\MJ (a.length+hs.length) 20 (kC b) (balRows H.length vb a.length vh) (a.length+hs.length) L S U/\StrsAt w' w.heap.size a.length hs.length v ps ((freeTo U (a.length+hs.length)).map (fun c=>nullF c (cln S U) U U.length))/\Bl w w':=by
 obtain⟨HG,HF,HZ,b4,HV⟩:=Id hg hf hz ba hv;obtain⟨bb,bc,bd⟩:=hp.rows hv;obtain⟨aq,be,ad⟩:=Ib (bb.mono (K':=kW b) (by simp only[kE,kW,kC];omega)) bc bd;have n1:=hv.j;have n2:=hv.b;have n3:=hv.h;clear hg hf hz ba hv bb bc bd;obtain⟨K,hK⟩:=nm (kW b);have bf:=hK;simp only[kW,kC] at bf;have b5:1<K:=by omega
 have b6:4*K+1<68719476000:=by omega
 have b7:4*1048576+1+(4*1048576+1)+1<=K:=by omega
 rw[hK] at aq ad;clear bf;obtain⟨I,hI⟩:=nm (MJ (a.length+hs.length) 20 (kC b) (balRows H.length vb a.length vh));rw[hI] at aq be ad ⊢;have cr:=Hi hI;clear hI hK;obtain⟨J,ae⟩:=nm w.heap.size;obtain⟨V0,Z⟩:=nm ((w.alloc (.cells #[.slice a1 H.length c1,.slice a2 a.length c2,.slice a3 hs.length c3] 26)).alloc (.cells #[.int .i64 0,.int .i64 0] 31));have M:=Ub Z;have ar:=Ug Z ae;have au:=Uh Z ae;obtain⟨bg,bh,bi⟩:=Ib Z ae (Qdr a1 a2 a3 c1 c2 c3 H a hs V0 (HG.o.below M.o) (HF.o.below M.o) HZ.o b4.o);clear Z ae
 go_enter func9,ntmps9;go_wp2_with fail;rw[bg.o,bh.o];clear bg;go_fit bi.o;rintro e w1 ⟨rfl,aa⟩;obtain⟨V,hV⟩:=nm (w1.alloc (.cells #[.int .i64 0,.int .i64 0] 31));obtain⟨B2,af⟩:=nm w1.heap.size;have s:Bl V0 V:=by rw[<-hV];exact aa.alloc aa.size _
 obtain⟨n,av⟩:=Ia (ar.o.below s ar.o.lt) (au.o.below s au.o.lt);have b8:=Uf hV af;have f:=Hi (M.o.trans (s.mono M.o.size));obtain⟨k0,-⟩:=zc b8.o;obtain⟨b9,ca⟩:=Ia hV af;rw[<-hV,<-af] at k0;clear aa s ar au bi hV af;go_wp2_with fail;rw[b9.o,ca.o];clear k0;have l:=n;obtain⟨x0,x1,x2,-⟩:=zc l.o;have C:O (Bl V V):=Hi bR
 obtain⟨aw,ax⟩:=Ia (fun u (hu:Bl V u)=>Qds a1 a2 a3 c1 c2 c3 1048576 K H a hs vb vh u (HG.o.below (f.o.trans (hu.mono f.o.size))) (HF.o.below (f.o.trans (hu.mono f.o.size))) HV.o b7) (fun u=>Qdm a1 a2 a3 c1 c2 c3 H.length a.length hs.length u n2 n3);obtain⟨W,hW⟩:=nm (a.length+hs.length);obtain⟨N0,bj⟩:=nm (2*H.length);have eW:(a.length:Int)+(hs.length:Int)=(W:Int):=by omega
 simp only[eW] at ax;rw[hW] at aw;obtain⟨t,cb⟩:=Ia hW bj;have cc:W<=100:=by omega
 have cd:N0<=20:=by omega
 clear eW hW bj;go_region_held3 (fun v=>v.cell? ⟨J,0,none⟩=some (.slice a1 H.length c1)/\v.cell? ⟨J,1,none⟩=some (.slice a2 a.length c2)/\v.cell? ⟨J,2,none⟩=some (.slice a3 hs.length c3)) ((first|(simp [*];done)|go_keep)) (first
  |(
   go_at_call 38;apply cM;apply aw.o;(first|exact C.o|exact C.o.drew);rintro e v1 ⟨N,G,rs,hN,rfl,bk,bl,ak,bm,hq,ap⟩;obtain rfl:N0=N:=by rw[hN];exact cb.o.symm
   obtain⟨bn,bo,ce,HQ,al⟩:=Id bk bl bm hq ak;clear hN bk bl ak hq bm;have T:=Hi ((by first|exact C.o|exact C.o.drew:Bl V _).trans (ap.mono (by first|exact C.o.size|exact C.o.drew.size)));clear ap C x0 x1 x2 l;have l:=Hi (n.o.below T.o n.o.lt);obtain⟨x0,x1,x2,-⟩:=zc l.o
   skip)
  |(
   go_at_call 39;apply cM;apply ax.o;rintro e v2 ⟨rfl,Y⟩;(first
     |have Q:=Hi Y
     |have Q:O (Bl v1 v2):=Hi (bR.drew.trans Y))
   have D:=Hi ((by first|exact T.o|exact T.o.drew:Bl V _).trans (Y.mono (by first|exact T.o.size|exact T.o.drew.size)));clear Y T x0 x1 x2 l;have l:=Hi (n.o.below D.o n.o.lt);obtain⟨x0,x1,x2,-⟩:=zc l.o
   skip)
  |(
   go_at_call 41;apply cM
   (have ag:=Qlm (some ⟨G,0,none⟩) N0 W K rs v2 (HG.o.below (f.o.trans (D.o.mono f.o.size))) I aq.o (bo.o.row.below Q.o) (al.o.fr (Fr.of_below Q.o)) (by rw[bn.o];omega) (by omega) b5 b6
     (by rw[HQ.o];exact be.o)
     (fun L S hs hi=>by
       rw[<-t.o] at hi ⊢
       exact⟨(ad.o L S hs hi).1.1,(ad.o L S hs hi).2.1⟩)
    rw[bn.o] at ag
    exact ag)
   rintro e v5 ⟨L,S,U,nv,ns,rfl,hi,ah⟩;obtain⟨na,nc,rfl,_,_,_⟩:=ah.list.slice;obtain⟨E,HJ⟩:=Ia ah hi;have bp:=ah.base;clear hi ah;have z:=Hi ((by first|exact D.o|exact D.o.drew:Bl V _).trans (bp.mono (by first|exact D.o.size|exact D.o.drew.size)));clear bp D x0 x1 x2 l;have l:=Hi (n.o.below z.o n.o.lt);obtain⟨x0,x1,x2,-⟩:=zc l.o
   skip)
  |fail)
 obtain⟨xs,ai⟩:=nm ((freeTo U W).map (fun c=>nullF c (cln S U) U U.length));have cf:=Hi ai;rw[ai] at E;have ag:O (ns.length<=100):=Hi (by
  have A:=congrArg List.length E.o.q;rw[<-ai,List.length_map,List.length_map] at A;have h2:=Qdg U W
  omega)
 have cs:=ag.o;have cg:=Hi (HG.o.below (f.o.trans (z.o.mono f.o.size)));clear ai bo ce HQ al Q aw ax x0 x1 x2 l;go_wp2_with fail;go_loopw [20,5] (fun iv lv wr=>∃(k:Nat) (ms:List SP),k<=ns.length/\iv=.int .i64 k/\StrsAt wr v5.heap.size a.length hs.length lv ms (xs.take k)/\Bl v5 wr) (fun iv _ _=>ns.length - (intOf iv).toNat)
 case atStart=>exact⟨0,[],Nat.zero_le _,rfl,⟨Grow.nil _ _ _ _ _,(fun m hm=>by cases hm),rfl,fun i m x hm=>by simp at hm⟩,Below.refl _ _⟩
 case round=>
  obtain⟨k,ms,hk,rfl,bq,br⟩:=hrel;obtain⟨ay,B⟩:=Ia bq br;clear bq br;by_cases ch:k<ns.length
  .
   obtain⟨r,hr⟩:∃r,ns[k]?=some r:=⟨ns[k],gE ch⟩;have d:=(E.o.ok.fr (Fr.of_below B.o)) r (mO hr);obtain⟨rg,az,a0⟩:=E.o.own r (mO hr);obtain⟨gb,go,rfl,ct,d0⟩:=(E.o.list.below B.o).crow.cell k r.val (by rw[List.getElem?_map,hr];rfl);rw[MR.val,d.len,az,a0] at d0;have q1:((k:Int)<(ns.length:Int)):=by omega
   have ab:=d.row;rw[az,a0] at ab;have a4:=Qlu (.slice a1 H.length c1) (.slice a3 hs.length c3) a2 c2 a.length rg 0 W K r.ts wr (cg.o.below B.o) ab d.sz (by omega) (by rw[d.len];omega) (by rw[d.len,<-t.o];omega) (by omega) rfl rfl;rw[d.len] at a4;obtain⟨ci,a5⟩:=Ia a4 d.len;have cj:O (xs.take (k+1)=xs.take k++ [r.q]):=Hi (by
    have A:xs[k]?=some r.q:=by rw[<-E.o.q,List.getElem?_map,hr];rfl
    rw[List.take_add_one,A]
    rfl)
   obtain⟨x0,x1,x2,-⟩:=zc (n.o.below (z.o.trans (B.o.mono z.o.size)) n.o.lt);clear a4 d hr az a0 ab;go_wp2_with fail;go_fit ci.o;rintro e w6 ⟨⟨g1,g2,x,y,rfl,am,an,a6,a7,_,_⟩,a8⟩;have bt:W - a.length=hs.length:=by have:=t.o;omega
   rw[bt];obtain⟨X,hX⟩:=nm (w6.alloc (.cells #[.slice (some ⟨g1,0,none⟩) a.length a.length,.slice (some ⟨g2,0,none⟩) hs.length hs.length] 50));have a9:Bl w6 X:=by rw[<-hX];exact(Below.refl _ _).alloc lZ _
   have R:=a8.trans (a9.mono a8.size);have bu:SB X w6.heap.size 50 (SP.cells a.length hs.length ⟨g1,g2,x,y⟩).toArray:=by rw[<-hX];exact SB.new w6 _ _
   have bv:=ay.o.below R;have bw:v5.heap.size<=X.heap.size:=by have A:=B.o.size;have h2:=R.size;omega
   have aj:x.length=a.length:=by have h:=a6.1;rw[List.length_take,a5.o] at h;have:=t.o;omega
   have bx:y.length=hs.length:=by have h:=a7.1;rw[List.length_drop,a5.o] at h;have:=t.o;omega
   obtain⟨v7,w7,ao,bz,b0⟩:=bv.app (p:=⟨g1,g2,x,y⟩) (x:=r.q) (c:=1) bu (SPat.below ⟨am,an,aj,bx⟩ a9) (Qwv a6 a7 (by rw[a5.o];have:=t.o;omega)) (by rw[ay.o.len,List.length_take];omega) bw 35;have ck:O (StrsAt w7 v5.heap.size a.length hs.length v7 (ms++ [⟨g1,g2,x,y⟩]) (xs.take (k+1))):=Hi (by rw[cj.o];exact bz);have cl:=Hi ((B.o.trans (R.mono B.o.size)).trans b0);have cm:appR prog 35 35 u5 (.slice (some ⟨w6.heap.size,0,none⟩) 1 1) (w6.alloc (.cells #[.slice (some ⟨g1,0,none⟩) a.length a.length,.slice (some ⟨g2,0,none⟩) hs.length hs.length] 50))=.ok v7 w7:=by rw[hX];exact ao
   clear am an a6 a7 a8 hX a9 R bu bv bw ao bz b0 d0 aj bx bt x0 x1 x2;go_wp2;go_roundw
   case rel=>exact⟨k+1,_,by omega,by go_num,ck.o,cl.o⟩
   case measure=>simp[intOf];omega
  .
   obtain rfl:k=ns.length:=by omega
   have s:=z.o.trans (B.o.mono z.o.size);have F:=av.o.below s av.o.lt;obtain⟨z0,z1,-⟩:=zc F;have f0:=F.free 0;have f1:=F.free 1;have cn:=Hi F;have b3:w.heap.size<=J+1:=by have:=bh.o;omega
   have cp:O (Bl w ((wr.setCell ⟨J+1,0,none⟩ (.int .i64 0)).setCell ⟨J+1,1,none⟩ (.int .i64 0))):=Hi (((f.o.trans (s.mono f.o.size)).setCell (p:=⟨J+1,0,none⟩) b3 _).setCell (p:=⟨J+1,1,none⟩) b3 _);have cq:O (StrsAt ((wr.setCell ⟨J+1,0,none⟩ (.int .i64 0)).setCell ⟨J+1,1,none⟩ (.int .i64 0)) w.heap.size a.length hs.length u5 ms xs):=Hi (by
    have A:=ay.o;have aj:xs.length=ns.length:=by rw[<-E.o.q,List.length_map]
    rw[<-aj,List.take_length] at A;have ho:Only (J+1) wr ((wr.setCell ⟨J+1,0,none⟩ (.int .i64 0)).setCell ⟨J+1,1,none⟩ (.int .i64 0)):=((Only.refl _ _).setCell _ _).setCell _ _;refine⟨(A.list.keep fun g hg=>ho.block g (A.list.lt hg).2 (fun e=>?_)).mono (Nat.le_trans f.o.size z.o.size),fun m hm=>⟨(A.each m hm).b1.only ho ?_,(A.each m hm).b2.only ho ?_,(A.each m hm).l1,(A.each m hm).l2⟩,A.len,A.told⟩
    .
     have a1:=(A.list.lt hg).1;have a2:=av.o.lt;have a3:=z.o.size;omega
    . exact(A.each m hm).b1.unlike F (by decide)
    . exact(A.each m hm).b2.unlike F (by decide))
   clear F s;go_wp2;refine bodyPost_ret (Qct rfl _ _ (J+1) 31 #[.int .i64 0,.int .i64 0] (0,0) _ rfl ((cn.o.set 0 _).set 1 _) underlying31 rfl Tryz.faultInfo) rfl ?_;refine⟨L,S,U,_,ms,rfl,?_,?_,cp.o⟩
   . rw[t.o];exact HJ.o
   . rw[t.o,cf.o];exact cq.o
theorem Wh.fits{P b:Nat}{q:Rat}(h:Wh P b q)(a:0<P)(c:P<=2 ^ b):Fits q (b+1):=by
 obtain⟨z,e,f⟩:=h;have g:2 ^ b<2 ^ (b+1):=Nat.pow_lt_pow_right (by decide) (by omega);refine Qf7 (Z:=z) (y:=1) (d:=P) (by decide) a ?_ (by omega) (by simp;omega) (by omega);rw[<-e]
 show q*(((1:Int):Rat)*(P:Rat))=q*(P:Rat)
 rw[show ((1:Int):Rat)=1 from rfl,Rat.one_mul]
structure FrLP (P b:Nat) (vb:List (Nat × Nat × Rat × Rat)) (vs:List (Nat × Rat × Rat)):Prop extends FrP P b vb where
 agn:∀k i,Wh P b (agn (vs.take k) i)
theorem Qe4{α β γ:Type}{f:α->β->γ}:∀{l:List α} {m:List β} {r:γ},r∈ List.zipWith f l m->∃a,a∈ l/\∃b,b∈ m/\r=f a b
 |a :: l,b :: m,r,h=>by
  rw[List.zipWith_cons_cons] at h;rcases List.mem_cons.1 h with rfl|h
  . exact⟨a,by simp,b,by simp,rfl⟩
  . obtain⟨c,d,g,i,e⟩:=Qe4 h
    exact⟨c,by simp[d],g,by simp[i],e⟩
 | [],m,r,h=>by simp at h
 |a :: l,[],r,h=>by simp at h
theorem Qmx(n o q s:Vx)(c1 c2 c3 t P b:Nat)(a:List S2)(c:List B6)(hs:List H3)(f:List (Nat × Nat × Rat × Rat))(vh:Vy)(e:List L3)(vs:List (Nat × Rat × Rat))(w:Vz)(H:Glob w)(I:FrRow w n o q c1 c2 c3 a c hs)(J:FrSized a c hs)(u:FrameFault a c hs 0 0)(h:FrV 1048576 a c hs f vh)
 (hl:ARow L3.cells w s t e) (x:e.length<=20) (y:vs.length=e.length) (z:∀(i:Nat) (l:L3) (p:Nat × Rat × Rat),e[i]?=some l->vs[i]?=some p->LoadV a.length l p) (d:FrLP P b f vs) (K:1000000<=b) (N:b<=16000000):
 Calls prog 24 #[.agg #[.slice n a.length c1,.slice o c.length c2,.slice q hs.length c3],.slice s e.length t] w (CarrySays c.length hs.length (balRows a.length f c.length vh) ((List.range (2*a.length)).map (agn vs)) w):=by
 have A:∀i,Wh P b (agn vs i):=fun i=>by
  have:=d.agn vs.length i;rw[List.take_length] at this;exact this
 obtain⟨B,C,D⟩:=Qe9 (W:=c.length+hs.length+1) (M:=List.zipWith (wider (c.length+hs.length)) (balRows a.length f c.length vh) ((List.range (2*a.length)).map (agn vs))) d.pos d.le (fun r E j=>by
  obtain⟨m,F,v,g,rfl⟩:=Qe4 E;obtain⟨k,_,rfl⟩:=List.mem_map.1 F;obtain⟨i,_,rfl⟩:=List.mem_map.1 g;unfold wider
  split
  . exact A _
  . exact d.at _ _) (fun r E i G=>by
  obtain⟨m,F,v,g,rfl⟩:=Qe4 E;obtain⟨k,_,rfl⟩:=List.mem_map.1 F;unfold wider;rw[if_neg (by omega)]
  exact Qcw h.lb h.lh _ i (by omega)) (.inl (by
  have:=h.j;simp only[List.length_zipWith,balRows,List.length_map,List.length_range]
  omega))
 refine Qmj n o q s c1 c2 c3 t 1048576 (kW b) a c hs f vh e vs w H I J u h hl x y z (fun k i=>((d.agn k i).fits d.pos d.le).mono (by simp only[kW,kC];omega)) (by simp only[kW,kC];omega) (by simp only[kW,kC];omega) _ (B.mono (by simp only[kE,kW,kC];omega)) C (fun L S O G=>?_);obtain⟨⟨Q,R⟩,T,_⟩:=D L S O G;exact⟨Q,R,T⟩
theorem Qmn(a b d:Nat)(w:Vz)(g:Glob w)(h:FrRow w (some ⟨a,0,none⟩) (some ⟨b,0,none⟩) (some ⟨d,0,none⟩) 3 3 3 cornerJ cornerB cornerH):
 Calls prog 27 #[.agg #[.slice (some ⟨a,0,none⟩) 3 3,.slice (some ⟨b,0,none⟩) 3 3,.slice (some ⟨d,0,none⟩) 3 3]] w fun e w'=>e=.returned (.tuple #[.int .i64 0,.agg #[.int .i64 0,.int .i64 0]])/\Below w.heap.size w w':=by
 refine Calls.mono (Qum (some ⟨a,0,none⟩) (some ⟨b,0,none⟩) (some ⟨d,0,none⟩) 3 3 3 cornerJ cornerB cornerH w g h Qe0) ?_;rintro e w' ⟨c,i,k,rfl,f,_,hk,j⟩;obtain⟨rfl,rfl⟩:=f.inj Qe2;obtain rfl:=hk rfl;exact⟨rfl,j⟩
theorem Qdt{b:Nat}{q:Rat}(h:q=0∨q=1∨q= -1):Wh 1 b q:=by
 rcases h with rfl|rfl|rfl
 . exact Wh.zero _ _
 . exact Wh.one Nat.one_le_two_pow
 . exact(Wh.one Nat.one_le_two_pow).neg
theorem Qhm(b:Nat):FrLP 1 b cornerVB cornerVS:=by
 refine⟨⟨by decide,Nat.one_le_two_pow,fun p a=>?_⟩,fun k i=>?_⟩
 . simp only[cornerVB,List.mem_cons,List.not_mem_nil,or_false] at a
   rcases a with rfl|rfl|rfl<;>exact⟨Qdt (by decide +kernel),Qdt (by decide +kernel)⟩
 .
  match k with
  |0=>exact Wh.zero _ _
  |k+1=>
   have e:agn (cornerVS.take (k+1))=agnStep (fun _=>0) (2,1,0):=by simp[cornerVS];rfl
   rw[e];by_cases c:i=4
   . subst c
     exact Qdt (by decide +kernel)
   .
    by_cases d:i=5
    . subst d
      exact Qdt (by decide +kernel)
    . rw[Qlv (by simpa using c) (by simpa using d)]
      exact Wh.zero _ _
theorem Qmo(a b d:Nat)(w:Vz)(k:Glob w)(l:FrRow w (some ⟨a,0,none⟩) (some ⟨b,0,none⟩) (some ⟨d,0,none⟩) 3 3 3 cornerJ cornerB cornerH):
 Calls prog 8 #[.agg #[.slice (some ⟨a,0,none⟩) 3 3,.slice (some ⟨b,0,none⟩) 3 3,.slice (some ⟨d,0,none⟩) 3 3]] w fun e w'=>e=.returned (.tuple #[.int .i64 6,.int .i64 0,.int .i64 0,.agg #[.int .i64 0,.int .i64 0]])/\Below w.heap.size w w':=by
 obtain⟨f,g,h⟩:=(Qhm 1000000).toFrP.rows Qe1;refine Calls.mono (Qhi (some ⟨a,0,none⟩) (some ⟨b,0,none⟩) (some ⟨d,0,none⟩) 3 3 3 1048576 (kW 1000000) cornerJ cornerB cornerH cornerVB cornerVH w k l Qe0 Qe2 Qe1 (by simp only[kW,kC];omega) (by simp only[kW,kC];omega) _ (f.mono (by simp only[kE,kW,kC];omega)) g) ?_;rintro e w' ⟨⟨L,S,m,rfl,_,n⟩,o⟩;obtain⟨⟨i,j⟩,_⟩:=h L S m n;have p:balRows cornerJ.length cornerVB cornerB.length cornerVH=cornerM:=Qhj;rw[p] at j;have q:S.length=6:=by
  rw[i.len];exact i.full (fun x r c s=>Qoj x ((j x).2 r) c s)
 rw[q];exact⟨rfl,o⟩
theorem Qmp(a b c d:Nat)(f:Vx)(w:Vz)(g:Glob w)(i:FrRow w (some ⟨a,0,none⟩) (some ⟨b,0,none⟩) (some ⟨c,0,none⟩) 3 3 3 cornerJ cornerB cornerH)(hl:ARow L3.cells w f d cornerL):
 Calls prog 24 #[.agg #[.slice (some ⟨a,0,none⟩) 3 3,.slice (some ⟨b,0,none⟩) 3 3,.slice (some ⟨c,0,none⟩) 3 3],.slice f 1 d] w fun e w'=>∃a b,e=.returned (.tuple #[.agg #[.slice (some ⟨a,0,none⟩) 3 3,.slice (some ⟨b,0,none⟩) 3 3],.agg #[.int .i64 0,.int .i64 0]])/\TLst w' (some ⟨a,0,none⟩) [⟨#[49]⟩,⟨#[45,49]⟩,⟨#[49]⟩]/\TLst w' (some ⟨b,0,none⟩) [⟨#[45,49]⟩,⟨#[45,49]⟩,⟨#[49]⟩]/\Below w.heap.size w w':=by
 have j:balRows cornerJ.length cornerVB cornerB.length cornerVH=cornerM:=Qhj;have k:(List.range (2*cornerJ.length)).map (agn cornerVS)= [0,0,0,0,-1,0]:=Qml;have h:=Qmx (some ⟨a,0,none⟩) (some ⟨b,0,none⟩) (some ⟨c,0,none⟩) f 3 3 3 d 1 1000000 cornerJ cornerB cornerH cornerVB cornerVH cornerL cornerVS w g i Qe0 Qe2 Qe1 hl (by decide) rfl Qmk (Qhm _) (by decide) (by decide);rw[j,k] at h;exact h.mono fun e w' l=>Qmm l
theorem Qmq(w:Vz)(hg:Glob w):Calls prog 5 #[] w fun e w'=>e=.returned (.bool true)/\Below w.heap.size w w':=by
 have HG:=Hi hg;clear hg;go_enter func5,ntmps5;go_wp2_with fail;go_fit (Qfb w);rintro e w1 ⟨g1,g2,g3,rfl,L,y⟩;obtain⟨M,p⟩:=Ia (Qmn g1 g2 g3 w1 (HG.o.below y) L) y;clear L y;go_wp2_with fail;go_fit M.o;rintro e w2 ⟨rfl,z⟩;obtain⟨V2,q⟩:=nm (w2.alloc (.cells #[.int .i64 0,.int .i64 0] 31));obtain⟨p2,A⟩:=nm w2.heap.size;have N:=Hi ((p.o.trans (z.mono p.o.size)).trans ((show Below w2.heap.size w2 V2 by rw[<-q];exact(Below.refl _ _).alloc lZ _).mono (p.o.trans (z.mono p.o.size)).size));have B:=Uf q A;obtain⟨ag,ah⟩:=Ia q A;clear z q A M;go_wp2_with fail;rw[ag.o,ah.o];go_fit (Qfb V2);rintro e w3 ⟨g4,g5,g6,rfl,O,C⟩;have D:=Hi (N.o.trans (C.mono N.o.size))
 obtain⟨E,P⟩:=Ia (B.o.below C B.o.lt) (Qmo g4 g5 g6 w3 (HG.o.below D.o) O);clear O C B;go_wp2_with fail;go_fit P.o;rintro e w4 ⟨rfl,F⟩;obtain⟨V4,r⟩:=nm (w4.alloc (.cells #[.int .i64 0,.int .i64 0] 31));obtain⟨p4,G⟩:=nm w4.heap.size;have h:Bl w3 V4:=by rw[<-r];exact F.alloc F.size _
 have Q:=Hi (D.o.trans (h.mono D.o.size));have H:=Uf r G;obtain⟨i,ai,aj⟩:=Ib (E.o.below h E.o.lt) r G;clear F r G h P E;go_wp2_with fail;rw[ai.o,aj.o];go_fit (Qfb V4);rintro e w5 ⟨g7,g8,g9,rfl,R,s⟩;obtain⟨S,T,j,k⟩:=Ic R (Q.o.trans (s.mono Q.o.size)) (H.o.below s H.o.lt) (i.o.below s i.o.lt);clear R s H i;go_wp2_with fail;go_fit (Qdl ⟨#[49]⟩ ⟨#[48]⟩ w5);rintro e w6 ⟨rfl,I⟩;obtain⟨V6,t⟩:=nm (w6.alloc (.cells #[.int .i64 2,.string ⟨#[49]⟩,.string ⟨#[48]⟩] 62));have a:Bl w5 V6:=by rw[<-t];exact I.alloc I.size _
 obtain⟨J,u,v⟩:=Ib (T.o.trans (a.mono T.o.size)) (j.o.below a j.o.lt) (k.o.below a k.o.lt);have U:SB V6 w6.heap.size 62 #[.int .i64 2,.string ⟨#[49]⟩,.string ⟨#[48]⟩]:=by rw[<-t];exact SB.new w6 _ _
 obtain⟨V,ak⟩:=Ia (Qmp g7 g8 g9 1 (some ⟨w6.heap.size,0,none⟩) V6 (HG.o.below J.o) (S.o.below a) (U.arow rfl (by decide))) t;clear I t a U S j k;go_wp2_with fail;rw[ak.o];go_fit V.o;rintro e x ⟨h1,h2,rfl,W,X,K⟩;obtain⟨c,b⟩:=nm ((x.alloc (.cells #[.slice (some ⟨h1,0,none⟩) 3 3,.slice (some ⟨h2,0,none⟩) 3 3] 50)).alloc (.cells #[.int .i64 0,.int .i64 0] 31));obtain⟨q7,m⟩:=nm x.heap.size;have d:Bl x c:=by rw[<-b];exact Below.new2 x _ _
 have f:=K.trans (d.mono K.size);have Y:SB c q7 50 #[.slice (some ⟨h1,0,none⟩) 3 3,.slice (some ⟨h2,0,none⟩) 3 3]:=by rw[<-b,<-m];exact(SB.new x _ _).alloc _
 have Z:SB c (q7+1) 31 #[.int .i64 0,.int .i64 0]:=by rw[<-b,<-m];exact Qa1 x _ _ _
 obtain⟨k0,-⟩:=zc (v.o.below f v.o.lt);obtain⟨k1,-⟩:=zc (u.o.below f u.o.lt);obtain⟨k2,-⟩:=zc Z;obtain⟨k3,k4,-⟩:=zc Y;have aa:=Hi (J.o.trans (f.mono J.o.size));obtain⟨V8,n⟩:=nm ((c.alloc (.cells #[.string ⟨#[49]⟩,.string ⟨#[45,49]⟩,.string ⟨#[49]⟩] 54)).alloc (.cells #[.string ⟨#[45,49]⟩,.string ⟨#[45,49]⟩,.string ⟨#[49]⟩] 54));have g:Bl c V8:=by rw[<-n];exact Below.new2 c _ _
 have t1:TLst V8 (some ⟨c.heap.size,0,none⟩) [⟨#[49]⟩,⟨#[45,49]⟩,⟨#[49]⟩]:=by
  rw[<-n];exact SB.texts (l:=[⟨#[49]⟩,⟨#[45,49]⟩,⟨#[49]⟩]) ((SB.new c 54 _).alloc _)
 have t2:TLst V8 (some ⟨c.heap.size+1,0,none⟩) [⟨#[45,49]⟩,⟨#[45,49]⟩,⟨#[49]⟩]:=by
  rw[<-n];exact SB.texts (l:=[⟨#[45,49]⟩,⟨#[45,49]⟩,⟨#[49]⟩]) (Qa1 c _ 54 _)
 obtain⟨ab,ad⟩:=Ia (Qhl (some ⟨h1,0,none⟩) (some ⟨h2,0,none⟩) (some ⟨c.heap.size,0,none⟩) (some ⟨c.heap.size+1,0,none⟩) 3 3 3 3 [⟨#[49]⟩,⟨#[45,49]⟩,⟨#[49]⟩] [⟨#[45,49]⟩,⟨#[45,49]⟩,⟨#[49]⟩] V8 ((W.below d).below g) ((X.below d).below g) t1 t2 (by decide) (by decide)) (aa.o.trans (g.mono aa.o.size));rw[<-b] at k0 k1;rw[<-b,<-m] at k2 k3 k4;have ae:c.heap.size=x.heap.size+1+1:=by rw[<-b];simp
 rw[ae] at ab;obtain⟨al,ao,am⟩:=Ib b m n;clear W X K d f Y Z g t1 t2 b m n V ae;go_wp2_with fail;rw[al.o,am.o];go_fit ab.o;rintro e w9 ⟨rfl,af⟩;have an:=Hi (ad.o.trans (af.mono ad.o.size));clear af k0 k1 k2 k3 k4;go_wp2;go_ret;exact⟨rfl,an.o⟩
section
open Go.ChangeShapes Go.WideShapes Go.ChangeAt Go.RowKit
theorem Qb3{s:Vs}{l:Vu}(h:s.data.toList=l):s=⟨l.toArray⟩:=by
 obtain⟨⟨m⟩⟩:=s;simp at h;subst h;rfl
theorem gSpot:prog.globalNamed "rafter/raftersame.Spot" =some 1:=by kernel_rfl
theorem gSpotType:(prog.globals[1]?).map (·.type)=some 56:=by kernel_rfl
theorem gBar:prog.globalNamed "rafter/raftersame.Bar" =some 2:=by kernel_rfl
theorem gBarType:(prog.globals[2]?).map (·.type)=some 80:=by kernel_rfl
theorem gHold:prog.globalNamed "rafter/raftersame.Hold" =some 3:=by kernel_rfl
theorem gHoldType:(prog.globals[3]?).map (·.type)=some 83:=by kernel_rfl
theorem Quv{W:Vz}{rest:List (String × DataW Unit)}(h:laidMet prog (("rafter/raftersame.Spot",Rows.laid_rafter_raftersame_Spot) :: rest) W):W.cell? ⟨1,0,none⟩=some (.string ⟨#[109,97,114,107]⟩)/\W.cell? ⟨1,1,none⟩=some (.string ⟨#[]⟩):=by
 obtain⟨o,⟨g,t,f,d,p,q,j,k,a,l,_,_⟩,_⟩:=h;obtain rfl:=Option.some.inj (gSpot.symm.trans j);obtain rfl:=Option.some.inj (gSpotType.symm.trans k);obtain⟨x,y,b,e,_⟩:=Qky underlying56 underlying54 Qgv Qco rfl rfl rfl rfl l;simp only[Rows.laid_rafter_raftersame_Spot,DataW.agg.injEq,List.cons.injEq,DataW.lit.injEq,Lit.string.injEq,and_true] at e;obtain⟨m,n⟩:=e;have c:∀i,W.cell? ⟨1,i,none⟩=f.toList[i]?:=fun i=>by rw[World.var?_cell gSpot a i];simp
 rw[b] at c;refine⟨?_,?_⟩
 . rw[c 0,<-Qb3 m.symm];rfl
 . rw[c 1,<-Qb3 n.symm];rfl
theorem Quw{W:Vz}{rest:List (String × DataW Unit)}(h:laidMet prog (("rafter/raftersame.Bar",Rows.laid_rafter_raftersame_Bar) :: rest) W):
 W.cell? ⟨2,0,none⟩=some (.int .i64 (-9))/\W.cell? ⟨2,1,none⟩=some (.int .i64 0)/\W.cell? ⟨2,2,none⟩=some (.string ⟨#[]⟩)/\W.cell? ⟨2,3,none⟩=some (.string ⟨#[]⟩)/\W.cell? ⟨2,4,none⟩=some (.string ⟨#[]⟩)/\W.cell? ⟨2,5,none⟩=some (.string ⟨#[]⟩):=by
 obtain⟨w,⟨g,t,j,e,p,q,k,l,a,m,_,_⟩,_⟩:=h;obtain rfl:=Option.some.inj (gBar.symm.trans k);obtain rfl:=Option.some.inj (gBarType.symm.trans l);obtain⟨b,d,f⟩:=Qkw underlying80 underlying54 underlying3 Qgz Qco cellsInt rfl rfl rfl rfl rfl rfl rfl rfl rfl rfl rfl rfl m;simp only[Rows.laid_rafter_raftersame_Bar,barD,textD,DataW.agg.injEq,List.cons.injEq,DataW.lit.injEq,Lit.string.injEq,Lit.int.injEq,true_and,and_true] at f;obtain⟨n,o,r,s,u,v⟩:=f;have c:∀i,W.cell? ⟨2,i,none⟩=j.toList[i]?:=fun i=>by rw[World.var?_cell gBar a i];simp
 rw[d] at c;refine⟨?_,?_,?_,?_,?_,?_⟩
 . rw[c 0,n];rfl
 . rw[c 1,o];rfl
 . rw[c 2,<-Qb3 r.symm];rfl
 . rw[c 3,<-Qb3 s.symm];rfl
 . rw[c 4,<-Qb3 u.symm];rfl
 . rw[c 5,<-Qb3 v.symm];rfl
theorem Qux{W:Vz}{rest:List (String × DataW Unit)}(h:laidMet prog (("rafter/raftersame.Hold",Rows.laid_rafter_raftersame_Hold) :: rest) W):W.cell? ⟨3,0,none⟩=some (.int .i64 (-9))/\W.cell? ⟨3,1,none⟩=some (.int .i64 0)/\W.cell? ⟨3,2,none⟩=some (.string ⟨#[]⟩):=by
 obtain⟨s,⟨g,t,j,e,p,q,k,l,a,m,_,_⟩,_⟩:=h;obtain rfl:=Option.some.inj (gHold.symm.trans k);obtain rfl:=Option.some.inj (gHoldType.symm.trans l);obtain⟨b,d,f⟩:=Qkx underlying83 underlying54 underlying3 underlying3 Qg0 Qco cellsInt cellsInt rfl rfl rfl rfl rfl rfl m;simp only[Rows.laid_rafter_raftersame_Hold,holdD,textD,DataW.agg.injEq,List.cons.injEq,DataW.lit.injEq,Lit.string.injEq,Lit.int.injEq,true_and,and_true] at f;obtain⟨n,o,r⟩:=f;have c:∀i,W.cell? ⟨3,i,none⟩=j.toList[i]?:=fun i=>by rw[World.var?_cell gHold a i];simp
 rw[d] at c;refine⟨?_,?_,?_⟩
 . rw[c 0,n];rfl
 . rw[c 1,o];rfl
 . rw[c 2,<-Qb3 r.symm];rfl
theorem Quy{W:Vz}{rest:List (String × DataW Unit)}(h:laidMet prog (("rafter/raftersame.Spot",Rows.laid_rafter_raftersame_Spot) :: ("rafter/raftersame.Bar",Rows.laid_rafter_raftersame_Bar) :: ("rafter/raftersame.Hold",Rows.laid_rafter_raftersame_Hold) :: rest) W):Marks3 W:=by
 obtain⟨a,b⟩:=Quv h;obtain⟨c,d,e,f,g,i⟩:=Quw (Qbd h);obtain⟨j,k,l⟩:=Qux (Qbd (Qbd h));exact⟨a,b,c,d,e,f,g,i,j,k,l⟩
def tabledF(w:Vz):World:=
 put 10 Rows.laid_math_bits_deBruijn32tab (put 11 Rows.laid_math_bits_deBruijn64tab (put 9 Rows.laid_internal_strconv_uint64pow10
  (put 6 Rows.laid_unicode_utf8_acceptRanges (put 5 Rows.laid_unicode_utf8_first (put 1 Rows.laid_rafter_raftersame_Spot (put 2 Rows.laid_rafter_raftersame_Bar (put 3 Rows.laid_rafter_raftersame_Hold w)))))))
end
abbrev RT:=Nat × Rat × Nat
def ptrV(t:RT):Value:=.pointer (some ⟨t.1,0,none⟩)
def IsPt(u:Value):Prop:=∃p,u=Value.pointer p
theorem Qcm(a:List RT):∀u,u∈ a.map ptrV->IsPt u:=fun u b=>by
 obtain⟨t,_,rfl⟩:=List.mem_map.1 b;exact⟨_,rfl⟩
theorem Qs5(a:List RT):∀u,u∈ a.map ptrV->u.oneCell'=true:=fun u b=>by
 obtain⟨t,_,rfl⟩:=List.mem_map.1 b;rfl
structure Fp (w w':Vz):Prop where
 size:w.heap.size<=w'.heap.size
 keep:∀b i u,w.cell? ⟨b,i,none⟩=some u->¬IsPt u->w'.heap[b]?=w.heap[b]?
theorem Fp.of_only{w w':Vz}{g:Nat}{t:Vr}{C:Vw}(c:Only g w w')(hs:SB w g t C)(hC:∀u,u∈ C.toList->IsPt u):Fp w w':=by
 refine⟨c.size,fun b i u a hk=>c.block b (World.block_lt_of_cell? _ _ a) ?_⟩;rintro rfl;rw[hs.cell] at a;exact hk (hC u (mO (by rw[Array.getElem?_toList];exact a)))
theorem Fp.grown{w w':Vz}{B n:Nat}{e:Vr}{v:Value}{xs:Vv}(c:Grow w B e 1 IsPt v n xs)(h:w.grownBy w' v.ownBlock):Fp w w':=by
 refine⟨h.size,fun b i u a hk=>h.block b (World.block_lt_of_cell? _ _ a) (fun e=>?_)⟩;obtain⟨C,hC,d⟩:=c.sb e.symm;rw[hC.cell] at a;exact hk (d u (mO (by rw[Array.getElem?_toList];exact a)))
theorem Fp.cell{w w':Vz}(h:Fp w w'){b i:Nat}{u:Value}(a:w.cell? ⟨b,i,none⟩=some u)(hk:¬IsPt u)(j:Nat):w'.cell? ⟨b,j,none⟩=w.cell? ⟨b,j,none⟩:=World.cell?_of_block (w:=w) (h.keep b i u a hk)
theorem Qs6(x:Bool):¬IsPt (.bool x):=fun ⟨p,e⟩=>by cases e
theorem Qs7(k:IntKind)(n:Int):¬IsPt (.int k n):=fun ⟨p,e⟩=>by cases e
theorem Row.fp{k:IntKind}{w w':Vz}{a:Vx}{cap:Nat}{l:Vy}(h:Row k w a cap l)(c:Fp w w'):Row k w' a cap l:=by
 refine⟨h.fit,?_,fun i g=>?_⟩
 .
  rcases h.shape with d|⟨e,b,rfl,j⟩
  . exact .inl d
  . exact .inr ⟨e,b,rfl,by have:=c.size;omega⟩
 . obtain⟨e,b,d,j,f⟩:=h.cell i g
   exact⟨e,b,d,by have:=c.size;omega,(c.cell f (Qs7 _ _) _).trans f⟩
theorem SB.fp{w w':Vz}{b:Nat}{t:Vr}{C:Vw}{u:Value}{i:Nat}(h:SB w b t C)(a:Fp w w')(c:C[i]?=some u)(d:¬IsPt u):SB w' b t C:=by
 have e:=a.keep b i u (by rw[h.cell];exact c) d;unfold SB at h ⊢;rw[e];exact h
theorem RatVal.fp{w w':Vz}{b:Nat}{q:Rat}(h:RatVal w b q)(c:Fp w w'):RatVal w' b q:=by
 obtain⟨D,d,c1,e,f,c2,g,a,j⟩:=h;exact⟨D,d,c1,e,f,c2,g,⟨a.sb.fp c (i:=0) rfl (Qs6 _),⟨a.num.row.fp c,a.num.num,a.num.short⟩,⟨a.den.row.fp c,a.den.num,a.den.short⟩⟩,j⟩
def RVs(w:Vz)(ts:List RT):Prop:=∀t,t∈ ts->RatVal w t.1 t.2.1/\Fits t.2.1 t.2.2/\0<t.2.2
theorem RVs.below{w w':Vz}{a:List RT}(h:RVs w a)(c:Bl w w'):RVs w' a:=fun t b=>⟨(h t b).1.below c,(h t b).2⟩
theorem RVs.fp{w w':Vz}{a:List RT}(h:RVs w a)(c:Fp w w'):RVs w' a:=fun t b=>⟨(h t b).1.fp c,(h t b).2⟩
structure PRow (w:Vz) (a:Vx) (ts:List RT):Prop where
 row:CRow w a (ts.map ptrV)
 vs:RVs w ts
theorem PRow.below{w w':Vz}{a:Vx}{b:List RT}(h:PRow w a b)(c:Bl w w'):PRow w' a b:=⟨h.row.below c,h.vs.below c⟩
theorem PRow.at{w:Vz}{a:Vx}{d:List RT}(h:PRow w a d){i:Nat}{t:RT}(e:d[i]?=some t):∃b c,a=some ⟨b,c,none⟩/\b<w.heap.size/\w.cell? ⟨b,c+i,none⟩=some (.pointer (some ⟨t.1,0,none⟩)):=h.row.cell i (ptrV t) (by rw[List.getElem?_map,e];rfl)
theorem PRow.bag{w:Vz}{a:Vx}{b:List RT}(h:PRow w a b)(c:∃m,w.cell? ⟨4,0,none⟩=some (.int .i64 m)):RBag w w b:=⟨Below.refl _ _,c,h.vs⟩
theorem Qkr:(prog.info? 84).map (fun i=>(i.zero,i.size,i.bytes))=some (some (.pointer none),1,8):=by kernel_rfl
structure PGrow (w:Vz) (B:Nat) (v:Value) (ts:List RT):Prop where
 list:Grow w B 84 1 IsPt v ts.length (ts.map ptrV)
 vs:RVs w ts
theorem PGrow.below{w w':Vz}{B:Nat}{v:Value}{a:List RT}(h:PGrow w B v a)(b:Bl w w'):PGrow w' B v a:=⟨h.list.below b,h.vs.below b⟩
theorem PGrow.nil(w:Vz)(B:Nat):PGrow w B (.slice none 0 0) []:=⟨Grow.nil _ _ _ _ _,fun t a=>by cases a⟩
theorem PGrow.row{w:Vz}{B:Nat}{v:Value}{b:List RT}(h:PGrow w B v b):∃a cap,v=.slice a b.length cap/\PRow w a b:=by
 obtain⟨a,cap,e,_,c,_⟩:=h.list.slice;exact⟨a,cap,e,c,h.vs⟩
theorem PGrow.appT{w:Vz}{B nb c m:Nat}{v:Value}{d us:List RT}{t:Vr}(h:PGrow w B v d)(a:prog.underlying t=some (.slice 84))(e:RVs w us)(n:us.length=m)(o:∀j u,(us.map ptrV)[j]?=some u->w.cell? ((⟨nb,0,none⟩:Addr).add j)=some u)(p:d.length+m<=1048576)(hB:B<=w.heap.size)(ty:Vr):
 ∃b w',appR prog t ty v (.slice (some ⟨nb,0,none⟩) m c) w=.ok b w'/\PGrow w' B b (d++us)/\Below B w w'/\Fp w w'/\w.grownBy w' v.ownBlock/\(b.ownBlock=v.ownBlock∨b.ownBlock=some w.heap.size):=by
 subst n;obtain⟨i,q,r⟩:=Option.map_eq_some_iff.1 Qkr;injection r with s f
 injection f with f x
 obtain⟨b,w',y,z,k,A⟩:=h.list.app (P:=prog) (t:=t) (ty:=ty) a q s f x rfl (by decide) (fun u e=>⟨none,by simpa [Value.cells] using e⟩) ⟨nb,0,none⟩ us.length c (us.map ptrV) (by simp) o (Qs5 us) (Qcm us) p (by decide) hB;have l:=Fp.grown h.list k;refine⟨b,w',y,⟨?_,fun t a=>?_⟩,Qb4 k (fun g C=>(h.list.lt C).1) hB,l,k,A⟩
 . rw[List.length_append,List.map_append]
   exact z
 .
  rcases List.mem_append.1 a with a|a
  . exact(h.vs.fp l) t a
  . exact(e.fp l) t a
def qv(ts:List RT):Vec:=fun i=>(ts.map (·.2.1)).getD i 0
theorem qv_at{a:List RT}{i:Nat}{t:RT}(h:a[i]?=some t):qv a i=t.2.1:=by simp[qv,List.getD,h]
theorem Qlw(Z a2 a3:Vx)(c1 c2 c3 i:Nat)(J:List S2)(L:List B6)(hs:List H3)(b:B6)(p:Nat × Nat × Rat × Rat)(w:Vz)(hg:∃m,w.cell? ⟨4,0,none⟩=some (.int .i64 m))(M:FrRow w Z a2 a3 c1 c2 c3 J L hs)(hi:L[i]?=some b)(hb:BarV 1048576 J b p)(n1:J.length<=10)(n2:L.length<=24):
 Calls prog 93 #[.agg #[.slice Z J.length c1,.slice a2 L.length c2,.slice a3 hs.length c3],.int .i64 i] w fun e w'=>∃S b2,e=.returned (.tuple #[.pointer (some ⟨S,0,none⟩),.pointer (some ⟨b2,0,none⟩)])/\RBag w w' [(S,p.2.2.1,8388611),(b2,p.2.2.2,8388611)]:=by
 obtain⟨A,B,rx,ry⟩:=p;obtain⟨s,t,x1,y1,x2,y2,e1,e2,z1,z2,z3,z4,q1,q2,q3,q4,e3,e4⟩:=hb.ex;have hA:=hb.a;have hB:=hb.b;simp only at e1 e2 e3 e4 hA hB;subst e3;subst e4;have ab:=(gZ hi).1;have ad:=(gZ e1).1;have ae:=(gZ e2).1;obtain⟨HG,HF,HI,HS,HT,N,O⟩:=If (RBag.start hg) M hi e1 e2 (⟨z1,z2,z3,z4⟩:s.x.size<=1048576/\s.y.size<=1048576/\t.x.size<=1048576/\t.y.size<=1048576) (⟨q1,q2,q3,q4⟩:QOf s.x.data.toList x1/\QOf s.y.data.toList y1/\QOf t.x.data.toList x2/\QOf t.y.data.toList y2);have iA:((A:Int)<(J.length:Int)):=by omega
 have iB:((B:Int)<(J.length:Int)):=by omega
 have iI:((i:Int)<(L.length:Int)):=by omega
 clear hg M hi e1 e2 z1 z2 z3 z4 q1 q2 q3 q4 hb;obtain⟨T,P⟩:=nm w.heap.size;obtain⟨V,hV⟩:=nm (w.alloc (.cells #[.slice Z J.length c1,.slice a2 L.length c2,.slice a3 hs.length c3] 26));have E:=Ua hV;have K:SB V T 26 #[.slice Z J.length c1,.slice a2 L.length c2,.slice a3 hs.length c3]:=by rw[<-hV,<-P];exact SB.new w _ _
 obtain⟨Q,U,rfl,af,u0,u1⟩:=(HF.o.below E.o).j.spot HS.o;obtain⟨ag,ah,e',_,u2,u3⟩:=(HF.o.below E.o).j.spot HT.o;cases e';obtain⟨W,bo,rfl,ai,f2,f3,_⟩:=(HF.o.below E.o).b.bar HI.o;rw[hA] at f2;rw[hB] at f3;have f0:=K.cell 0;have f1:=K.cell 1;simp at f0 f1;have Y:=K.lt;have aj:V.heap.size≠T:=by omega
 have ak:V.heap.size+1≠T:=by omega
 have al:V.heap.size≠Q:=by omega
 have am:V.heap.size+1≠Q:=by omega
 have an:V.heap.size≠W:=by omega
 have ao:V.heap.size+1≠W:=by omega
 obtain⟨HV,aa⟩:=Ia hV P;clear hV P K hA hB Y;go_enter func93,ntmps93;go_wp2_with fail;rw[HV.o];simp only[aa.o];go_region_held3 (fun v=>v.cell? ⟨T,0,none⟩=some (.slice (some ⟨Q,U,none⟩) J.length c1)/\v.cell? ⟨T,1,none⟩=some (.slice (some ⟨W,bo,none⟩) L.length c2)/\v.cell? ⟨W,bo+i*6,none⟩=some (.int .i64 (A:Nat))/\v.cell? ⟨W,bo+i*6+1,none⟩=some (.int .i64 (B:Nat))/\v.cell? ⟨Q,U+A*2,none⟩=some (.string s.x)/\v.cell? ⟨Q,U+A*2+1,none⟩=some (.string s.y)/\v.cell? ⟨Q,U+B*2,none⟩=some (.string t.x)/\v.cell? ⟨Q,U+B*2+1,none⟩=some (.string t.y)) ((first|(simp [*];done)|go_keep)) (fail)
 .
  obtain⟨X,F⟩:=nm (((V.alloc (.cells #[.string s.x,.string s.y] 56)).alloc (.cells #[.string t.x,.string t.y] 56)).drew);have G:Bl V X:=by rw[<-F];exact((bR.alloc lZ _).alloc (by simp) _).drew
  have C:SB X (V.heap.size) 56 #[.string s.x,.string s.y]:=by rw[<-F];exact((SB.new V _ _).alloc _)
  have D:SB X (V.heap.size+1) 56 #[.string t.x,.string t.y]:=by rw[<-F];exact Qa1 V _ _ _
  obtain⟨g,h,H⟩:=Ib C D (E.o.trans (G.mono E.o.size));have d:=Hi (HG.o.below H.o).rebase;have k:=C.cell 0;have l:=C.cell 1;have r:=D.cell 0;have u:=D.cell 1;simp at k l r u;have R:=Hi F;clear G C D F f0 f1 f2 f3 u0 u1 u2 u3;rw[R.o];go_wp2_with fail;go_region_held3 (fun v=>v.cell? ⟨V.heap.size,0,none⟩=some (.string s.x)/\v.cell? ⟨V.heap.size,1,none⟩=some (.string s.y)/\v.cell? ⟨V.heap.size+1,0,none⟩=some (.string t.x)/\v.cell? ⟨V.heap.size+1,1,none⟩=some (.string t.y)) ((first|(simp [*];done)|go_keep)) (first
   |
    (go_at_call_of 33 (Value.string t.x)
     apply cM;apply RBag.of (w0:=X) (n:=1048576) t.x;(first|exact d.o|exact d.o.drew);exact N.o.2.2.1;omega;rintro e I ⟨q,z,S,rfl,c⟩;rw[z.inj O.o.2.2.1] at c;clear d k l r u;have d:=Hi c;clear z c;have k:=(g.o.below d.o.base g.o.lt).cell 0;have l:=(g.o.below d.o.base g.o.lt).cell 1;have r:=(h.o.below d.o.base h.o.lt).cell 0;have u:=(h.o.below d.o.base h.o.lt).cell 1;simp at k l r u
     skip)
   |
    (go_at_call_of 33 (Value.string s.x)
     apply cM;apply RBag.of (w0:=X) (n:=1048576) s.x;(first|exact d.o|exact d.o.drew);exact N.o.1;omega;rintro e I ⟨q,z,b2,rfl,c⟩;rw[z.inj O.o.1] at c;clear d k l r u;have d:=Hi c;clear z c;have k:=(g.o.below d.o.base g.o.lt).cell 0;have l:=(g.o.below d.o.base g.o.lt).cell 1;have r:=(h.o.below d.o.base h.o.lt).cell 0;have u:=(h.o.below d.o.base h.o.lt).cell 1;simp at k l r u
     skip)
   |
    (go_at_call_of 90 (Value.pointer (some ⟨S,0,none⟩))
     apply cM;apply RBag.sub (w0:=X);(first|exact d.o|exact d.o.drew);(repeat(first|exact mH|apply mT));omega;rintro e I ⟨b3,rfl,c⟩;clear d k l r u;have d:=Hi c;clear c;have k:=(g.o.below d.o.base g.o.lt).cell 0;have l:=(g.o.below d.o.base g.o.lt).cell 1;have r:=(h.o.below d.o.base h.o.lt).cell 0;have u:=(h.o.below d.o.base h.o.lt).cell 1;simp at k l r u
     skip)
   |
    (go_at_call_of 33 (Value.string t.y)
     apply cM;apply RBag.of (w0:=X) (n:=1048576) t.y;(first|exact d.o|exact d.o.drew);exact N.o.2.2.2;omega;rintro e I ⟨q,z,b4,rfl,c⟩;rw[z.inj O.o.2.2.2] at c;clear d k l r u;have d:=Hi c;clear z c;have k:=(g.o.below d.o.base g.o.lt).cell 0;have l:=(g.o.below d.o.base g.o.lt).cell 1;have r:=(h.o.below d.o.base h.o.lt).cell 0;have u:=(h.o.below d.o.base h.o.lt).cell 1;simp at k l r u
     skip)
   |
    (go_at_call_of 33 (Value.string s.y)
     apply cM;apply RBag.of (w0:=X) (n:=1048576) s.y;(first|exact d.o|exact d.o.drew);exact N.o.2.1;omega;rintro e I ⟨q,z,b5,rfl,c⟩;rw[z.inj O.o.2.1] at c;clear d k l r u;have d:=Hi c;clear z c;have k:=(g.o.below d.o.base g.o.lt).cell 0;have l:=(g.o.below d.o.base g.o.lt).cell 1;have r:=(h.o.below d.o.base h.o.lt).cell 0;have u:=(h.o.below d.o.base h.o.lt).cell 1;simp at k l r u
     skip)
   |
    (go_at_call_of 90 (Value.pointer (some ⟨b4,0,none⟩))
     apply cM;apply RBag.sub (w0:=X);(first|exact d.o|exact d.o.drew);(repeat(first|exact mH|apply mT));omega;rintro e I ⟨b6,rfl,c⟩;clear d k l r u;have d:=Hi c;clear c;have k:=(g.o.below d.o.base g.o.lt).cell 0;have l:=(g.o.below d.o.base g.o.lt).cell 1;have r:=(h.o.below d.o.base h.o.lt).cell 0;have u:=(h.o.below d.o.base h.o.lt).cell 1;simp at k l r u
     skip)
   |fail)
  all_goals
   clear k l r u;go_wp2;go_ret2;refine⟨b3,b6,rfl,(by first|exact d.o|exact d.o.drew:RBag X _ _).mono H.o (fun f M=>?_)⟩;simp only[List.mem_cons,List.not_mem_nil,or_false] at M;rcases M with rfl|rfl
   .
    exact⟨_,(by
     (repeat(first|exact mH|apply mT))
     skip),Nat.le_refl _⟩
   .
    exact⟨_,(by
     (repeat(first|exact mH|apply mT))
     skip),Nat.le_refl _⟩
 .
  obtain⟨X,F⟩:=nm (((V.alloc (.cells #[.string t.x,.string t.y] 56)).alloc (.cells #[.string s.x,.string s.y] 56)).drew);have G:Bl V X:=by rw[<-F];exact((bR.alloc lZ _).alloc (by simp) _).drew
  have C:SB X (V.heap.size+1) 56 #[.string s.x,.string s.y]:=by rw[<-F];exact Qa1 V _ _ _
  have D:SB X (V.heap.size) 56 #[.string t.x,.string t.y]:=by rw[<-F];exact((SB.new V _ _).alloc _)
  obtain⟨g,h,H⟩:=Ib C D (E.o.trans (G.mono E.o.size));have d:=Hi (HG.o.below H.o).rebase;have k:=C.cell 0;have l:=C.cell 1;have r:=D.cell 0;have u:=D.cell 1;simp at k l r u;have R:=Hi F;clear G C D F f0 f1 f2 f3 u0 u1 u2 u3;rw[R.o];go_wp2_with fail;go_region_held3 (fun v=>v.cell? ⟨V.heap.size+1,0,none⟩=some (.string s.x)/\v.cell? ⟨V.heap.size+1,1,none⟩=some (.string s.y)/\v.cell? ⟨V.heap.size,0,none⟩=some (.string t.x)/\v.cell? ⟨V.heap.size,1,none⟩=some (.string t.y)) ((first|(simp [*];done)|go_keep)) (first
   |
    (go_at_call_of 33 (Value.string t.x)
     apply cM;apply RBag.of (w0:=X) (n:=1048576) t.x;(first|exact d.o|exact d.o.drew);exact N.o.2.2.1;omega;rintro e I ⟨q,z,S,rfl,c⟩;rw[z.inj O.o.2.2.1] at c;clear d k l r u;have d:=Hi c;clear z c;have k:=(g.o.below d.o.base g.o.lt).cell 0;have l:=(g.o.below d.o.base g.o.lt).cell 1;have r:=(h.o.below d.o.base h.o.lt).cell 0;have u:=(h.o.below d.o.base h.o.lt).cell 1;simp at k l r u
     skip)
   |
    (go_at_call_of 33 (Value.string s.x)
     apply cM;apply RBag.of (w0:=X) (n:=1048576) s.x;(first|exact d.o|exact d.o.drew);exact N.o.1;omega;rintro e I ⟨q,z,b2,rfl,c⟩;rw[z.inj O.o.1] at c;clear d k l r u;have d:=Hi c;clear z c;have k:=(g.o.below d.o.base g.o.lt).cell 0;have l:=(g.o.below d.o.base g.o.lt).cell 1;have r:=(h.o.below d.o.base h.o.lt).cell 0;have u:=(h.o.below d.o.base h.o.lt).cell 1;simp at k l r u
     skip)
   |
    (go_at_call_of 90 (Value.pointer (some ⟨S,0,none⟩))
     apply cM;apply RBag.sub (w0:=X);(first|exact d.o|exact d.o.drew);(repeat(first|exact mH|apply mT));omega;rintro e I ⟨b3,rfl,c⟩;clear d k l r u;have d:=Hi c;clear c;have k:=(g.o.below d.o.base g.o.lt).cell 0;have l:=(g.o.below d.o.base g.o.lt).cell 1;have r:=(h.o.below d.o.base h.o.lt).cell 0;have u:=(h.o.below d.o.base h.o.lt).cell 1;simp at k l r u
     skip)
   |
    (go_at_call_of 33 (Value.string t.y)
     apply cM;apply RBag.of (w0:=X) (n:=1048576) t.y;(first|exact d.o|exact d.o.drew);exact N.o.2.2.2;omega;rintro e I ⟨q,z,b4,rfl,c⟩;rw[z.inj O.o.2.2.2] at c;clear d k l r u;have d:=Hi c;clear z c;have k:=(g.o.below d.o.base g.o.lt).cell 0;have l:=(g.o.below d.o.base g.o.lt).cell 1;have r:=(h.o.below d.o.base h.o.lt).cell 0;have u:=(h.o.below d.o.base h.o.lt).cell 1;simp at k l r u
     skip)
   |
    (go_at_call_of 33 (Value.string s.y)
     apply cM;apply RBag.of (w0:=X) (n:=1048576) s.y;(first|exact d.o|exact d.o.drew);exact N.o.2.1;omega;rintro e I ⟨q,z,b5,rfl,c⟩;rw[z.inj O.o.2.1] at c;clear d k l r u;have d:=Hi c;clear z c;have k:=(g.o.below d.o.base g.o.lt).cell 0;have l:=(g.o.below d.o.base g.o.lt).cell 1;have r:=(h.o.below d.o.base h.o.lt).cell 0;have u:=(h.o.below d.o.base h.o.lt).cell 1;simp at k l r u
     skip)
   |
    (go_at_call_of 90 (Value.pointer (some ⟨b4,0,none⟩))
     apply cM;apply RBag.sub (w0:=X);(first|exact d.o|exact d.o.drew);(repeat(first|exact mH|apply mT));omega;rintro e I ⟨b6,rfl,c⟩;clear d k l r u;have d:=Hi c;clear c;have k:=(g.o.below d.o.base g.o.lt).cell 0;have l:=(g.o.below d.o.base g.o.lt).cell 1;have r:=(h.o.below d.o.base h.o.lt).cell 0;have u:=(h.o.below d.o.base h.o.lt).cell 1;simp at k l r u
     skip)
   |fail)
  all_goals
   clear k l r u;go_wp2;go_ret2;refine⟨b3,b6,rfl,(by first|exact d.o|exact d.o.drew:RBag X _ _).mono H.o (fun f M=>?_)⟩;simp only[List.mem_cons,List.not_mem_nil,or_false] at M;rcases M with rfl|rfl
   .
    exact⟨_,(by
     (repeat(first|exact mH|apply mT))
     skip),Nat.le_refl _⟩
   .
    exact⟨_,(by
     (repeat(first|exact mH|apply mT))
     skip),Nat.le_refl _⟩
end Go.Proofs.YtppkmifkpjkgpaaGreatDoor
