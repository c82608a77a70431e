import Derived.Test.YtppkmifkpjkgpaaGreatDoorE15BalF
import Derived.BigRegion
namespace Go.Proofs.YtppkmifkpjkgpaaGreatDoor
open Go.RowKit
open Go.Proofs.Tryz
set_option linter.unusedSimpArgs false
set_option linter.unusedVariables false
set_option maxHeartbeats 8000000
set_option maxRecDepth 1000000
theorem Qex{P:Program}{q:Func}{p u:Tmp}{ty b:Vr}(h:q.results=#[.cell p ty,.cell u b])(a:Vw)(w:Vz)(g f:Nat)(t r:Vr)(i c:Vw)(s e:Nat × Nat)(d j:TypeDesc)
 (v:a.getD p undef=.pointer (some ⟨g,0,none⟩)) (x:w.heap[g]?=some (.cells i t s)) (k:a.getD u undef=.pointer (some ⟨f,0,none⟩)) (l:w.heap[f]?=some (.cells c r e))
 (y:P.underlying ty=some d) (z:(match d with| .struct _| .array _ _=>true|_=>false)=true) (A:(P.info? ty).map (·.size)=some i.size) (m:P.underlying b=some j) (n:(match j with| .struct _| .array _ _=>true|_=>false)=true) (o:(P.info? b).map (·.size)=some c.size):
 (results q a).run P w=.ok (.tuple #[.agg i,.agg c]) w:=by
 have B:a[p]?.getD undef=.pointer (some ⟨g,0,none⟩):=by simpa using v
 have C:a[u]?.getD undef=.pointer (some ⟨f,0,none⟩):=by simpa using k
 simp[results,h,B,C,asAddr,run_loadVar_row w g t ty i s d x y z A,run_loadVar_row w f r b c e j l m n o]
def CarrySays(nb nh:Nat)(M:List Vec)(b:List Rat)(w:Vz)(e:Ending)(w':Vz):Prop:=
 ((e=.returned (.tuple #[.agg #[.slice none 0 0,.slice none 0 0],.agg #[.int .i64 8,.int .i64 0]])/\∀x,¬Sol (nb+nh) M b x)∨
  (e=.returned (.tuple #[.agg #[.slice none 0 0,.slice none 0 0],.agg #[.int .i64 9,.int .i64 0]])/\∃x y,Sol (nb+nh) M b x/\Sol (nb+nh) M b y/\∃c,c<nb+nh/\x c≠y c)∨
  (∃(g1 g2:Nat) (x y:Vt) (us:List FE),e=.returned (.tuple #[.agg #[.slice (some ⟨g1,0,none⟩) nb nb,.slice (some ⟨g2,0,none⟩) nh nh],.agg #[.int .i64 0,.int .i64 0]])/\SB w' g1 54 (textsV x).toArray/\SB w' g2 54 (textsV y).toArray/\Told (us.take nb) x/\Told (us.drop nb) y/\(us.length=nb+nh/\w.heap.size<=g1/\w.heap.size<=g2)/\∀y,Sol (nb+nh) M b y↔∀(i:Nat) (t:FE),us[i]?=some t->y i=t.q))/\Below w.heap.size w w'
theorem Qmi{W K:Nat}{M:List Vec}{b:List Rat}{w w':Vz}{e:Ending}(h:Solved W K M b w e w'):∃(f:Vx) (j l:Nat) (a:Int),e=.returned (.tuple #[.slice f j l,.int .i64 a])/\Below w.heap.size w w'/\
 ((a=8/\∀x,¬Sol W M b x)∨(a=9/\∃x y,Sol W M b x/\Sol W M b y/\∃c,c<W/\x c≠y c)∨(a=0/\∃(g:Nat) (us:List FE),f=some ⟨g,0,none⟩/\j=W/\l=W/\QBlk w' g us/\us.length=W/\(∀t,t∈ us->t.k<=K)/\∀y,Sol W M b y↔∀(i:Nat) (t:FE),us[i]?=some t->y i=t.q)):=by
 obtain⟨h,d⟩:=h;rcases h with ⟨rfl,h⟩|⟨rfl,h⟩|⟨g,us,rfl,h⟩
 . exact⟨_,_,_,_,rfl,d,.inl ⟨rfl,h⟩⟩
 . exact⟨_,_,_,_,rfl,d,.inr (.inl ⟨rfl,h⟩)⟩
 . exact⟨_,_,_,_,rfl,d,.inr (.inr ⟨rfl,g,us,rfl,rfl,rfl,h⟩)⟩
theorem Qey{u:Vz}{g a:Nat}{x1 x2 y1 y2 f h i j:Value}(c:g≠a)(s:SB u g 50 #[f,h])(k:SB u a 31 #[i,j]):
 SB ((((u.setCell ⟨g,0,none⟩ x1).setCell ⟨g,1,none⟩ x2).setCell ⟨a,0,none⟩ y1).setCell ⟨a,1,none⟩ y2) g 50 #[x1,x2]/\SB ((((u.setCell ⟨g,0,none⟩ x1).setCell ⟨g,1,none⟩ x2).setCell ⟨a,0,none⟩ y1).setCell ⟨a,1,none⟩ y2) a 31 #[y1,y2]/\
  (∀(b:Nat) (t:Vr) (C:Vw),SB u b t C->b≠g->b≠a->SB ((((u.setCell ⟨g,0,none⟩ x1).setCell ⟨g,1,none⟩ x2).setCell ⟨a,0,none⟩ y1).setCell ⟨a,1,none⟩ y2) b t C):=by
 refine⟨?_,?_,fun b t C l d e=>(((l.other d 0 x1).other d 1 x2).other e 0 y1).other e 1 y2⟩
 . have:=(((s.set 0 x1).set 1 x2).other c 0 y1).other c 1 y2
   simpa using this
 . have:=(((k.other c.symm 0 x1).other c.symm 1 x2).set 0 y1).set 1 y2
   simpa using this
theorem Qmj(J M P al:Vx)(c1 c2 c3 cl n K:Nat)(z:List S2)(f:List B6)(hs:List H3)(vb:List (Nat × Nat × Rat × Rat))(vh:Vy)(ls:List L3)(vs:List (Nat × Rat × Rat))(w:Vz)(hg:Glob w)(hf:FrRow w J M P c1 c2 c3 z f hs)(hz:FrSized z f hs)(bh:FrameFault z f hs 0 0)(hv:FrV n z f hs vb vh)
 (hl:ARow L3.cells w al cl ls) (da:ls.length<=20) (bi:vs.length=ls.length) (bj:∀(i:Nat) (l:L3) (p:Nat × Rat × Rat),ls[i]?=some l->vs[i]?=some p->LoadV z.length l p) (ay:∀k i,Fits (agn (vs.take k) i) K)
 (hK:4*n+1+(4*n+1)+1<=K) (cp:4*K+1<68719476000)
 (I:Nat->List Vec->List Vec->List Nat->Prop) (hI:Going K I) (h0:I 0 (List.zipWith (wider (f.length+hs.length)) (balRows z.length vb f.length vh) ((List.range (2*z.length)).map (agn vs))) [] [])
 (az:∀L S hh,I (f.length+hs.length+1) L S hh->Ech 0 (f.length+hs.length+1) S hh/\(∀x,Null (f.length+hs.length+1) (List.zipWith (wider (f.length+hs.length)) (balRows z.length vb f.length vh) ((List.range (2*z.length)).map (agn vs))) x↔Null (f.length+hs.length+1) S x)/\clnFits K S hh):
 Calls prog 24 #[.agg #[.slice J z.length c1,.slice M f.length c2,.slice P hs.length c3],.slice al ls.length cl] w (CarrySays f.length hs.length (balRows z.length vb f.length vh) ((List.range (2*z.length)).map (agn vs)) w):=by
 obtain⟨HG,HF,HZ,cq,HV,HI,H0,ah,HL⟩:=Ih hg hf hz bh hv hI h0 az hl;obtain⟨bk,bl,bm⟩:=Ib bi bj ay;have n1:=hv.j;have n2:=hv.b;have n3:=hv.h;clear hg hf hz bh hv hI h0 az hl bi bj ay;obtain⟨d,ai⟩:=nm w.heap.size;obtain⟨V0,Y⟩:=nm (((w.alloc (.cells #[.slice J z.length c1,.slice M f.length c2,.slice P hs.length c3] 26)).alloc (.cells #[.slice none 0 0,.slice none 0 0] 50)).alloc (.cells #[.int .i64 0,.int .i64 0] 31));have E:O (Bl w V0):=Hi (by rw[<-Y];exact(Below.new2 w _ _).alloc (by simp;omega) _);have aj:O (SB V0 d 26 #[.slice J z.length c1,.slice M f.length c2,.slice P hs.length c3]):=Hi (by rw[<-Y,<-ai];exact((SB.new w _ _).alloc _).alloc _)
 have a5:O (SB V0 (d+1) 50 #[.slice none 0 0,.slice none 0 0]):=Hi (by rw[<-Y,<-ai];exact(Qa1 w _ _ _).alloc _);have a6:O (SB V0 (d+1+1) 31 #[.int .i64 0,.int .i64 0]):=Hi (by
  rw[<-Y,<-ai];have h:=Qa1 (w.alloc (.cells #[.slice J z.length c1,.slice M f.length c2,.slice P hs.length c3] 26)) (.cells #[.slice none 0 0,.slice none 0 0] 50) 31 #[.int .i64 0,.int .i64 0];rw[World.size_alloc] at h
  exact h)
 obtain⟨bn,cr,bo⟩:=Ib Y ai (Qdr J M P c1 c2 c3 z f hs V0 (HG.o.below E.o) (HF.o.below E.o) HZ.o cq.o);have A:w.heap.size<=d+1:=by omega
 clear Y ai;go_enter func24,ntmps24;go_wp2_with fail;rw[bn.o,cr.o];clear bn;go_fit bo.o;rintro e w1 ⟨rfl,Z⟩;obtain⟨V1,ak⟩:=nm (w1.alloc (.cells #[.int .i64 0,.int .i64 0] 31));have U:Bl V0 V1:=by rw[<-ak];exact Z.alloc Z.size _
 have a:=Hi (aj.o.below U aj.o.lt);have X:V1.cell? ⟨d,0,none⟩=some (.slice J z.length c1):=by
  have h:=a.o.cell 0
  simpa using h
 have x1:V1.cell? ⟨d,1,none⟩=some (.slice M f.length c2):=by
  have h:=a.o.cell 1
  simpa using h
 have x2:V1.cell? ⟨d,2,none⟩=some (.slice P hs.length c3):=by
  have h:=a.o.cell 2
  simpa using h
 have k0:V1.cell? ⟨w1.heap.size,0,none⟩=some (.int .i64 0):=by rw[<-ak];exact(SB.new w1 _ _).cell 0
 rw[<-ak] at X x1 x2 k0;obtain⟨bp,am⟩:=Ia (E.o.trans (U.mono E.o.size)) U;obtain⟨bq,br⟩:=Ia (Qmh J M P al c1 c2 c3 cl z.length f.length hs.length ls V1 (HL.o.below bp.o) n1 n2 n3 (by omega)) ak;clear ak U Z a;go_wp2_with fail;rw[br.o];go_fit bq.o;rintro e w2 ⟨c,cs,rfl,bt,Q⟩;obtain⟨rfl,rfl⟩:c=0/\cs=0:=by
  rcases bt with ⟨h,_⟩|⟨_,⟨k,l,hk,_,hj,_⟩|⟨_,h1,h2⟩⟩
  . omega
  .
   obtain⟨p,hp⟩:∃p,vs[k]?=some p:=⟨vs[k]'(by have:=(gZ hk).1;have:=bk.o;omega),gE _⟩;have h:=bl.o k l p hk hp;exact absurd ⟨by rw[h.j];omega,by rw[h.j];have:=h.lt;omega⟩ hj
  . exact⟨h1,h2⟩
 obtain⟨V,hV⟩:=nm (w2.alloc (.cells #[.int .i64 0,.int .i64 0] 31));have an:=am.o.trans ((show Below V1.heap.size V1 V by rw[<-hV];exact Q.alloc Q.size _).mono am.o.size);obtain⟨H,aa,ab,m⟩:=Ic (aj.o.below an aj.o.lt) (a5.o.below an a5.o.lt) (a6.o.below an a6.o.lt) (E.o.trans (an.mono E.o.size));have a:=H;clear X x1 x2 k0;have X:V.cell? ⟨d,0,none⟩=some (.slice J z.length c1):=by
  have h:=a.o.cell 0
  simpa using h
 have x1:V.cell? ⟨d,1,none⟩=some (.slice M f.length c2):=by
  have h:=a.o.cell 1
  simpa using h
 have x2:V.cell? ⟨d,2,none⟩=some (.slice P hs.length c3):=by
  have h:=a.o.cell 2
  simpa using h
 have k0:V.cell? ⟨w2.heap.size,0,none⟩=some (.int .i64 0):=by rw[<-hV];exact(SB.new w2 _ _).cell 0
 have ct:=Hi hV;rw[<-hV] at X x1 x2 k0;clear bt Q hV an aj a5 a6 bo bq bp am br;go_wp2_with fail;rw[ct.o] at X x1 x2 ⊢;clear k0;have T:O (Bl V V):=Hi bR;obtain⟨a7,a8,bu⟩:=Ib (fun u (hu:Bl V u)=>Qds J M P c1 c2 c3 n K z f hs vb vh u (HG.o.below (m.o.trans (hu.mono m.o.size))) (HF.o.below (m.o.trans (hu.mono m.o.size))) HV.o hK) (fun u=>Qdm J M P c1 c2 c3 z.length f.length hs.length u n2 n3) (fun u (hu:Bl V u)=>Qwi J M P al c1 c2 c3 cl z.length f.length hs.length K ls vs u (HG.o.below (m.o.trans (hu.mono m.o.size))) (HL.o.below (m.o.trans (hu.mono m.o.size))) (by omega) n1 bk.o bl.o (by omega) (by omega) bm.o);obtain⟨W,hW⟩:=nm (f.length+hs.length);obtain⟨N0,a9⟩:=nm (2*z.length)
 have eW:(f.length:Int)+(hs.length:Int)=(W:Int):=by omega
 simp only[eW] at a8;rw[hW] at a7 H0 ah;rw[a9] at H0 ah;obtain⟨ad,ao⟩:=Ia hW a9;have cu:W<=100:=by omega
 have cv:N0<=100:=by omega
 have cw:0<K:=by omega
 clear eW hW a9;go_region_held3 (fun v=>v.cell? ⟨d,0,none⟩=some (.slice J z.length c1)/\v.cell? ⟨d,1,none⟩=some (.slice M f.length c2)/\v.cell? ⟨d,2,none⟩=some (.slice P hs.length c3)) ((first|(simp [*];done)|go_keep)) (first
  |(
   go_at_call 38;apply cM;apply a7.o;(first|exact T.o|exact T.o.drew);rintro e v1 ⟨N,G,rs,hN,rfl,bv,bw,bx,bz,hq,Z⟩;obtain rfl:N0=N:=by rw[hN];exact ao.o.symm
   obtain⟨ba,b0,b1,HQ⟩:=Ic bv bw bz hq;clear hN bv bw bx bz hq;have ae:=Hi ((by first|exact T.o|exact T.o.drew:Bl V _).trans (Z.mono (by first|exact T.o.size|exact T.o.drew.size)));clear Z T X x1 x2 a;have a:=Hi (H.o.below ae.o H.o.lt);have X:v1.cell? ⟨d,0,none⟩=some (.slice J z.length c1):=by
    have h:=a.o.cell 0
    simpa using h
   have x1:v1.cell? ⟨d,1,none⟩=some (.slice M f.length c2):=by
    have h:=a.o.cell 1
    simpa using h
   have x2:v1.cell? ⟨d,2,none⟩=some (.slice P hs.length c3):=by
    have h:=a.o.cell 2
    simpa using h
   skip)
  |(
   go_at_call 39;apply cM;apply a8.o;rintro e v2 ⟨rfl,Q⟩;(first
     |have F:=Hi Q
     |have F:O (Bl v1 v2):=Hi (bR.drew.trans Q))
   have R:=Hi ((by first|exact ae.o|exact ae.o.drew:Bl V _).trans (Q.mono (by first|exact ae.o.size|exact ae.o.drew.size)));clear Q ae X x1 x2 a;have a:=Hi (H.o.below R.o H.o.lt);have X:v2.cell? ⟨d,0,none⟩=some (.slice J z.length c1):=by
    have h:=a.o.cell 0
    simpa using h
   have x1:v2.cell? ⟨d,1,none⟩=some (.slice M f.length c2):=by
    have h:=a.o.cell 1
    simpa using h
   have x2:v2.cell? ⟨d,2,none⟩=some (.slice P hs.length c3):=by
    have h:=a.o.cell 2
    simpa using h
   skip)
  |(
   go_at_call 60;apply cM;apply bu.o;(first|exact R.o|exact R.o.drew);rintro e v3 ⟨⟨ga,Na,ua,b2,rfl,b3,b4,af⟩,ax⟩;obtain rfl:N0=Na:=by rw[b2];exact ao.o.symm
   (first
     |have ap:=Hi (F.o.trans (ax.mono F.o.size))
     |have ap:O (Bl v1 v3):=Hi (F.o.trans (((bR.drew).trans ax).mono F.o.size)))
   obtain⟨b5,aq,bb⟩:=Ib b3 b4 af;clear b2 b3 b4 af;have ag:=Hi ((by first|exact R.o|exact R.o.drew:Bl V _).trans (ax.mono (by first|exact R.o.size|exact R.o.drew.size)));clear ax R X x1 x2 a;have a:=Hi (H.o.below ag.o H.o.lt);have X:v3.cell? ⟨d,0,none⟩=some (.slice J z.length c1):=by
    have h:=a.o.cell 0
    simpa using h
   have x1:v3.cell? ⟨d,1,none⟩=some (.slice M f.length c2):=by
    have h:=a.o.cell 1
    simpa using h
   have x2:v3.cell? ⟨d,2,none⟩=some (.slice P hs.length c3):=by
    have h:=a.o.cell 2
    simpa using h
   skip)
  |(
   go_at_call 59;apply cM
   (have af:ua.map (·.q)=(List.range N0).map (agn vs):=by
     apply List.ext_getElem?;intro i;simp only[List.getElem?_map];rcases Nat.lt_or_ge i N0 with hi|hi
     .
      obtain⟨t,ht⟩:∃t,ua[i]?=some t:=⟨ua[i]'(by rw[aq.o];exact hi),gE _⟩;rw[ht,List.getElem?_range hi];simp[(bb.o i t ht).1]
     . rw[List.getElem?_eq_none (by rw[aq.o];exact hi),List.getElem?_eq_none (by simpa using hi)]
       rfl
    have b6:=Qv7 (some ⟨G,0,none⟩) (some ⟨ga,0,none⟩) N0 N0 W K rs ua v3 I HI.o (b0.o.below ap.o) b1.o (by have h:=b5.o.row;rw[aq.o] at h;exact h) (fun t ht=>by obtain⟨i,hi,he⟩:=List.getElem_of_mem ht;exact(bb.o i t (by rw[<-he];exact gE hi)).2) (by rw[aq.o,ba.o]) (by rw[ba.o];omega) (by omega) cw cp (by rw[HQ.o,af];exact H0.o) (by rw[HQ.o,af];exact ah.o);rw[ba.o,HQ.o,af] at b6
    exact b6)
   rintro e v4 ar;obtain⟨ra,rn,rc,ev,rfl,b7,a0⟩:=Qmi ar;have b8:=Hi a0;clear a0 ar;have B:=Hi ((by first|exact ag.o|exact ag.o.drew:Bl V _).trans (b7.mono (by first|exact ag.o.size|exact ag.o.drew.size)));clear b7 ag X x1 x2 a;have a:=Hi (H.o.below B.o H.o.lt);have X:v4.cell? ⟨d,0,none⟩=some (.slice J z.length c1):=by
    have h:=a.o.cell 0
    simpa using h
   have x1:v4.cell? ⟨d,1,none⟩=some (.slice M f.length c2):=by
    have h:=a.o.cell 1
    simpa using h
   have x2:v4.cell? ⟨d,2,none⟩=some (.slice P hs.length c3):=by
    have h:=a.o.cell 2
    simpa using h
   skip)
  |fail)
 clear b0 b1 HQ b5 aq bb F ap a7 a8 bu;rcases b8.o with ⟨rfl,cx⟩|⟨rfl,bc⟩|⟨rfl,g,us,cy,cz,c0,b9,bd,ca,a4⟩
 .
  obtain⟨r,s⟩:=Ia (aa.o.below B.o aa.o.lt) (ab.o.below B.o ab.o.lt);obtain⟨y0,y1,-⟩:=zc r.o;obtain⟨y2,y3,-⟩:=zc s.o;have cb:=r.o.free 0;have cc:=r.o.free 1;have cd:=s.o.free 0;have ce:=s.o.free 1;have au:=Hi (m.o.trans ((B.o).mono m.o.size));go_wp2;have D:=Qey (x1:=.slice none 0 0) (x2:=.slice none 0 0) (y1:=.int .i64 8) (y2:=.int .i64 0) (by omega:d+1≠d+1+1) r.o s.o
  refine bodyPost_ret (Qex rfl _ _ (d+1) (d+1+1) 50 31 #[.slice none 0 0,.slice none 0 0] #[.int .i64 8,.int .i64 0] (0,0) (0,0) _ _ rfl D.1 rfl D.2.1 underlying50 rfl Tryz.stressInfo underlying31 rfl Tryz.faultInfo) rfl ?_;have C:=(((au.o.setCell (p:=⟨d+1,0,none⟩) A (.slice none 0 0)).setCell (p:=⟨d+1,1,none⟩) A (.slice none 0 0)).setCell (p:=⟨d+1+1,0,none⟩) (Nat.le_succ_of_le A) (.int .i64 8)).setCell (p:=⟨d+1+1,1,none⟩) (Nat.le_succ_of_le A) (.int .i64 0);exact⟨.inl ⟨rfl,by rw[ad.o,ao.o];exact cx⟩,C⟩
 .
  obtain⟨r,s⟩:=Ia (aa.o.below B.o aa.o.lt) (ab.o.below B.o ab.o.lt);obtain⟨y0,y1,-⟩:=zc r.o;obtain⟨y2,y3,-⟩:=zc s.o;have cb:=r.o.free 0;have cc:=r.o.free 1;have cd:=s.o.free 0;have ce:=s.o.free 1;have au:=Hi (m.o.trans ((B.o).mono m.o.size));go_wp2;have D:=Qey (x1:=.slice none 0 0) (x2:=.slice none 0 0) (y1:=.int .i64 9) (y2:=.int .i64 0) (by omega:d+1≠d+1+1) r.o s.o
  refine bodyPost_ret (Qex rfl _ _ (d+1) (d+1+1) 50 31 #[.slice none 0 0,.slice none 0 0] #[.int .i64 9,.int .i64 0] (0,0) (0,0) _ _ rfl D.1 rfl D.2.1 underlying50 rfl Tryz.stressInfo underlying31 rfl Tryz.faultInfo) rfl ?_;have C:=(((au.o.setCell (p:=⟨d+1,0,none⟩) A (.slice none 0 0)).setCell (p:=⟨d+1,1,none⟩) A (.slice none 0 0)).setCell (p:=⟨d+1+1,0,none⟩) (Nat.le_succ_of_le A) (.int .i64 9)).setCell (p:=⟨d+1+1,1,none⟩) (Nat.le_succ_of_le A) (.int .i64 0);exact⟨.inr (.inl ⟨rfl,by rw[ad.o,ao.o];exact bc⟩),C⟩
 .
  subst cy;have cf:=cz.symm;subst cf;have cg:=c0.symm;subst cg;have c4:K<=274877906944:=by omega
  have av:=Qlu (.slice J z.length c1) (.slice P hs.length c3) M c2 f.length g 0 us.length K us v4 (HG.o.below (m.o.trans (B.o.mono m.o.size))) b9.row ca c4 (by omega) (by have:=ad.o;omega) (by omega) rfl rfl;rw[bd] at av;obtain⟨av,ch,c5⟩:=Ib av a4 bd;clear b9 bd ca a4;go_wp2_with fail;go_fit av.o;rintro e v5 ⟨⟨g1,g2,x,y,rfl,hx,hy,ci,cj,ck,cm⟩,cn⟩;have c6:O (w.heap.size<=g1/\w.heap.size<=g2):=Hi ⟨Nat.le_trans (Nat.le_trans m.o.size B.o.size) ck,Nat.le_trans (Nat.le_trans m.o.size B.o.size) cm⟩;obtain⟨nh,aw⟩:=nm (W - f.length);rw[aw];have be:=Hi (B.o.trans (cn.mono B.o.size));obtain⟨r,s⟩:=Ia (aa.o.below be.o aa.o.lt) (ab.o.below be.o ab.o.lt);obtain⟨y0,-⟩:=zc r.o
  obtain⟨-,y1,-⟩:=zc r.o;obtain⟨y2,y3,-⟩:=zc s.o;have cb:=r.o.free 0;have cc:=r.o.free 1;have cd:=s.o.free 0;have ce:=s.o.free 1;obtain⟨au,c7,bf,bg,c8,c9⟩:=Ie (m.o.trans ((be.o).mono m.o.size)) aw hx hy ci cj;clear hx hy ci cj ck cm cn aw av X x1 x2;go_wp2;have D:=Qey (x1:=.slice (some ⟨g1,0,none⟩) f.length f.length) (x2:=.slice (some ⟨g2,0,none⟩) nh nh) (y1:=.int .i64 0) (y2:=.int .i64 0) (by omega:d+1≠d+1+1) r.o s.o
  refine bodyPost_ret (Qex rfl _ _ (d+1) (d+1+1) 50 31 #[.slice (some ⟨g1,0,none⟩) f.length f.length,.slice (some ⟨g2,0,none⟩) nh nh] #[.int .i64 0,.int .i64 0] (0,0) (0,0) _ _ rfl D.1 rfl D.2.1 underlying50 rfl Tryz.stressInfo underlying31 rfl Tryz.faultInfo) rfl ?_;have C:=(((au.o.setCell (p:=⟨d+1,0,none⟩) A (.slice (some ⟨g1,0,none⟩) f.length f.length)).setCell (p:=⟨d+1,1,none⟩) A (.slice (some ⟨g2,0,none⟩) nh nh)).setCell (p:=⟨d+1+1,0,none⟩) (Nat.le_succ_of_le A) (.int .i64 0)).setCell (p:=⟨d+1+1,1,none⟩) (Nat.le_succ_of_le A) (.int .i64 0);have aw:nh=hs.length:=by
   have h1:=ad.o;have h2:=c7.o;omega
  subst aw;refine⟨.inr (.inr ⟨g1,g2,x,y,us,rfl,D.2.2 _ _ _ bf.o (bf.o.unlike r.o (by decide)) (bf.o.unlike s.o (by decide)),D.2.2 _ _ _ bg.o (bg.o.unlike r.o (by decide)) (bg.o.unlike s.o (by decide)),c8.o,c9.o,⟨by rw[ad.o];exact c5.o,c6.o⟩,by rw[ad.o,ao.o];exact ch.o⟩),C⟩
theorem q_of{l t a:Vu}{v q:Rat}(b:Lib.trimPrefix l [45]=t)(c:Lib.cut t [47]=(a,[],false))(d:IsDig a)(e:v=mkRat (decVal a:Nat) 1)(f:q=if Lib.hasPrefix l [45]=true then -v else v):QOf l q:=by
 refine⟨v,.inl ⟨⟨?_,?_⟩,?_⟩,f⟩
 . rw[b,c];exact d
 . rw[b,c];intro h;cases h
 . rw[b,c];simpa using e
theorem Qez{c:UInt8}(a:48<=c.toNat)(b:c.toNat<=57):IsDig [c]:=⟨by simp,fun d e=>by
 obtain rfl:d=c:=by simpa using e
 exact⟨a,b⟩⟩
theorem q0_of:QOf tx0.data.toList 0:=q_of (l:=[48]) (t:=[48]) (a:=[48]) (v:=0) (by decide) (by decide) (Qez (by decide) (by decide)) (by decide) (by decide)
theorem q1_of:QOf tx1.data.toList 1:=one_q
theorem qm_of:QOf (⟨#[45,49]⟩:ByteArray).data.toList (-1):=q_of (l:=[45,49]) (t:=[49]) (a:=[49]) (v:=1) (by decide) (by decide) (Qez (by decide) (by decide)) (by decide) (by decide)
theorem q2_of:QOf (⟨#[50]⟩:ByteArray).data.toList 2:=q_of (l:=[50]) (t:=[50]) (a:=[50]) (v:=2) (by decide) (by decide) (Qez (by decide) (by decide)) (by decide) (by decide)
theorem Qe0:FrSized cornerJ cornerB cornerH:=by
 refine⟨?_,?_,?_⟩
 .
  intro p a;simp[cornerJ] at a;rcases a with rfl|rfl|rfl<;>exact⟨by decide,by decide⟩
 .
  intro b c;simp[cornerB,cornerBar] at c;rcases c with rfl|rfl|rfl<;>exact⟨by decide,by decide,by decide,by decide⟩
 .
  intro x d;simp[cornerH] at d;rcases d with rfl|rfl|rfl<;>decide
def cornerVB:List (Nat × Nat × Rat × Rat):=[(0,1,1,0),(1,2,-1,1),(2,0,0,-1)]
def cornerVH:List Nat:=[0,1,3]
theorem Qe1:FrV 1048576 cornerJ cornerB cornerH cornerVB cornerVH:=by
 refine⟨by decide,by decide,by decide,rfl,rfl,?_,?_,by decide⟩
 .
  intro i b p a d
  match i,a,d with
  |0,a,d=>
   cases a;cases d;exact⟨rfl,rfl,by decide,_,_,0,0,1,0,rfl,rfl,by decide,by decide,by decide,by decide,q0_of,q0_of,q1_of,q0_of,by decide +kernel,by decide +kernel⟩
  |1,a,d=>
   cases a;cases d;exact⟨rfl,rfl,by decide,_,_,1,0,0,1,rfl,rfl,by decide,by decide,by decide,by decide,q1_of,q0_of,q0_of,q1_of,by decide +kernel,by decide +kernel⟩
  |2,a,d=>
   cases a;cases d;exact⟨rfl,rfl,by decide,_,_,0,1,0,0,rfl,rfl,by decide,by decide,by decide,by decide,q0_of,q1_of,q0_of,q0_of,by decide +kernel,by decide +kernel⟩
  |n+3,a,d=>cases a
 .
  intro i h r c e
  match i,c,e with
  |0,c,e=>
   cases c;cases e;exact⟨0,rfl,by decide,rfl⟩
  |1,c,e=>
   cases c;cases e;exact⟨0,rfl,by decide,rfl⟩
  |2,c,e=>
   cases c;cases e;exact⟨1,rfl,by decide,rfl⟩
  |n+3,c,e=>cases c
theorem Qhj:balRows 3 cornerVB 3 cornerVH=cornerM:=by
 have h:∀r c,6<=c->balM cornerVB 3 cornerVH r c=0:=Qcw (nb:=3) (nh:=3) rfl rfl;have j:∀(a b c d e f:Rat) (n:Nat),vec [a,b,c,d,e,f] (n+6)=0:=fun a b c d e f n=>by simp[vec]
 have g:∀(r:Nat) (a b c d e f:Rat),balM cornerVB 3 cornerVH r 0=a->balM cornerVB 3 cornerVH r 1=b->balM cornerVB 3 cornerVH r 2=c->balM cornerVB 3 cornerVH r 3=d->balM cornerVB 3 cornerVH r 4=e->balM cornerVB 3 cornerVH r 5=f->balM cornerVB 3 cornerVH r=vec [a,b,c,d,e,f]:=by
  intro r a b c d e f k l m o p q;funext i
  match i with
  |0=>rw[k];rfl
  |1=>rw[l];rfl
  |2=>rw[m];rfl
  |3=>rw[o];rfl
  |4=>rw[p];rfl
  |5=>rw[q];rfl
  |n+6=>rw[h r (n+6) (by omega),j]
 show [balM cornerVB 3 cornerVH 0,balM cornerVB 3 cornerVH 1,balM cornerVB 3 cornerVH 2,balM cornerVB 3 cornerVH 3,balM cornerVB 3 cornerVH 4,balM cornerVB 3 cornerVH 5]=cornerM
 rw[g 0 1 0 0 1 0 0 (by decide +kernel) (by decide +kernel) (by decide +kernel) (by decide +kernel) (by decide +kernel) (by decide +kernel),
  g 1 0 0 1 0 1 0 (by decide +kernel) (by decide +kernel) (by decide +kernel) (by decide +kernel) (by decide +kernel) (by decide +kernel),
  g 2 (-1) (-1) 0 0 0 0 (by decide +kernel) (by decide +kernel) (by decide +kernel) (by decide +kernel) (by decide +kernel) (by decide +kernel),
  g 3 0 1 0 0 0 1 (by decide +kernel) (by decide +kernel) (by decide +kernel) (by decide +kernel) (by decide +kernel) (by decide +kernel),
  g 4 0 1 0 0 0 0 (by decide +kernel) (by decide +kernel) (by decide +kernel) (by decide +kernel) (by decide +kernel) (by decide +kernel),
  g 5 0 (-1) (-1) 0 0 0 (by decide +kernel) (by decide +kernel) (by decide +kernel) (by decide +kernel) (by decide +kernel) (by decide +kernel)]
 rfl
theorem Qe2:FrameFault cornerJ cornerB cornerH 0 0:=by
 refine .inr (.inr ⟨by rintro(h|h|h|h)<;>exact absurd h (by decide),?_,.inr ⟨?_,rfl,rfl⟩⟩)
 .
  intro i x a
  match i,a with
  |0,a=>
   cases a;exact .inr ⟨⟨by decide,by decide⟩,⟨by decide,by decide⟩,_,_,rfl,rfl,0,0,1,0,1,-1,2,q0_of,q0_of,q1_of,q0_of,q1_of,qm_of,q2_of,by decide +kernel⟩
  |1,a=>
   cases a;exact .inr ⟨⟨by decide,by decide⟩,⟨by decide,by decide⟩,_,_,rfl,rfl,1,0,0,1,1,-1,2,q1_of,q0_of,q0_of,q1_of,q1_of,qm_of,q2_of,by decide +kernel⟩
  |2,a=>
   cases a;exact .inr ⟨⟨by decide,by decide⟩,⟨by decide,by decide⟩,_,_,rfl,rfl,0,1,0,0,1,-1,2,q0_of,q1_of,q0_of,q0_of,q1_of,qm_of,q2_of,by decide +kernel⟩
  |n+3,a=>cases a
 .
  intro i x a
  match i,a with
  |0,a=>cases a;decide
  |1,a=>cases a;decide
  |2,a=>cases a;decide
  |n+3,a=>cases a
def cornerL:List L3:=[⟨2,tx1,tx0⟩]
def cornerVS:List (Nat × Rat × Rat):=[(2,1,0)]
theorem Qmk:∀(i:Nat) (l:L3) (p:Nat × Rat × Rat),cornerL[i]?=some l->cornerVS[i]?=some p->LoadV 3 l p:=by
 intro i l p hl a
 match i,hl,a with
 |0,hl,a=>
  cases hl;cases a;exact⟨rfl,by decide,q1_of,q0_of,by decide,by decide⟩
 |n+1,hl,a=>cases hl
theorem Qml:(List.range 6).map (agn cornerVS)= [0,0,0,0,-1,0]:=by decide +kernel
theorem qt1:QText tx1.data.toList 1:=⟨[49],⟨[49],.inr ⟨by decide,[1],⟨fun d a=>by simp at a;omega,.inr (by simp),by simp[val]⟩,by decide⟩,by decide⟩,.inl ⟨by decide,rfl⟩⟩
theorem qtm:QText (⟨#[45,49]⟩:ByteArray).data.toList (-1):=⟨[45,49],⟨[49],.inr ⟨by decide,[1],⟨fun d a=>by simp at a;omega,.inr (by simp),by simp[val]⟩,by decide⟩,by decide⟩,.inl ⟨by decide,rfl⟩⟩
def TLst(w:Vz)(a:Vx)(l:Vt):Prop:=∀(i:Nat) (s:Vs),l[i]?=some s->∃b off,a=some ⟨b,off,none⟩/\b<w.heap.size/\w.cell? ⟨b,off+i,none⟩=some (.string s)
theorem TLst.below{w w':Vz}{a:Vx}{l:Vt}(h:TLst w a l)(d:Bl w w'):TLst w' a l:=fun i s f=>by
 obtain⟨b,c,g,e,j⟩:=h i s f;exact⟨b,c,g,Nat.lt_of_lt_of_le e d.size,ce d e j⟩
theorem SB.texts{w:Vz}{g:Nat}{t:Vr}{l:Vt}(h:SB w g t (textsV l).toArray):TLst w (some ⟨g,0,none⟩) l:=fun i s a=>⟨g,0,rfl,h.lt,by
 rw[Nat.zero_add,h.cell]
 simp[textsV,a]⟩
theorem Qhk(a b:Vx)(c d:Nat)(l:Vt)(w:Vz)(m:TLst w a l)(n:TLst w b l)(hs:l.length<=1000000):
 Calls prog 53 #[.slice a l.length c,.slice b l.length d] w fun e w'=>e=.returned (.bool true)/\Below w.heap.size w w':=by
 obtain⟨s,t⟩:=Ia m n;clear m n;go_enter func53,ntmps53;go_wp2_with fail;go_loopw [13] (fun h wr=>∃i:Nat,i<=l.length/\h=.int .i64 i/\Below w.heap.size w wr) (fun h _=>l.length - (intOf h).toNat)
 case atStart=>exact⟨0,by omega,rfl,Below.refl _ _⟩
 case round=>
  obtain⟨i,x,rfl,g⟩:=hrel;have p:=Hi g;by_cases j:i<l.length
  .
   obtain⟨f,k⟩:∃f,l[i]?=some f:=⟨l[i],gE j⟩;obtain⟨y,z,rfl,q,d1⟩:=s.o i f k;obtain⟨A,B,rfl,r,d2⟩:=t.o i f k;have u:=ce g q d1;have v:=ce g r d2;have C:((i:Int)<(l.length:Int)):=by omega
   clear k d1 d2 g q r;go_wp2_with fail;go_region;go_wp2;go_roundw
   case rel=>exact⟨i+1,by omega,by go_num,p.o.drew⟩
   case measure=>simp[intOf];omega
  .
   obtain rfl:i=l.length:=by omega
   clear g;go_wp2;go_ret;exact⟨rfl,p.o⟩
theorem Qhl(a b k i:Vx)(c d t u:Nat)(x y:Vt)(w:Vz)(E:TLst w a x)(F:TLst w b y)(l:TLst w k x)(m:TLst w i y)(K:x.length<=1000000)(L:y.length<=1000000):
 Calls prog 16 #[.agg #[.slice a x.length c,.slice b y.length d],.agg #[.slice k x.length t,.slice i y.length u]] w fun e w'=>e=.returned (.bool true)/\Below w.heap.size w w':=by
 obtain⟨V,j⟩:=nm ((w.alloc (.cells #[.slice a x.length c,.slice b y.length d] 50)).alloc (.cells #[.slice k x.length t,.slice i y.length u] 50));obtain⟨G,h⟩:=nm w.heap.size;have f:Bl w V:=by rw[<-j];exact Below.new2 w _ _
 have v:SB V G 50 #[.slice a x.length c,.slice b y.length d]:=by rw[<-j,<-h];exact(SB.new w _ _).alloc _
 have z:SB V (G+1) 50 #[.slice k x.length t,.slice i y.length u]:=by rw[<-j,<-h];exact Qa1 w _ _ _
 obtain⟨A,H⟩:=Ia (Qhk a k c t x V (E.below f) (l.below f) K) (⟨F.below f,m.below f⟩:TLst V b y/\TLst V i y);obtain⟨I,-⟩:=zc v;obtain⟨J,-⟩:=zc z;obtain⟨n,p,q⟩:=Ib v z f;rw[<-j,<-h] at I J;obtain⟨M,B⟩:=Ia j h;clear j h f v z E l F m;go_enter func16,ntmps16;go_wp2_with fail;rw[M.o,B.o];go_fit A.o;rintro e N ⟨rfl,g⟩;obtain⟨r,C⟩:=Ia (q.o.trans (g.mono q.o.size)) (Qhk b i d u y N (H.o.1.below g) (H.o.2.below g) L);obtain⟨-,O,-⟩:=zc (n.o.below g n.o.lt);obtain⟨-,P,-⟩:=zc (p.o.below g p.o.lt);clear g I J;go_wp2_with fail;go_fit C.o
 rintro e Q ⟨rfl,s⟩;have D:=Hi (r.o.trans (s.mono r.o.size));clear s O P;go_wp2;go_ret;exact⟨rfl,D.o⟩
theorem Qmm{w w':Vz}{e:Ending}(h:CarrySays 3 3 cornerM [0,0,0,0,-1,0] w e w'):
 ∃m n,e=.returned (.tuple #[.agg #[.slice (some ⟨m,0,none⟩) 3 3,.slice (some ⟨n,0,none⟩) 3 3],.agg #[.int .i64 0,.int .i64 0]])/\TLst w' (some ⟨m,0,none⟩) [⟨#[49]⟩,⟨#[45,49]⟩,⟨#[49]⟩]/\TLst w' (some ⟨n,0,none⟩) [⟨#[45,49]⟩,⟨#[45,49]⟩,⟨#[49]⟩]/\Below w.heap.size w w':=by
 have f:Sol 6 cornerM [0,0,0,0,-1,0] (vec [1,-1,1,-1,-1,1]):=(Qfc _).2 (by decide +kernel);obtain⟨h,v⟩:=h;rcases h with ⟨_,h⟩|⟨_,x,y,o,p,c,R,d⟩|⟨m,n,x,y,us,rfl,z,A,g,j,B,k⟩
 . exact absurd f (h _)
 .
  exfalso
  obtain⟨C,D,E,F,G,H⟩:=(Qfc x).1 o;obtain⟨I,J,K,L,M,N⟩:=(Qfc y).1 p;have e:c=0∨c=1∨c=2∨c=3∨c=4∨c=5:=by omega
  rcases e with rfl|rfl|rfl|rfl|rfl|rfl
  . exact d (C.trans I.symm)
  . exact d (D.trans J.symm)
  . exact d (E.trans K.symm)
  . exact d (F.trans L.symm)
  . exact d (G.trans M.symm)
  . exact d (H.trans N.symm)
 .
  have O:=(k _).1 f;have b:∀(s t:Vs) (q:Rat),QText s.data.toList q->QText t.data.toList q->s=t:=fun s t q o p=>by
   have:=o.inj p;cases s;cases t
   congr 1
   exact Array.toList_inj.1 this
  have l:∀(i:Nat),i<6->∃t,us[i]?=some t/\vec [1,-1,1,-1,-1,1] i=t.q:=fun i r=>⟨us[i]'(by omega),gE (by omega),O i _ (gE (by omega))⟩
  have P:x= [⟨#[49]⟩,⟨#[45,49]⟩,⟨#[49]⟩]:=by
   have hl:x.length=3:=by rw[g.1,List.length_take];omega
   have a:∀i s,i<3->x[i]?=some s->QText s.data.toList (vec [1,-1,1,-1,-1,1] i):=fun i s r hs=>by
    obtain⟨t,u,e⟩:=l i (by omega);rw[e];exact g.2 i t s (by rw[List.getElem?_take_of_lt r];exact u) hs
   match x,hl,a with
   | [s0,s1,s2],_,a=>
     rw[b s0 ⟨#[49]⟩ 1 (a 0 s0 (by decide) rfl) qt1,b s1 ⟨#[45,49]⟩ (-1) (a 1 s1 (by decide) rfl) qtm,b s2 ⟨#[49]⟩ 1 (a 2 s2 (by decide) rfl) qt1]
  have Q:y= [⟨#[45,49]⟩,⟨#[45,49]⟩,⟨#[49]⟩]:=by
   have hl:y.length=3:=by rw[j.1,List.length_drop];omega
   have a:∀i s,i<3->y[i]?=some s->QText s.data.toList (vec [1,-1,1,-1,-1,1] (3+i)):=fun i s r hs=>by
    obtain⟨t,u,e⟩:=l (3+i) (by omega);rw[e];exact j.2 i t s (by rw[List.getElem?_drop];exact u) hs
   match y,hl,a with
   | [s0,s1,s2],_,a=>
     rw[b s0 ⟨#[45,49]⟩ (-1) (a 0 s0 (by decide) rfl) qtm,b s1 ⟨#[45,49]⟩ (-1) (a 1 s1 (by decide) rfl) qtm,b s2 ⟨#[49]⟩ 1 (a 2 s2 (by decide) rfl) qt1]
  subst P;subst Q;exact⟨m,n,rfl,z.texts,A.texts,v⟩
def textD{H:Type}(s:Vs):DataW H:=.lit (.string s.data.toList)
def spotD{H:Type}(s:S2):DataW H:=.agg [textD s.x,textD s.y]
def barD{H:Type}(b:B6):DataW H:=.agg [.lit (.int .i64 b.a),.lit (.int .i64 b.b),textD b.c,textD b.e,textD b.l,textD b.m]
def holdD{H:Type}(h:H3):DataW H:=.agg [.lit (.int .i64 h.j),.lit (.int .i64 h.w),textD h.q]
section
variable {H:Type} {enc:TypeId × Value->H} {P:Program} {w:Vz} {base:Nat} {spare:Nat->Bool} {held:Bool} {fuel:Nat} {cs:Vv} {x:DataW H × List MemPlace} {tE tS tQ tI tI':Vr} {f0 f1 f2 f3 f4 f5:Field}
theorem Qkw(u:P.underlying tE=some (.struct #[f0,f1,f2,f3,f4,f5]))(f:P.underlying tQ=some .string)(s:P.underlying tI=some (.int .i64))(v:P.cellsOf tE=6)(g:P.cellsOf tQ=1)(t:P.cellsOf tI=1)
 (t0:f0.type=tI) (t1:f1.type=tI) (t2:f2.type=tQ) (t3:f3.type=tQ) (t4:f4.type=tQ) (t5:f5.type=tQ) (y:f0.offset=0) (z:f1.offset=1) (A:f2.offset=2) (B:f3.offset=3) (C:f4.offset=4) (D:f5.offset=5)
 (h:DataW.trod enc P w base spare held fuel tE cs=some x):∃b:B6,cs=b.cells/\x.1=barD b:=by
 obtain⟨xs,n,rfl,rfl,hl,i,d⟩:=DataW.trod_struct u h;rw[v] at hl;clear h;have j:=d 0 f0 rfl;have k:=d 1 f1 rfl;have o:=d 2 f2 rfl;have p:=d 3 f3 rfl;have q:=d 4 f4 rfl;have r:=d 5 f5 rfl;rw[t0,y,t] at j;rw[t1,z,t] at k;rw[t2,A,g] at o;rw[t3,B,g] at p;rw[t4,C,g] at q;rw[t5,D,g] at r;clear d
 match cs,hl,xs,i with
 | [v0,v1,v2,v3,v4,v5],_,[y0,y1,y2,y3,y4,y5],_=>
   simp only[List.drop_zero,List.drop_succ_cons,List.take_succ_cons,List.take_zero,List.getElem?_cons_zero,List.getElem?_cons_succ] at j k o p q r;obtain⟨a,E,rfl,_⟩:=DataW.trod_int s j;obtain⟨b,F,rfl,_⟩:=DataW.trod_int s k;obtain⟨c,G,rfl,_⟩:=DataW.trod_string f o;obtain⟨e,I,rfl,_⟩:=DataW.trod_string f p;obtain⟨l,J,rfl,_⟩:=DataW.trod_string f q;obtain⟨m,K,rfl,_⟩:=DataW.trod_string f r;obtain rfl:v0=_:=by simpa using E
   obtain rfl:v1=_:=by simpa using F
   obtain rfl:v2=_:=by simpa using G
   obtain rfl:v3=_:=by simpa using I
   obtain rfl:v4=_:=by simpa using J
   obtain rfl:v5=_:=by simpa using K
   exact⟨⟨a,b,c,e,l,m⟩,rfl,rfl⟩
theorem Qkx(l:P.underlying tE=some (.struct #[f0,f1,f2]))(m:P.underlying tQ=some .string)(o:P.underlying tI=some (.int .i64))(e:P.underlying tI'=some (.int .i64))(p:P.cellsOf tE=3)(q:P.cellsOf tQ=1)(r:P.cellsOf tI=1)(f:P.cellsOf tI'=1)
 (t0:f0.type=tI) (t1:f1.type=tI') (t2:f2.type=tQ) (s:f0.offset=0) (t:f1.offset=1) (u:f2.offset=2)
 (h:DataW.trod enc P w base spare held fuel tE cs=some x):∃b:H3,cs=b.cells/\x.1=holdD b:=by
 obtain⟨xs,n,rfl,rfl,hl,g,d⟩:=DataW.trod_struct l h;rw[p] at hl;clear h;have i:=d 0 f0 rfl;have j:=d 1 f1 rfl;have k:=d 2 f2 rfl;rw[t0,s,r] at i;rw[t1,t,f] at j;rw[t2,u,q] at k;clear d
 match cs,hl,xs,g with
 | [v0,v1,v2],_,[y0,y1,y2],_=>
   simp only[List.drop_zero,List.drop_succ_cons,List.take_succ_cons,List.take_zero,List.getElem?_cons_zero,List.getElem?_cons_succ] at i j k;obtain⟨a,v,rfl,_⟩:=DataW.trod_int o i;obtain⟨b,y,rfl,_⟩:=DataW.trod_int e j;obtain⟨c,z,rfl,_⟩:=DataW.trod_string m k;obtain rfl:v0=_:=by simpa using v
   obtain rfl:v1=_:=by simpa using y
   obtain rfl:v2=_:=by simpa using z
   exact⟨⟨a,b,c⟩,rfl,rfl⟩
theorem Qtu(u:P.underlying tE=some (.struct #[f0,f1,f2]))(k:P.cellsOf tE=3){t0 t1 t2:Vr}(l:f0.type=t0)(m:f1.type=t1)(o:f2.type=t2)(p:P.cellsOf t0=1)(q:P.cellsOf t1=1)(r:P.cellsOf t2=1)(s:f0.offset=0)(t:f1.offset=1)(v:f2.offset=2)
 (h:DataW.trod enc P w base spare held fuel tE cs=some x):∃n a b c d y1 y2,cs= [a,b,c]/\x.1=.agg [d.1,y1.1,y2.1]/\DataW.trod enc P w base spare held n t0 [a]=some d/\DataW.trod enc P w base spare held n t1 [b]=some y1/\DataW.trod enc P w base spare held n t2 [c]=some y2:=by
 obtain⟨xs,n,rfl,rfl,hl,f,e⟩:=DataW.trod_struct u h;rw[k] at hl;clear h;have g:=e 0 f0 rfl;have i:=e 1 f1 rfl;have j:=e 2 f2 rfl;rw[l,s,p] at g;rw[m,t,q] at i;rw[o,v,r] at j;clear e
 match cs,hl,xs,f with
 | [a,b,c],_,[d,y1,y2],_=>
   simp only[List.drop_zero,List.drop_succ_cons,List.take_succ_cons,List.take_zero,List.getElem?_cons_zero,List.getElem?_cons_succ] at g i j;exact⟨n,a,b,c,d,y1,y2,rfl,rfl,g,i,j⟩
theorem Qgu{α:Type}{c:α->List Value}{dat:α->DataW H}{sz:Nat}{t:Vr}(B:α)(g:0<sz)(G:∀e,(c e).length=sz)(X:P.underlying t=some (.slice tE))(Y:P.cellsOf tE=sz)
 (C:∀(fuel:Nat) (cs:Vv) (x:DataW H × List MemPlace),DataW.trod enc P w base spare held fuel tE cs=some x->∃e,cs=c e/\x.1=dat e)
 (h:DataW.trod enc P w base spare held fuel t cs=some x):
 ∃(a:Vx) (cap:Nat) (I:List α),cs= [.slice a I.length cap]/\ARow c w a cap I/\(∀l r,x.1=.slice l r->l=I.map dat)/\((I= []/\x.1=.nil)∨∃l r,x.1=.slice l r):=by
 rcases Deep.open_slice X h with ⟨rfl,rfl⟩|⟨a,d,cap,m,n,D,Pl,rfl,hb,L,Z,hm,rfl,hD⟩
 . exact⟨none,0,[],rfl,⟨by simp,⟨fun j u A=>by simp at A⟩⟩,fun l r e=>by simp at e,.inl ⟨rfl,rfl⟩⟩
 have aa:d<=m:=by rw[hm];split<;>omega
 have o:∀i,∃f:α,i<d->w.cells? base (a.add (i*sz)) sz=some (c f)/\D i=dat f:=by
  intro i;by_cases M:i<d
  .
   obtain⟨ab,J,K⟩:=hD i (by omega);obtain⟨f,rfl,hd⟩:=C _ _ _ K;rw[Y] at J;exact⟨f,fun _=>⟨J,hd⟩⟩
  . exact⟨B,fun h=>absurd h M⟩
 obtain⟨F,N⟩:=Classical.axiomOfChoice o;refine⟨some a,cap,(List.range d).map F,by simp,⟨by simpa using L,⟨?_⟩⟩,?_,.inr ⟨_,_,rfl⟩⟩
 .
  intro j u A;have p:=(gZ A).1;rw[Qa9 G] at p;simp only[List.length_map,List.length_range] at p;have q:j / sz<d:=(Nat.div_lt_iff_lt_mul g).2 p;have O:j % sz<sz:=Nat.mod_lt _ g;obtain⟨U,E⟩:∃U,(c (F (j / sz)))[j % sz]?=some U:=⟨_,gE (by rw[G];exact O)⟩;have J:((List.range d).map F)[j / sz]?=some (F (j / sz)):=by simp[q]
  have K:=Qcb G _ _ _ _ _ J E;rw[Nat.div_add_mod' j sz,A] at K;obtain rfl:=Option.some.inj K;obtain⟨Q,_⟩:=N _ q;obtain⟨_,_,s⟩:=World.cells?_some Q;obtain⟨b,y,V⟩:=a;have R:=s (j % sz) (by omega);have z:=(World.cells?_some (N 0 (Nat.lt_of_le_of_lt (Nat.zero_le _) q)).1).2.2 0 g;have S:V=none:=by
   cases V with
   |none=>rfl
   |some v=>
    exfalso
    obtain⟨W,T⟩:∃W,(c (F 0))[0]?=some W:=⟨_,gE (by rw[G];exact g)⟩;rw[T] at z;simp only[Nat.zero_mul,Addr.add,if_true,World.cell?] at z
    split at z<;>simp at z
  subst S;have ea:∀j k,(Addr.add ⟨b,y,none⟩ j).add k=⟨b,y+j+k,none⟩:=by
   intro j k;unfold Addr.add;by_cases A:j=0<;>by_cases hk:k=0<;>simp[A,hk]
  rw[ea,E,Nat.add_assoc,Nat.div_add_mod'] at R;exact⟨b,y,rfl,World.block_lt_of_cell? _ _ R,R⟩
 .
  intro l r e;have e1:(List.range d).map D=l:=by simpa using (DataW.slice.inj e).1
  rw[<-e1,List.map_map];refine List.map_congr_left fun i M=>?_
  exact(N i (by simpa using M)).2
end
open Go.ChangeShapes Go.WideShapes Go.ChangeAt Go.RowKit
theorem Qgz:prog.cellsOf 80=6:=by kernel_rfl
theorem Qg0:prog.cellsOf 83=3:=by kernel_rfl
theorem Quz:prog.cellsOf 22=1:=by kernel_rfl
theorem Qu0:prog.cellsOf 23=1:=by kernel_rfl
theorem Qu1:prog.cellsOf 24=1:=by kernel_rfl
theorem Qu2:prog.cellsOf 26=3:=by kernel_rfl
theorem Qu3:prog.readableRec 26=true:=by kernel_rfl
theorem Qu4:26<prog.types.size:=by refine of_decide_eq_true ?_;kernel_rfl
section
variable {H:Type}
theorem Qg1{α:Type}(dat:α->DataW H)(b:∀e,1<=Rows.uptoBulk (dat e))(a:List α):a.length<=Rows.uptoBulkAll (a.map dat):=by
 induction a with
 |nil=>simp
 |cons e l c=>
  have:=b e;simp only[List.map_cons,Rows.uptoBulkAll,List.length_cons];omega
theorem Qeq{α:Type}{dat:α->DataW H}{a:List α}{d:DataW H}{N:Nat}(b:Rows.uptoBulk d<=N)(hl:∀l r,d=.slice l r->l=a.map dat)(hs:(a= []/\d=.nil)∨∃l r,d=.slice l r):Rows.uptoBulkAll (a.map dat)<=N:=by
 rcases hs with ⟨rfl,_⟩|⟨l,r,rfl⟩
 . simp[Rows.uptoBulkAll]
 . rw[<-hl l r rfl]
   exact Nat.le_trans (Quo l r) b
theorem Qg2(s:S2):1<=Rows.uptoBulk (spotD (H:=H) s)/\s.x.size+s.y.size<=Rows.uptoBulk (spotD (H:=H) s):=by
 simp[spotD,textD,Rows.uptoBulk,Rows.uptoBulkAll];omega
theorem Qk8(b:B6):1<=Rows.uptoBulk (barD (H:=H) b)/\b.c.size+b.e.size+b.l.size+b.m.size<=Rows.uptoBulk (barD (H:=H) b):=by
 simp[barD,textD,Rows.uptoBulk,Rows.uptoBulkAll];omega
theorem Qk9(h:H3):1<=Rows.uptoBulk (holdD (H:=H) h)/\h.q.size<=Rows.uptoBulk (holdD (H:=H) h):=by
 simp[holdD,textD,Rows.uptoBulk,Rows.uptoBulkAll];omega
theorem Qg3{α:Type}(dat:α->DataW H){a:List α}{e:α}(b:e∈ a):Rows.uptoBulk (dat e)<=Rows.uptoBulkAll (a.map dat):=Qgy (List.mem_map.2 ⟨e,b,rfl⟩)
variable {enc:TypeId × Value->H} {W:Vz}
theorem Qu5{b:Vw}{d:DataW H}{B:List MemPlace}(q:Rows.uptoBulk d<=1048576)
 (h:DataW.Trod enc prog W 0 (fun _=>true) true 26 (.agg b) d B):
 ∃(l m o:Vx) (c1 c2 c3:Nat) (f:List S2) (g:List B6) (hs:List H3),b=#[.slice l f.length c1,.slice m g.length c2,.slice o hs.length c3]/\FrRow W l m o c1 c2 c3 f g hs/\FrSized f g hs/\f.length<=1048576/\g.length<=1048576/\hs.length<=1048576/\Rows.uptoBulkAll (f.map (spotD (H:=H)))<=Rows.uptoBulk d:=by
 obtain⟨a,h⟩:=h;obtain⟨n,C,D,E,u,y1,y2,j,i,F,G,I⟩:=Qtu underlying26 Qu2 rfl rfl rfl Quz Qu0 Qu1 rfl rfl rfl h;have v:(Value.agg b).cells.toList=b.toList:=by rfl
 rw[v] at j;clear h v;obtain⟨l,c1,f,J,K,w,y⟩:=Qgu (c:=S2.cells) (dat:=spotD) (sz:=2) ⟨⟨#[]⟩,⟨#[]⟩⟩ (by decide) (fun _=>rfl) underlying22 Qgv (fun a b x i=>by
  obtain⟨s,t,e,r,_⟩:=Qky underlying56 underlying54 Qgv Qco rfl rfl rfl rfl i
  exact⟨⟨s,t⟩,e,r⟩) F
 obtain⟨m,c2,g,L,M,N,O⟩:=Qgu (c:=B6.cells) (dat:=barD) (sz:=6) ⟨0,0,⟨#[]⟩,⟨#[]⟩,⟨#[]⟩,⟨#[]⟩⟩ (by decide) (fun _=>rfl) underlying23 Qgz (fun a b x i=>Qkw underlying80 underlying54 underlying3 Qgz Qco cellsInt rfl rfl rfl rfl rfl rfl rfl rfl rfl rfl rfl rfl i) G;obtain⟨o,c3,hs,P,Q,R,S⟩:=Qgu (c:=H3.cells) (dat:=holdD) (sz:=3) ⟨0,0,⟨#[]⟩⟩ (by decide) (fun _=>rfl) underlying24 Qg0 (fun a b x i=>Qkx underlying83 underlying54 underlying3 underlying3 Qg0 Qco cellsInt cellsInt rfl rfl rfl rfl rfl rfl i) I;obtain rfl:C=_:=by simpa using J
 obtain rfl:D=_:=by simpa using L
 obtain rfl:E=_:=by simpa using P
 have r:d=.agg [u.1,y1.1,y2.1]:=i;subst r;have T:Rows.uptoBulk u.1<=1048576:=Nat.le_trans (by simp only[Rows.uptoBulk,Rows.uptoBulkAll];omega) q;have U:Rows.uptoBulk y1.1<=1048576:=Nat.le_trans (by simp only[Rows.uptoBulk,Rows.uptoBulkAll];omega) q;have V:Rows.uptoBulk y2.1<=1048576:=Nat.le_trans (by simp only[Rows.uptoBulk,Rows.uptoBulkAll];omega) q;have X:=Qeq T w y;have Y:=Qeq U N O;have Z:=Qeq V R S;have n0:=Qg1 (H:=H) spotD (fun e=>(Qg2 e).1) f;have n1:=Qg1 (H:=H) barD (fun e=>(Qk8 e).1) g;have n2:=Qg1 (H:=H) holdD (fun e=>(Qk9 e).1) hs;refine⟨l,m,o,c1,c2,c3,f,g,hs,by rw[<-Array.toArray_toList (xs:=b),j],⟨K,M,Q⟩,⟨fun p k=>?_,fun p k=>?_,fun p k=>?_⟩,by omega,by omega,by omega,Nat.le_trans (Qeq lZ w y) (by simp only[Rows.uptoBulk,Rows.uptoBulkAll];omega)⟩
 .
  have z:=Qg3 (H:=H) spotD k;have A:=(Qg2 (H:=H) p).2;omega
 .
  have z:=Qg3 (H:=H) barD k;have A:=(Qk8 (H:=H) p).2;omega
 .
  have z:=Qg3 (H:=H) holdD k;have A:=(Qk9 (H:=H) p).2;omega
end
def unitV(c:Nat):Vec:=fun i=>if i=c then 1 else 0
def nullF(c:Nat)(S:List Vec)(hs:Vy):Nat->Vec
 |0=>unitV c
 |k+1=>upd (nullF c S hs k) (hs.getD k 0) (-(S.getD k (fun _=>0) c))
theorem Qec{c:Nat}{S:List Vec}{hs:Vy}{k h:Nat}{r:Vec}(a:hs[k]?=some h)(b:S[k]?=some r):nullF c S hs (k+1)=upd (nullF c S hs k) h (-(r c)):=by
 simp[nullF,List.getD,a,b]
theorem Qcj{c:Nat}{S:List Vec}{hs:Vy}(hl:S.length=hs.length){d:Nat}(b:d ∉ hs):∀k,k<=hs.length->nullF c S hs k d=unitV c d
 |0,_=>rfl
 |k+1,hk=>by
  have a:k<hs.length:=by omega
  rw[Qec (gE a) (gE (by omega)),Qad _ _ (fun e=>b (by rw[e];exact List.getElem_mem _))];exact Qcj hl b k (by omega)
theorem Ech.lt_at:∀{S:List Vec} {hs:Vy} {lo c:Nat},Ech lo c S hs->∀(i j a b:Nat),i<j->hs[i]?=some a->hs[j]?=some b->a<b
 |r :: S,h :: hs,lo,c,⟨_,_,_,h4⟩,0,j+1,a,b,_,ha,hb=>by
  obtain rfl:=Option.some.inj (show some h=some a from ha);have:=(h4.head b (mO (show hs[j]?=some b from hb))).1;omega
 |r :: S,h :: hs,lo,c,⟨_,_,_,h4⟩,i+1,j+1,a,b,hij,ha,hb=>h4.lt_at i j a b (by omega) ha hb
 | [],[],_,_,_,i,j,a,b,_,ha,_=>by simp at ha
 | [],_ :: _,_,_,h,_,_,_,_,_,_,_=>h.elim
 |_ :: _,[],_,_,h,_,_,_,_,_,_,_=>h.elim
theorem Qgf{c lo g:Nat}{S:List Vec}{hs:Vy}(b:Ech lo g S hs){t h:Nat}{r:Vec}(d:hs[t]?=some h)(f:S[t]?=some r):∀k,k<=hs.length->t<k->nullF c S hs k h= -(r c)
 |0,_,ht=>by omega
 |k+1,hk,ht=>by
  have a:k<hs.length:=by omega
  have hl:=b.len;rw[Qec (gE a) (gE (by omega))];by_cases e:t=k
  .
   subst e;obtain rfl:hs[t]=h:=Option.some.inj ((gE a).symm.trans d);obtain⟨_,rfl⟩:=gZ f;exact Qan _ _ _
  .
   have:=b.lt_at t k h hs[k] (by omega) d (gE a);rw[Qad _ _ (by omega)];exact Qgf b d f k (by omega) (by omega)
theorem Qr8(W:Nat)(r x:Vec)(h c:Nat)(f:h<W)(g:c<W)(a:h≠c)(j:∀i,i<W->i≠h->i≠c->r i*x i=0):dot W r x=r h*x h+r c*x c:=by
 have e:=Qch W r (upd x h 0) h (x h) f;have k:upd (upd x h 0) h (x h)=x:=by
  funext i;unfold upd
  split
  . next q=>rw[q]
  . rfl
 rw[k,Qan] at e;rw[e,Qbz W r (upd x h 0) c g (fun i l b=>?_),Qad _ _ (Ne.symm a)]
 . grind
 .
  by_cases d:i=h
  . rw[d,Qan];grind
  . rw[Qad _ _ d];exact j i l d b
theorem Qgg{c W:Nat}{S:List Vec}{hs:Vy}(b:Cln 0 W S hs)(n:c<W)(j:c ∉ hs):Null W S (nullF c S hs hs.length):=by
 intro r o;obtain⟨t,p,rfl⟩:=List.getElem_of_mem o;have hl:=b.ech.len;have k:S[t]?=some S[t]:=gE p;obtain⟨h,d⟩:∃h,hs[t]?=some h:=⟨hs[t]'(by omega),gE _⟩;obtain⟨q,s,u⟩:=b.at t S[t] h k d;have l:=mO d;have f:=(b.ech.head h l).2;have g:h≠c:=fun e=>j (e ▸ l)
 rw[Qr8 W _ _ h c f n g (fun i w x v=>?_)]
 .
  rw[Qgf b.ech d k hs.length lZ (by omega),q,Qcj hl j hs.length lZ];simp only[unitV,if_pos];grind
 .
  by_cases a:i∈ hs
  .
   rcases Nat.lt_or_ge i h with m|m
   . rw[s i m];grind
   . rw[u i a (by omega)];grind
  .
   rw[Qcj hl a hs.length lZ];simp only[unitV,if_neg v];grind
theorem Qgh{c:Nat}{S:List Vec}{hs:Vy}(hl:S.length=hs.length)(a:c ∉ hs):nullF c S hs hs.length c=1:=by
 rw[Qcj hl a hs.length lZ];exact if_pos rfl
theorem Qgi{c d:Nat}{S:List Vec}{hs:Vy}(hl:S.length=hs.length)(b:d ∉ hs)(a:d≠c):nullF c S hs hs.length d=0:=by
 rw[Qcj hl b hs.length lZ];exact if_neg a
def freeTo(hs:Vy)(k:Nat):List Nat:=(List.range k).filter (fun c=>decide (c ∉ hs))
theorem Qdf(hs:Vy)(k:Nat):freeTo hs (k+1)=if k∈ hs then freeTo hs k else freeTo hs k++ [k]:=by
 unfold freeTo;rw[List.range_succ,List.filter_append];by_cases h:k∈ hs
 . rw[if_pos h,List.filter_cons_of_neg (by simpa using h)]
   simp
 . rw[if_neg h,List.filter_cons_of_pos (by simpa using h)]
   simp
theorem freeTo_mem{hs:Vy}{k c:Nat}:c∈ freeTo hs k↔c<k/\c ∉ hs:=by
 unfold freeTo;rw[List.mem_filter,List.mem_range];simp
theorem Qdg(hs:Vy)(k:Nat):(freeTo hs k).length<=k:=by
 unfold freeTo;have:=List.length_filter_le (fun c=>decide (c ∉ hs)) (List.range k);rw[List.length_range] at this;exact this
theorem Qj1(W:Nat)(M:List Vec):∀c,c<=W->∃(L S:List Vec) (hs:Vy),Elim W M c L S hs/\L.length+S.length=M.length
 |0,_=>⟨M,[],[],Elim.start W M,rfl⟩
 |c+1,hc=>by
  obtain⟨L,S,hs,e,hl⟩:=Qj1 W M c (by omega);by_cases h:∀r,r∈ L->r c=0
  . exact⟨L,S,hs,e.skip h,hl⟩
  .
   obtain⟨s,a,b⟩:∃s,s∈ L/\s c≠0:=by
    apply bC;intro g;exact h fun r i=>bC fun k=>g ⟨r,i,k⟩
   obtain⟨j,f,d⟩:=List.getElem_of_mem a;refine⟨_,_,_,e.step (j:=j) (s:=s) (by rw[gE f,d]) b,?_⟩;rw[List.length_map,List.length_eraseIdx_of_lt f,List.length_append,List.length_singleton];omega
theorem Qr9{W:Nat}{M:List Vec}(h:M.length<W):∃x:Vec,Null W M x/\∃c,c<W/\x c≠0:=by
 obtain⟨L,S,hs,d,hl⟩:=Qj1 W M W lZ;obtain⟨a,e⟩:=d.done;have b:=a.len;obtain⟨c,_,c2,c3⟩:=a.hole (by omega);obtain⟨x,x1,x2⟩:=a.solve W (fun i=>if i=c then 1 else 0) lZ;refine⟨x,(e x).2 x2,c,c2,?_⟩;rw[x1 c c3,if_pos rfl];decide
def sumQ:Nat->(Nat->Rat)->Rat
 |0,_=>0
 |n+1,f=>sumQ n f+f n
theorem Qj2:∀(n:Nat) (f:Nat->Rat),(∀p,p<n->f p=0)->sumQ n f=0
 |0,_,_=>rfl
 |n+1,f,h=>by rw[sumQ,Qj2 n f (fun p a=>h p (by omega)),h n (by omega)];grind
theorem Qgj:∀(n:Nat) (f:Nat->Rat) (a:Nat),a<n->(∀p,p<n->p≠a->f p=0)->sumQ n f=f a
 |n+1,f,a,ha,h=>by
  rw[sumQ];by_cases e:a=n
  . subst e
    rw[Qj2 a f (fun p b=>h p (by omega) (by omega)),Rat.zero_add]
  . rw[Qgj n f a (by omega) (fun p b=>h p (by omega)),h n (by omega) (by omega),Rat.add_zero]
theorem Qj3:∀(n:Nat) (f:Nat->Rat) (a b:Nat),a<n->b<n->a≠b->(∀p,p<n->p≠a->p≠b->f p=0)->sumQ n f=f a+f b
 |n+1,f,a,b,ha,hb,hab,h=>by
  rw[sumQ];by_cases e:a=n
  .
   subst e;rw[Qgj a f b (by omega) (fun p d c=>h p (by omega) (by omega) c)];grind
  .
   by_cases g:b=n
   . subst g
     rw[Qgj b f a (by omega) (fun p d c=>h p (by omega) c (by omega))]
   . rw[Qj3 n f a b (by omega) (by omega) hab (fun p d=>h p (by omega)),h n (by omega) (by omega) (by omega),Rat.add_zero]
structure NRow (w:Vz) (g W K:Nat) (us:List FE) (x:Vec):Prop where
 blk:QBlk w g us
 len:us.length=W
 sz:∀t,t∈ us->t.k<=K
 q:∀(i:Nat) (t:FE),us[i]?=some t->t.q=x i
theorem NRow.below{w w':Vz}{g W K:Nat}{us:List FE}{x:Vec}(h:NRow w g W K us x)(a:Bl w w'):NRow w' g W K us x:=⟨h.blk.below a,h.len,h.sz,h.q⟩
theorem NRow.put{w:Vz}{g W K i:Nat}{us:List FE}{x:Vec}{a b c:Value}{q:Rat}(h:NRow w g W K us x)(n:i<W)(k:FracV w (.agg #[a,b,c]) q)(l:Fits q K)(m:0<K):NRow (((w.setCell ⟨g,i*3,none⟩ a).setCell ⟨g,i*3+1,none⟩ b).setCell ⟨g,i*3+2,none⟩ c) g W K (us.set i ⟨a,b,c,q,K⟩) (upd x i q):=by
 have hl:i<us.length:=by have:=h.len;omega
 refine⟨Qev h.blk hl k l m,by rw[List.length_set];exact h.len,fun t f=>?_,fun j t d=>?_⟩
 .
  rcases List.mem_or_eq_of_mem_set f with f|rfl
  . exact h.sz t f
  . exact Nat.le_refl _
 .
  by_cases e:j=i
  .
   subst e;rw[List.getElem?_set_self hl] at d;cases d;exact(Qan _ _ _).symm
  .
   rw[List.getElem?_set_ne (Ne.symm e)] at d;rw[Qad _ _ e];exact h.q j t d
theorem NRow.new(w:Vz)(W K:Nat)(C:Vw)(hC:C=((List.replicate W FE.zero).flatMap FE.cells).toArray)(a:0<K):NRow (w.alloc (.cells C 141)) w.heap.size W K (List.replicate W FE.zero) (fun _=>0):=
 ⟨QBlk.new w W C hC,by simp,fun t b=>by obtain⟨_,rfl⟩:=List.mem_replicate.1 b;exact a,fun i t c=>by obtain⟨_,rfl⟩:=List.mem_replicate.1 (mO c);rfl⟩
theorem NRow.cells{w:Vz}{g W K i:Nat}{us:List FE}{x:Vec}(h:NRow w g W K us x)(b:i<W):∃e:FE,w.cell? ⟨g,i*3,none⟩=some e.x/\w.cell? ⟨g,i*3+1,none⟩=some e.y/\w.cell? ⟨g,i*3+2,none⟩=some e.z/\w.frozen? ⟨g,i*3,none⟩=false/\w.frozen? ⟨g,i*3+1,none⟩=false/\w.frozen? ⟨g,i*3+2,none⟩=false:=by
 have hl:i<us.length:=by have:=h.len;omega
 obtain⟨c,d,a,_,t0,t1,t2⟩:=h.blk.row.at (gE hl);cases a;simp only[Nat.zero_add] at t0 t1 t2;exact⟨us[i],t0,t1,t2,h.blk.blk.free _,h.blk.blk.free _,h.blk.blk.free _⟩
theorem NRow.mr{w:Vz}{g W K:Nat}{us:List FE}{x:Vec}(h:NRow w g W K us x)(b:∀i,W<=i->x i=0):MOk w W K ⟨some ⟨g,0,none⟩,W,us⟩/\(⟨some ⟨g,0,none⟩,W,us⟩:MR).q=x:=by
 refine⟨⟨?_,h.len,h.sz⟩,?_⟩
 .
  have:=h.blk.row;rw[h.len] at this;exact this
 .
  funext i;rcases Nat.lt_or_ge i W with a|a
  . rw[MR.q_at (r:=⟨some ⟨g,0,none⟩,W,us⟩) (e:=us[i]'(by have:=h.len;omega)) (gE _)]
    exact h.q i _ (gE _)
  . rw[MR.q_beyond (by show us.length<=i;have:=h.len;omega),b i a]
theorem Qv8(a b:Vx)(ca cb W K c:Nat)(S:List MR)(hs:Vy)(w:Vz)(hg:Glob w)(hr:CRow w a (S.map MR.val))(hh:CRow w b (headsV hs))(I:Oks w W K S)(C:S.length=hs.length)(J:∀h,h∈ hs->h<W)(hc:c<W)(hW:W<=1000)(hl:hs.length<=1000)(be:1<K):
 Calls prog 86 #[.agg #[.int .i64 W,.slice a S.length ca,.slice b hs.length cb],.int .i64 c] w fun e w'=>∃(g:Nat) (us:List FE),e=.returned (.slice (some ⟨g,0,none⟩) W W)/\NRow w' g W K us (nullF c (S.map MR.q) hs hs.length)/\Below w.heap.size w w':=by
 obtain⟨HG,HR,HH,am,L,an⟩:=Ie hg hr hh I C J;have M:=fun w=>Qcu W (by omega) w
 obtain⟨MC,D⟩:=nm (((List.replicate W FE.zero).flatMap FE.cells).toArray);rw[D] at M;have ao:=Hi D.symm;clear hg hr hh I C J D;obtain⟨B0,E⟩:=nm w.heap.size;obtain⟨W1,m⟩:=nm (w.alloc (.cells #[.int .i64 W,.slice a S.length ca,.slice b hs.length cb] 135));have u:=Ua m;have j:=Uf m E;obtain⟨W2,v⟩:=nm (W1.alloc (.cells MC 141));obtain⟨g,n⟩:=nm W1.heap.size;have N:w.heap.size+1=g:=by rw[<-n,<-m,World.size_alloc]
 have d:=Ua v;have ap:O (NRow W2 g W K (List.replicate W FE.zero) (fun _=>0)):=Hi (by rw[<-v,<-n];exact NRow.new W1 W K MC ao.o (by omega));obtain⟨x0,-⟩:=zc j.o;obtain⟨-,-,x2,-⟩:=zc (j.o.below d.o j.o.lt);obtain⟨ar,au,av,P,aw,ax⟩:=Ie m v E n N (of_val (q:=1) (s:=⟨#[49]⟩) ((HG.o.below u.o).below d.o) one_q (by decide));have Q:O (w.heap.size<=g):=Hi (by rw[<-n];exact u.o.size);rw[<-m] at x0;clear m v E n N;go_enter func86,ntmps86;go_wp2_with fail;rw[ar.o,au.o]
 try rw[aw.o]
 try rw[av.o]
 go_fit ax.o;rintro e w3 ⟨⟨vn,rfl,l⟩,x⟩;obtain⟨nq,aq,lq,dq,mq,oq,pq,rfl,l⟩:=l;have ay:O (FracV w3 (.agg #[.bool nq,.slice aq lq dq,.slice mq oq pq]) 1):=Hi ⟨nq,aq,lq,dq,mq,oq,pq,rfl,l⟩;have R:=Hi (ap.o.below x);obtain⟨e0,c0,c1,c2,f0,f1,f2⟩:=R.o.cells hc;obtain⟨az,a0⟩:=Ia ((j.o.below d.o j.o.lt).below x (j.o.below d.o j.o.lt).lt) (u.o.trans ((d.o.trans (x.mono d.o.size)).mono u.o.size));obtain⟨V,G⟩:=nm (((w3.setCell ⟨g,c*3,none⟩ (.bool nq)).setCell ⟨g,c*3+1,none⟩ (.slice aq lq dq)).setCell ⟨g,c*3+2,none⟩ (.slice mq oq pq));have a1:O (NRow V g W K ((List.replicate W FE.zero).set c ⟨.bool nq,.slice aq lq dq,.slice mq oq pq,1,K⟩) (upd (fun _=>0) c 1)):=Hi (by rw[<-G];exact R.o.put hc ay.o (Fits.one.mono (by omega)) (by omega));have a2:O (Bl w V):=Hi (by
  rw[<-G];have y:=Q.o
  exact((a0.o.setCell (p:=⟨g,c*3,none⟩) y _).setCell (p:=⟨g,c*3+1,none⟩) y _).setCell (p:=⟨g,c*3+2,none⟩) y _)
 have T:O (SB V B0 135 #[.int .i64 W,.slice a S.length ca,.slice b hs.length cb]):=Hi (by
  rw[<-G];have a3:B0≠g:=by have y:=j.o.lt;have h2:=P.o;omega
  exact az.o.only ((((Only.refl g w3).setCell _ _).setCell _ _).setCell _ _) a3)
 obtain⟨-,-,y2,-⟩:=zc T.o;have a4:=Hi G;rw[<-G] at y2;have a5:O (upd (fun _=>0) c 1=nullF c (S.map MR.q) hs 0):=Hi (by
  funext i;unfold upd nullF unitV
  rfl)
 clear l x G x0 x2 M;go_wp2_with fail;rw[a4.o];clear y2 c0 c1 c2 f0 f1 f2;go_loopw [18] (fun iv wr=>∃(k:Nat) (us:List FE),k<=hs.length/\iv=.int .i64 k/\NRow wr g W K us (nullF c (S.map MR.q) hs k)/\SB wr B0 135 #[.int .i64 W,.slice a S.length ca,.slice b hs.length cb]/\Below w.heap.size w wr) (fun iv _=>hs.length - (intOf iv).toNat)
 case atStart=>exact⟨0,_,Nat.zero_le _,rfl,a5.o ▸ a1.o,T.o,a2.o⟩
 case round=>
  obtain⟨k,us,hk,rfl,U,X,Y⟩:=hrel;obtain⟨HN,HS,H⟩:=Ib U X Y;clear U X Y;by_cases a6:k<hs.length
  .
   obtain⟨r,z⟩:∃r,S[k]?=some r:=⟨S[k]'(by have:=L.o;omega),gE _⟩;obtain⟨t,A⟩:∃t,hs[k]?=some t:=⟨hs[k],gE a6⟩;have Z:t<W:=an.o t (mO A);have f:=(am.o.fr (Fr.of_below H.o)) r (mO z);obtain⟨e,he⟩:∃e,r.ts[c]?=some e:=⟨r.ts[c]'(by have:=f.len;omega),gE _⟩;obtain⟨rb,ro,aa,bf,d0,d1,d2⟩:=f.row.at he;have F:=f.row.get he;have ab:=f.sz e (mO he);obtain⟨bg,bh,rfl,bi,a7⟩:=(HH.o.below H.o).cell k (.int .i64 (t:Nat)) (by simp[headsV,A]);obtain⟨gb,go,rfl,bj,ad⟩:=(HR.o.below H.o).cell k r.val (by rw[List.getElem?_map,z];rfl);rw[MR.val,aa,f.len] at ad;obtain⟨-,x1,-⟩:=zc HS.o;have q2:((k:Int)<(hs.length:Int)):=by omega
   have q3:((c:Int)<(W:Int)):=by omega
   have q4:((k:Int)<(S.length:Int)):=by have:=L.o;omega
   have a8:=Hi (Qc3 F.1);have a9:O (Fits (-e.q) K):=Hi (Fits.neg (F.2.1.mono ab));have ba:O (nullF c (S.map MR.q) hs (k+1)=upd (nullF c (S.map MR.q) hs k) t (-e.q)):=Hi (by
    rw[Qec A (r:=r.q) (by rw[List.getElem?_map,z];rfl),MR.q_at he])
   clear f he F ab z A aa;go_wp2_with fail;go_fit a8.o;rintro e' w4 ⟨⟨vn,rfl,l⟩,B⟩;obtain⟨ae,af,ag,ah,ai,aj,ak,rfl,l⟩:=l;have bb:O (FracV w4 (.agg #[.bool ae,.slice af ag ah,.slice ai aj ak]) (-e.q)):=Hi ⟨ae,af,ag,ah,ai,aj,ak,rfl,l⟩;obtain⟨al,bc,bd⟩:=Ib (HN.o.below B) (HS.o.below B HS.o.lt) (H.o.trans (B.mono H.o.size));obtain⟨e0,c0,c1,c2,f0,f1,f2⟩:=al.o.cells Z;have q5:((t:Int)<(W:Int)):=by omega
   clear l B ad a7 x1 d0 d1 d2;go_wp2;go_roundw
   case rel=>
    have y:=Q.o;refine⟨k+1,_,by omega,by go_num,ba.o ▸ al.o.put Z bb.o a9.o (by omega),bc.o.only ((((Only.refl g w4).setCell _ _).setCell _ _).setCell _ _) ?_,((bd.o.setCell (p:=⟨g,t*3,none⟩) y _).setCell (p:=⟨g,t*3+1,none⟩) y _).setCell (p:=⟨g,t*3+2,none⟩) y _⟩;have y:=j.o.lt;have h2:=P.o;omega
   case measure=>simp[intOf];omega
  .
   obtain rfl:k=hs.length:=by omega
   go_wp2;go_ret;exact⟨g,us,rfl,HN.o,H.o⟩
def appR(P:Program)(t ty:Vr)(vs vx:Value)(w:Vz):Result Value:=(Builtin.append_ #[t,t] ty #[vs,vx]).run P w
@[go_sem ↓] theorem Qxx (ρ:Operand->Value) (dst:Option Tmp) (x y:Operand) (t ty:Vr) (pos:String) (after:Array Go.Edge) (guard:Option (Nat × Bool)) (w:Vz):
   (execOp ρ { dst,op:=.call { callee:=.builtin .append,args:=#[x,y],argTypes:=#[t,t] },type:=ty,pos,after,guard }).run prog w=(appR prog t ty (ρ x) (ρ y) w).andThen (fun v w'=>.ok (.value v) w'):=by
  have e:(#[x,y]:Array Operand).map ρ=#[ρ x,ρ y]:=by simp
  rw[BigFrame.execOp_builtin,BigFrame.builtin_append,e,Sem.run_bind]
  unfold appR
  simp only[Sem.run_pure]
theorem Grow.row{w:Vz}{B nb c:Nat}{v:Value}{a:List MR}{r:MR}(h:Grow w B 93 1 IsSl v a.length (a.map MR.val))(g:w.cell? ⟨nb,0,none⟩=some r.val)(s:a.length<=1000)(hB:B<=w.heap.size)(ty:Vr):
 ∃d w',appR prog 89 ty v (.slice (some ⟨nb,0,none⟩) 1 c) w=.ok d w'/\Grow w' B 93 1 IsSl d (a++ [r]).length ((a++ [r]).map MR.val)/\w.grownBy w' v.ownBlock:=by
 obtain⟨i,k,l⟩:=Option.map_eq_some_iff.1 Qcv;injection l with m e
 injection e with e n
 obtain⟨d,w',o,p,q,_⟩:=h.app (P:=prog) (t:=89) (ty:=ty) underlying89 k m e n rfl (by decide) (fun u b=>⟨none,0,0,by simpa [Value.cells] using b⟩) ⟨nb,0,none⟩ 1 c [r.val] rfl (fun j u f=>by
  match j,f with
  |0,f=>
   obtain rfl:=Option.some.inj f
   exact g) (fun u b=>by obtain rfl:=List.mem_singleton.1 b;rfl) (fun u b=>by obtain rfl:=List.mem_singleton.1 b;exact⟨_,_,_,rfl⟩) (by omega) (by decide) hB
 refine⟨d,w',o,?_,q⟩;rw[List.length_append,List.length_singleton,List.map_append];exact p
theorem Qb4{w w':Vz}{B:Nat}{v:Value}(h:w.grownBy w' v.ownBlock)(a:∀g,v.ownBlock=some g->B<=g)(hB:B<=w.heap.size):Below B w w':=
 ⟨h.os,h.tape,h.output,h.size,fun b c=>h.block b (by omega) (fun e=>by have:=a b e.symm;omega)⟩
theorem Qv9{w w':Vz}{B n:Nat}{v:Value}{xs:Vv}(a:Grow w B 93 1 IsSl v n xs)(h:w.grownBy w' v.ownBlock):Fr w w':=a.only h (fun C hC=>IsSl.plain hC)
structure NullsAt (w w':Vz) (W K:Nat) (v:Value) (vs:List Vec) (ns:List MR):Prop where
 list:Grow w' w.heap.size 93 1 IsSl v ns.length (ns.map MR.val)
 ok:Oks w' W K ns
 own:∀r,r∈ ns->∃g,r.a=some ⟨g,0,none⟩/\r.cap=W
 q:ns.map MR.q=vs
 base:Bl w w'
theorem Qlm(a:Vx)(cap W K:Nat)(rs:List MR)(w:Vz)(ad:Glob w)(I:Nat->List Vec->List Vec->List Nat->Prop)(hI:Going K I)(h:ARow MR.cells w a cap rs)(ae:Oks w W K rs)(hl:rs.length<=1000)(hW:W<=1000)(ay:1<K)(hK:4*K+1<68719476000)(h0:I 0 (rs.map MR.q) [] [])
 (z:∀L S hs,I W L S hs->Ech 0 W S hs/\clnFits K S hs):
 Calls prog 41 #[.slice a rs.length cap,.int .i64 W] w fun e w'=>∃(L S:List Vec) (hs:Vy) (v:Value) (j:List MR),e=.returned v/\I W L S hs/\NullsAt w w' W K v ((freeTo hs W).map (fun c=>nullF c (cln S hs) hs hs.length)) j:=by
 obtain⟨af,HF,HG⟩:=Ib (Qg7 a cap W K W rs w I hI h ae hl hW lZ (by omega) hK h0) z ad;clear hI h ae h0 z ad;go_enter func41,ntmps41;go_wp2_with fail;go_fit af.o;rintro e w2 ⟨⟨L,S,hs,sv,hv,rfl,hi,bg,bh,E,F,ag⟩,ah⟩;obtain⟨b1,c1,rfl,_,_,_⟩:=E.slice;obtain⟨b2,c2,rfl,_,_,_⟩:=F.slice;obtain⟨n,ai⟩:=HF.o _ _ _ hi;obtain⟨HI,HE,az,aj,a0,a1,ak,G⟩:=Ig hi n ai E F ag ah (by have:=n.len;simpa using this);clear hi E F ag ah n ai af;obtain⟨B0,t⟩:=nm w2.heap.size;obtain⟨V,hV⟩:=nm (w2.alloc (.cells #[.int .i64 (W:Nat),.slice b1 S.length c1,.slice b2 hs.length c2] 135));have p:=Ua hV
 have u:=Uf hV t;have al:=Hi (Qll w.heap.size W K S hs (.slice b1 S.length c1) (.slice b2 hs.length c2) (W:Nat) V (aj.o.below p.o) (a0.o.below p.o) (a1.o.fr (Fr.of_below p.o)) G.o (fun c hc=>(HE.o.head c hc).2) az.o (by omega) (by omega) (by omega) hK);obtain⟨x0,x1,x2,-⟩:=zc u.o;obtain⟨a2,a3⟩:=Ia hV t;rw[<-hV] at x0 x1 x2;rw[<-t] at x0 x1 x2;clear hV t;go_wp2_with fail;rw[a2.o,a3.o];clear x0 x1 x2;go_fit al.o;rintro e w4 ⟨rfl,S',am,an,b⟩;have l:=Hi (ak.o.trans (p.o.mono ak.o.size))
 have s:O (Bl w w4):=Hi ⟨b.o.1.trans l.o.os,b.o.2.1.trans l.o.tape,b.o.2.2.1.trans l.o.output,Nat.le_trans l.o.size b.o.2.2.2,fun k hk=>(b.base k (Nat.lt_of_lt_of_le hk l.o.size) (fun e=>by have:=(b.rows.lt e).1;omega)).trans (l.o.block k hk)⟩;have A:O (SB w4 B0 135 #[.int .i64 (W:Nat),.slice b1 S.length c1,.slice b2 hs.length c2]):=Hi (by
  have h1:=b.base B0 u.o.lt (fun e=>by
   obtain⟨D,d1,_⟩:=(aj.o.below p.o).sb e
   exact u.o.unlike d1 row_stairs.symm rfl)
  have h2:=u.o;unfold SB at h2 ⊢;rw[h1]
  exact h2)
 obtain⟨a4,H,a5⟩:=Ib b am an;clear b am an al;go_wp2_with fail;go_loopw [14,6] (fun iv nv wr=>∃(k:Nat) (j:List MR),k<=W/\iv=.int .i64 k/\Grow wr w4.heap.size 93 1 IsSl nv j.length (j.map MR.val)/\Oks wr W K j/\(∀r,r∈ j->∃g,r.a=some ⟨g,0,none⟩/\r.cap=W)/\j.map MR.q=(freeTo hs k).map (fun c=>nullF c (S'.map MR.q) hs hs.length)/\Below w4.heap.size w4 wr) (fun iv _ _=>W - (intOf iv).toNat)
 case atStart=>exact⟨0,[],Nat.zero_le _,rfl,Grow.nil _ _ _ _ _,okNil,(fun r m=>by cases m),rfl,Below.refl _ _⟩
 case round=>
  obtain⟨k,j,hk,rfl,ao,B,ap,hq,aq⟩:=hrel;obtain⟨J,M,N,HQ,d⟩:=Id ap ao B hq aq;have a6:O (j.length<=1000):=Hi (by
   have h1:=congrArg List.length hq;rw[List.length_map,List.length_map] at h1;have h2:=Qdg hs k
   omega)
  clear ao B ap hq aq;by_cases a7:k<W
  .
   have q1:((k:Int)<(W:Int)):=by omega
   have b:=a4.o.below d.o;obtain⟨x0,x1,x2,-⟩:=zc (A.o.below d.o A.o.lt);have a8:=Hi (Qlj b2 c2 k hs wr b.heads.crow (by omega));have P:=Qv8 b1 b2 c1 c2 W K k S' hs wr (HG.o.below (s.o.trans (d.o.mono s.o.size))) b.rows.crow b.heads.crow b.ok (by have:=H.o;have:=G.o;omega) (fun c hc=>(HE.o.head c hc).2) a7 hW (by omega) ay;rw[H.o] at P;have a9:=Hi P;clear b P;go_wp2_with fail;go_fit a8.o;rintro e w5 ⟨rfl,rfl⟩;by_cases x:k∈ hs
   .
    rw[decide_eq_true x];have Q:O (freeTo hs (k+1)=freeTo hs k):=Hi (by rw[Qdf,if_pos x]);clear x;go_wp2;go_roundw
    case rel=>exact⟨k+1,j,by omega,by go_num,M.o,N.o,J.o,by rw[Q.o];exact HQ.o,d.o⟩
    case measure=>simp[intOf];omega
   .
    rw[decide_eq_false x];have Q:O (freeTo hs (k+1)=freeTo hs k++ [k]):=Hi (by rw[Qdf,if_neg x]);have bi:=Hi x;clear x;go_wp2_with fail;go_fit a9.o;rintro e R ⟨g,us,rfl,T,U⟩;have ar:(S'.map MR.q).length=hs.length:=by rw[List.length_map];have:=H.o;have:=G.o;omega
    obtain⟨au,av⟩:=T.mr (fun i hi=>by
     rw[Qcj ar (fun x=>by have:=(HE.o.head i x).2;omega) hs.length lZ]
     exact if_neg (by omega))
    obtain⟨X,hX⟩:=nm (R.alloc (.cells #[.slice (some ⟨g,0,none⟩) W W] 93));have Y:Bl R X:=by rw[<-hX];exact(Below.refl _ _).alloc lZ _
    have f:=U.trans (Y.mono U.size);have aw:X.cell? ⟨R.heap.size,0,none⟩=some (MR.val ⟨some ⟨g,0,none⟩,W,us⟩):=by
     rw[MR.val,T.len,<-hX];exact Qa0 R _ _
    have y:=M.o.below f;have Z:w4.heap.size<=X.heap.size:=by have h1:=d.o.size;have h2:=f.size;omega
    obtain⟨v7,w7,C,ax,aa⟩:=y.row (r:=⟨some ⟨g,0,none⟩,W,us⟩) (c:=1) aw a6.o Z 89;have ab:=Qv9 y aa;have ba:=Hi ax;have bb:O (Oks w7 W K (j++ [⟨some ⟨g,0,none⟩,W,us⟩])):=Hi (fun r m=>by
     rcases List.mem_append.1 m with m|m
     . exact((N.o.fr (Fr.of_below f)).fr ab) r m
     . obtain rfl:=List.mem_singleton.1 m
       exact(au.fr (Fr.of_below Y)).fr ab)
    have bc:O (∀r,r∈ j++ [(⟨some ⟨g,0,none⟩,W,us⟩:MR)]->∃g,r.a=some ⟨g,0,none⟩/\r.cap=W):=Hi (fun r m=>by
     rcases List.mem_append.1 m with m|m
     . exact J.o r m
     . obtain rfl:=List.mem_singleton.1 m
       exact⟨_,rfl,rfl⟩)
    have bd:O ((j++ [(⟨some ⟨g,0,none⟩,W,us⟩:MR)]).map MR.q=(freeTo hs (k+1)).map (fun c=>nullF c (S'.map MR.q) hs hs.length)):=Hi (by
     rw[Q.o,List.map_append,List.map_append,HQ.o,List.map_singleton,List.map_singleton,av])
    have be:=Hi ((d.o.trans (f.mono d.o.size)).trans (Qb4 aa (fun g hg=>(y.lt hg).1) Z));have bf:appR prog 89 89 u6 (.slice (some ⟨R.heap.size,0,none⟩) 1 1) (R.alloc (.cells #[.slice (some ⟨g,0,none⟩) W W] 93))=.ok v7 w7:=by rw[hX];exact C
    clear ar au av hX Y f aw y Z C ax aa ab T U x0 x1 x2;go_wp2;go_roundw
    case rel=>exact⟨k+1,_,by omega,by go_num,ba.o,bb.o,bc.o,bd.o,be.o⟩
    case measure=>simp[intOf];omega
  .
   obtain rfl:k=W:=by omega
   go_wp2;go_ret;refine⟨_,_,hs,_,j,rfl,HI.o,M.o.mono s.o.size,N.o,J.o,?_,s.o.trans (d.o.mono s.o.size)⟩;rw[HQ.o,a5.o]
def turnTo(M:Nat->Nat->Rat)(k j:Nat):Nat->Nat->Rat:=fun c i=>if i<k∨(i=k/\c<j) then M i c else 0
theorem Qwa(a:Vx)(cap W K:Nat)(rs:List MR)(w:Vz)(h:QMat w a cap W rs)(hk:∀r,r∈ rs->∀t,t∈ r.ts->t.k<=K)(hl:rs.length<=1000)(hW:W<=1000)(T:0<K):
 Calls prog 43 #[.slice a rs.length cap,.int .i64 W] w fun e w'=>∃(G:Nat) (C:List MR),e=.returned (.slice (some ⟨G,0,none⟩) W W)/\C.length=W/\QMat w' (some ⟨G,0,none⟩) W rs.length C/\Oks w' rs.length K C/\C.map MR.q=(List.range W).map (fun c i=>if i<rs.length then (rs.map MR.q).getD i (fun _=>0) c else 0)/\Below w.heap.size w w':=by
 obtain⟨U,HK⟩:=Ia h hk;obtain⟨n,V⟩:=nm rs.length;have D:=Hi (Qhg W n w hW (by omega));obtain⟨M,hM⟩:∃M:Nat->Nat->Rat,M=fun i c=>(rs.map MR.q).getD i (fun _=>0) c:=⟨_,rfl⟩
 obtain⟨X,HN⟩:=Ia hM V;rw[V] at hl ⊢;clear h hk hM V;go_enter func43,ntmps43;go_wp2_with fail;go_fit D.o;rintro e v ⟨⟨G,B,rfl,E,u,A,d,F⟩,hb⟩;have Y:O (GM w v w.heap.size G n K B (turnTo M 0 0)):=Hi (by
  refine⟨hb,A,fun r g m=>⟨_,(d r g m).1,by simp,fun c t ht=>?_⟩,F,fun r g m=>by have:=(d r g m).2;omega,u,fun r g m=>by have:=(d r g m).2;omega⟩;obtain⟨_,rfl⟩:=List.mem_replicate.1 (mO ht)
  exact⟨by simp[turnTo,FE.zero],by simp[FE.zero];omega⟩)
 have p:=Hi E;clear E u A d F hb D;go_wp2_with fail;go_loopw [15] (fun Z wr=>∃k:Nat,k<=n/\Z=.int .i64 k/\GM w wr w.heap.size G n K B (turnTo M k 0)) (fun Z _=>n - (intOf Z).toNat)
 case atStart=>exact⟨0,Nat.zero_le _,rfl,Y.o⟩
 case round=>
  obtain⟨k,hk,rfl,f⟩:=hrel;have S:=Hi f;clear f;by_cases H:k<n
  .
   obtain⟨r,m⟩:∃r,rs[k]?=some r:=⟨rs[k]'(by have:=HN.o;omega),gE _⟩;have l:=U.o.below S.o.base;obtain⟨b,ad,rfl,ae,d0⟩:=l.at m;have q1:((k:Int)<(n:Int)):=by omega
   have I:=Hi m;clear l m;go_wp2_with fail;clear d0;go_loopw [21] (fun jv wi=>∃j:Nat,j<=W/\jv=.int .i64 j/\GM w wi w.heap.size G n K B (turnTo M k j)) (fun jv _=>W - (intOf jv).toNat)
   case atStart=>exact⟨0,Nat.zero_le _,rfl,S.o⟩
   case round=>
    obtain⟨j,hj,rfl,f⟩:=hrel;have J:=Hi f;clear f;by_cases af:j<W
    .
     obtain⟨g,hg⟩:∃g,B[j]?=some g:=⟨B[j]'(by have:=p.o;omega),gE _⟩;have l:=U.o.below J.o.base;obtain⟨d,L⟩:=l.get I.o;obtain⟨e,N⟩:∃e,r.ts[j]?=some e:=⟨r.ts[j]'(by omega),gE _⟩;obtain⟨rb,ro,P,ag,d0,d1,d2⟩:=d.at N;have s:=d.get N;have Q:=HK.o r (mO I.o) e (mO N);have s0:=J.o.cell hg;obtain⟨x,y,z,c0,c1,c2,f0,f1,f2⟩:=J.o.at hg H;have aa:O (GM w (set3 wr g k e.x e.y e.z) w.heap.size G n K B (turnTo M k (j+1))):=Hi (by
      refine(J.o.put lZ hg H s.1 (s.2.1.mono Q) T).congr (fun c i=>?_);have ab:M k j=e.q:=by rw[X.o];simp[List.getD,I.o,MR.q_at N]
      simp only[updM,turnTo];by_cases h1:c=j/\i=k
      . obtain⟨rfl,rfl⟩:=h1
        rw[if_pos ⟨rfl,rfl⟩,if_pos (.inr ⟨rfl,by omega⟩),ab]
      .
       rw[if_neg h1];by_cases R:i<k∨(i=k/\c<j)
       . rw[if_pos R,if_pos (by omega)]
       . rw[if_neg R,if_neg (by omega)])
     obtain⟨o1,o2,o3⟩:=s.1.one;have ah:=Qao prog o1;have ai:=Qao prog o2;have aj:=Qao prog o3;have q2:((j:Int)<(W:Int)):=by omega
     have q3:((j:Int)<(r.ts.length:Int)):=by omega
     rw[P];clear l d L N s Q o1 o2 o3 P;go_wp2_with fail;go_region;go_wp2;go_roundw
     case rel=>exact⟨j+1,by omega,by go_num,aa.o.below bR.drew⟩
     case measure=>simp[intOf];omega
    .
     obtain rfl:j=W:=by omega
     have HE:O (GM w wr w.heap.size G n K B (turnTo M (k+1) 0)):=Hi (by
      refine J.o.congr (fun c i=>?_);simp only[turnTo];by_cases R:i<k∨(i=k/\c<j)
      . rw[if_pos R,if_pos (by omega)]
      .
       rw[if_neg R];by_cases h3:i<k+1
       .
        obtain rfl:i=k:=by omega
        have L:=(U.o.get I.o).2;rw[if_pos (.inl h3),X.o];simp only[List.getD,List.getElem?_map,I.o,Option.map_some,Option.getD_some];rw[MR.q_beyond (by omega)]
       . rw[if_neg (by omega)])
     go_wp2;go_roundw
     case rel=>exact⟨k+1,by omega,by go_num,HE.o⟩
     case measure=>simp[intOf];omega
  .
   obtain rfl:k=n:=by omega
   obtain⟨C,t1,t2,t3,t4,t5⟩:=S.o.rows (fun r c hc=>if_neg (by omega));go_wp2;go_ret;refine⟨G,C,rfl,?_,?_,?_,?_,S.o.base⟩
   . rw[t1,p.o]
   . rw[<-p.o];exact t2
   . exact t3
   .
    rw[t5,p.o];apply List.map_congr_left;intro c _;funext i;simp only[turnTo,X.o,Nat.not_lt_zero,and_false,or_false]
end Go.Proofs.YtppkmifkpjkgpaaGreatDoor
