import Derived.Test.YtfgclhpgdanmfaaGreatDoorS39GivQ
namespace Go.Proofs.YtfgclhpgdanmfaaGreatDoor
set_option linter.defProp false
open Go.RowKit
open Go.Proofs.Tryz
set_option linter.unusedSimpArgs false
set_option linter.unusedVariables false
set_option maxHeartbeats 8000000
set_option maxRecDepth 1000000
def OZ{u:Vz}{g b i j:Nat}{x:Ac}(h:b≠g):(u.setCell ⟨g,i,none⟩ x).cell? ⟨b,j,none⟩=u.cell? ⟨b,j,none⟩:=bJ (gF u ⟨g,i,none⟩ x b h)
def OY(a1 a2 a3 al:Vx)(c1 c2 c3 cl N P b Q c E KA:Nat)(D:Ad)(y:Ap)(a:Ak)(vb:Aa)(vh:Vy)(cv ev bv:cW)(ls:AE)(vs:Ai)(w:Vz)(h:pG w a1 a2 a3 c1 c2 c3 N D y a vb vh cv ev bv)(hz:jL D y a)(cx:dW D y a 0 0)(hl:eO L3.cells w al cl ls)(gz:ls.length<=20)(cy:vs.length=ls.length)(cz:∀(i:Nat)(l:L3)(p:Aw),ls[i]?=some l->vs[i]?=some p->wH D.length l p)(bh:∀k i,Fits (pJ (vs.take k) i) KA)(bi:0<KA)(c0:KA<=100000000)(c4:qR P b Q c vb y.length a.length cv ev bv (pJ vs))(he:2*b+2*c+12<=E)(e1:2000000<=E)(e2:E<=10000000):
 Calls prog 13 #[.agg #[.slice a1 D.length c1,.slice a2 y.length c2,.slice a3 a.length c3],.slice al ls.length cl] w (pE w D.length y.length a.length (kC E) vb vh cv ev bv (pJ vs)):=by
 obtain⟨F,HZ,fp,HL,c5,c6,c7,fq,HE⟩:=Ih h hz cx hl cy cz bh c4 (cZ he (cZ e1 e2));have a4:=Hi (cZ bi c0);have n1:=h.fv.j;have n2:=h.fv.b;have n3:=h.fv.h;clear h hz cx hl cy cz bh c4 he e1 e2 bi c0;obtain⟨d,ai⟩:=nm w.heap.size;obtain⟨V0,aa⟩:=nm (((w.alloc (.cells #[.slice a1 D.length c1,.slice a2 y.length c2,.slice a3 a.length c3] 26)).alloc (.cells #[.slice none 0 0,.slice none 0 0,.slice none 0 0] 47)).alloc (.cells #[.int .i64 0,.int .i64 0] 41));have H:O (Bl w V0):=Hi (by rw[<-aa];exact(lN w _ _).alloc sO _);have aj:O (SB V0 d 26 #[.slice a1 D.length c1,.slice a2 y.length c2,.slice a3 a.length c3]):=Hi (by rw[<-aa,<-ai];exact((cK w _ _).alloc _).alloc _);have S:O (SB V0 (d+1) 47 #[.slice none 0 0,.slice none 0 0,.slice none 0 0]):=Hi (by rw[<-aa,<-ai];exact(ww w _ _ _).alloc _);have T:O (SB V0 (d+1+1) 41 #[.int .i64 0,.int .i64 0]):=Hi (by
  rw[<-aa,<-ai];have h:=ww (w.alloc (.cells #[.slice a1 D.length c1,.slice a2 y.length c2,.slice a3 a.length c3] 26)) (.cells #[.slice none 0 0,.slice none 0 0,.slice none 0 0] 47) 41 #[.int .i64 0,.int .i64 0];rw[bH]at h
  exact h)
 obtain⟨c8,fs,c9⟩:=Ib aa ai (Qa a1 a2 a3 c1 c2 c3 D y a V0 (F.o.gl.below H.o) (F.o.fr.below H.o) HZ.o fp.o);have G:w.heap.size<=d+1:=oO;clear aa ai;go_enter func13,ntmps13;go_wp2_with fail;rw[c8.o,fs.o];clear c8;go_fit c9.o;rintro e w1 ⟨rfl,bu⟩;obtain⟨V1,ak⟩:=nm (w1.alloc (.cells #[.int .i64 0,.int .i64 0] 41));have U:Bl V0 V1:=by rw[<-ak];exact bu.alloc bu.size _
 have L:=Hi (aj.o.below U aj.o.lt);obtain⟨x0,x1,x2⟩:=lQ L.o;have k0:V1.cell? ⟨w1.heap.size,0,none⟩=some (.int .i64 0):=by rw[<-ak];exact(cK w1 _ _).cell 0
 rw[<-ak]at x0 x1 x2 k0;obtain⟨da,am⟩:=Ia (H.o.trans (U.mono H.o.size)) U;obtain⟨db,dc⟩:=Ia (P9 a1 a2 a3 al c1 c2 c3 cl D.length y.length a.length ls V1 (HL.o.below da.o) n1 n2 n3 oO) ak;clear ak U bu L;go_wp2_with fail;rw[dc.o];go_fit db.o;rintro e w2 ⟨c,ft,rfl,dd,bw⟩;obtain⟨rfl,rfl⟩:c=0/\ft=0:=by
  rcases dd with ⟨h,_⟩|⟨_,⟨k,l,hk,_,hj,_⟩|⟨_,h1,h2⟩⟩
  . omega
  . obtain⟨p,hp⟩:∃p,vs[k]?=some p:=⟨vs[k]'(oC ((gZ hk).1) c5.o),gE _⟩;have h:=c6.o k l p hk hp;exact absurd ⟨by rw[h.j];omega,by rw[h.j];have:=h.lt;omega⟩ hj
  . exact⟨h1,h2⟩
 obtain⟨V,hV⟩:=nm (w2.alloc (.cells #[.int .i64 0,.int .i64 0] 41));have an:Bl V0 V:=am.o.trans ((show Below V1.heap.size V1 V by rw[<-hV];exact bw.alloc bw.size _).mono am.o.size);obtain⟨I,a5,ao,f⟩:=Ic (aj.o.below an aj.o.lt) (S.o.below an S.o.lt) (T.o.below an T.o.lt) (H.o.trans (an.mono H.o.size));clear x0 x1 x2 k0;obtain⟨x0,x1,x2⟩:=lQ I.o;have k0:V.cell? ⟨w2.heap.size,0,none⟩=some (.int .i64 0):=by rw[<-hV];exact(cK w2 _ _).cell 0
 have de:=Hi hV;rw[<-hV]at x0 x1 x2 k0;have df:=Hi (Rm a1 a2 a3 al c1 c2 c3 cl D.length y.length a.length KA ls vs V (F.o.gl.below f.o) (HL.o.below f.o) oO n1 c5.o c6.o a4.o.1 (oB a4.o) c7.o);clear dd bw hV an aj S T c9 db da am dc;go_wp2_with fail;rw[de.o];clear k0 x0 x1 x2;go_fit df.o;rintro e w3 ⟨⟨ga,Na,ua,dg,rfl,dh,di,dj⟩,ap⟩;obtain rfl:N=Na:=by rw[dg];exact F.o.n.symm
 have bx:O (RB w3 ga N KA (pJ vs) ua):=Hi ⟨dh,di,dj⟩;obtain⟨bz,dk,dl⟩:=Ib ap (f.o.trans (ap.mono f.o.size)) (I.o.below ap I.o.lt);have dm:=Hi ((F.o.below dk.o).Cc bx.o fq.o HE.o.1 HE.o.2.1 (oB HE.o) a4.o.2);obtain⟨x0,x1,x2⟩:=lQ dl.o;clear dg dh di dj ap df de;go_wp2_with fail;clear x0 x1 x2;go_fit dm.o;rintro e w4 ⟨b0,b1⟩;have M:=Hi (bz.o.trans (b1.mono bz.o.size));obtain⟨dn,bj,dp⟩:=Ib (f.o.trans (M.o.mono f.o.size)) (bx.o.below b1) (I.o.below M.o I.o.lt);clear b1 dm bx dl dk bz;rcases b0 with ⟨he,b2⟩|⟨he,b2⟩|⟨gm,us,m,rfl,fu,aq,bk,bl,a6⟩
 rotate_left 2
 .
  obtain⟨KM,ab⟩:=nm (kC E);have bm:1<=KM/\KM<=220000200:=by have:=HE.o;rw[<-ab];simp only[kC];omega
  have b3:=aq.FY a6 (by rw[ab];exact bm.1);obtain⟨um,dq⟩:∃um,us.map (fun t=>{ t with k:=kC E })=um:=⟨_,rfl⟩;rw[dq,ab]at b3;rw[ab]at a6;obtain⟨b4,dr,ds,fw,fx⟩:=Id b3 bk bl a6 ab;obtain⟨KS,b5⟩:∃KS,KS=2*(8388611+(2*KM+1))+1:=⟨_,rfl⟩;obtain⟨KP,b6⟩:∃KP,KP=4194305+(KS+4194305+1):=⟨_,rfl⟩;obtain⟨KQ,dt⟩:∃KQ,KQ=24*(8388611+KP+1)+1:=⟨_,rfl⟩;obtain⟨KH,du⟩:∃KH,KH=KA+KQ+1:=⟨_,rfl⟩;have ad:O (KP<=2500000000/\KA+KQ<68719476000/\0<KH/\KH<=274877906944):=Hi (oB a4.o);obtain⟨b7,b8⟩:=Ia (cZ b5 (cZ b6 (cZ dt du))) ((F.o.below dn.o).Da 0 (cJ _) (B':=0) (v:=.slice (some ⟨gm,0,none⟩) N N) ⟨gm,um,rfl,cJ _,b4.o⟩ b5 oO b6);obtain⟨t,ht⟩:∃t:cW,(fun i=>cv i*(fV vb m i - ev i))=t:=⟨_,rfl⟩;rw[ht]at b8;have HT:=Hi ht;obtain⟨x0,x1,x2⟩:=lQ dp.o;clear fu aq bk bl a6 b3 dq ab bm b5 b6 dt du ht;go_wp2_with fail;clear x0 x1 x2;go_fit b8.o;rintro e w5 ⟨_,rfl,a7,gt,ts,rfl,_,dv⟩;obtain⟨b9,ar⟩:=Ia dv (M.o.trans (a7.mono M.o.size));obtain⟨dw,bn,bo,dx⟩:=Ic (f.o.trans (ar.o.mono f.o.size)) (bj.o.below a7) (b4.o.below a7) (I.o.below ar.o I.o.lt);have cb:=Hi ((F.o.below dw.o).C9 0 (cJ _) (B':=0) (v:=.slice (some ⟨gt,0,none⟩) y.length y.length) ⟨gt,ts,rfl,cJ _,b9.o⟩ b7.o.2.2.1 ad.o.1);obtain⟨p,hp⟩:∃p:cW,Giv.putF y.length (dP vb y.length vh) t=p:=⟨_,rfl⟩;rw[hp]at cb;have HP:=Hi hp;obtain⟨x0,x1,x2⟩:=lQ dx.o;clear dv a7 hp bj b4 dp dn M b8;go_wp2_with fail;clear x0 x1 x2;go_fit cb.o;rintro e W ⟨_,rfl,au,gp,ps,rfl,_,dy⟩;obtain⟨dz,ea,av⟩:=Ib dy (b9.o.below au) (ar.o.trans (au.mono ar.o.size));obtain⟨ae,bp,eb,cc⟩:=Ic (f.o.trans (av.o.mono f.o.size)) (bn.o.below au) (bo.o.below au) (I.o.below av.o I.o.lt);clear dy au bn bo dx dw ar cb b9;have cd:=B3 a.length oO W;obtain⟨MC,ce⟩:=nm (((List.replicate a.length FE.zero).flatMap FE.cells).toArray);rw[ce]at cd;obtain⟨V6,a8⟩:=nm (W.alloc (.cells MC 99));have cf:Bl W V6:=by rw[<-a8];exact(ac _ _).alloc lZ _
  have ec:O (RB V6 W.heap.size a.length KH (fun _=>0) (List.replicate a.length FE.zero)):=Hi (by rw[<-a8];exact RB.new W a.length KH MC ce.symm ad.o.2.2.1);obtain⟨fy,fz⟩:=Ia cf (cc.o.below cf cc.o.lt);have k2:W.cell? ⟨d,2,none⟩=some (.slice a3 a.length c3):=by
   have h:=cc.o.cell 2
   simpa using h
  have k3:V6.cell? ⟨d,2,none⟩=some (.slice a3 a.length c3):=by
   have h:=fz.o.cell 2
   simpa using h
  obtain⟨gh,cg⟩:=nm W.heap.size;have gb:=Hi cg;rw[cg]at ec cd;rw[a8]at cd;clear cf a8 ce cg;go_wp2_with fail;clear k2 k3;go_loopw [60] (fun iv wr=>∃(k:Nat)(us:Ah),k<=a.length/\iv=.int .i64 k/\RB wr gh a.length KH (i9 (tZ vh (pJ vs) p) k) us/\Below W.heap.size W wr) (fun iv _=>a.length - (intOf iv).toNat)
  case atStart=>
   refine⟨0,List.replicate a.length FE.zero,oO,rfl,?_,fy.o⟩;have e:i9 (tZ vh (pJ vs) p) 0=fun _=>0:=funext fun i=>by unfold i9;rw[aH oO]
   rw[e];exact ec.o
  case round=>
   obtain⟨k,us,hk,rfl,aq,ed⟩:=hrel;obtain⟨ee,HB⟩:=Ia aq ed;clear aq ed;by_cases ch:k<a.length
   .
    obtain⟨h,hh⟩:∃h,a[k]?=some h:=⟨a[k],gE ch⟩;obtain⟨r,hr⟩:∃r,vh[k]?=some r:=⟨vh[k]'(oB F.o.fv.lh),gE (oB F.o.fv.lh)⟩;obtain⟨j,hj,g0,ci⟩:=(F.o.fv.vh k h r hh hr).ex;have a9:=Hi (ae.o.trans (HB.o.mono ae.o.size));obtain⟨ap,g4,rfl,g5,d0,d1,d2⟩:=(F.o.fr.h.below a9.o).sJ hh;rw[hj]at d0;obtain⟨X,hX⟩:=nm (wr.alloc (.cells #[.int .i64 j,.int .i64 h.w,.string h.q] 74));have ef:Bl wr X:=by rw[<-hX];exact(ac _ _).alloc lZ _
    have eg:=Uc hX;obtain⟨i0,i1,i2,-⟩:=zc eg.o;rw[<-hX]at i0 i1 i2;have eh:r<N:=by have:=F.o.n;rw[ci];split<;>omega
    have gc:O ((if h.w=1 then 2*(j:Int) else 2*(j:Int)+1)=(r:Int)):=Hi (by rw[ci];split<;>simp);obtain⟨HR,ei,ej,L⟩:=Ic hr (Iy j h.w h.q X oO) hX ef;have q1:((k:Int)<(a.length:Int)):=oO;have q2:((r:Int)<(N:Int)):=oO;clear hh hr hj ci hX ef;go_wp2_with fail;rw[ej.o];clear i0 i1 i2 d0 d1 d2;go_fit ei.o;rintro e w8 ⟨rfl,cj⟩;rw[gc.o];obtain⟨Y8,ck⟩:=nm w8.drew;have ek:Bl w8 Y8:=by rw[<-ck];exact(ac _ _).drew
    have cm:Bl wr Y8:=(L.o.trans (cj.mono L.o.size)).trans (ek.mono (L.o.trans (cj.mono L.o.size)).size);have ba:Bl W Y8:=HB.o.trans (cm.mono HB.o.size);obtain⟨ta,em⟩:=bp.o.get eh;obtain⟨tp,en⟩:=dz.o.get eh;obtain⟨eo,ep,eq,er,gd,es,et⟩:=If em en (bp.o.below ba) (dz.o.below ba) (ee.o.below cm) ba ck;clear cj ek cm ba em en ck ei ej L eg;go_wp2_with fail;refine ou 12 (fun j=>some (67+j)) ?_;rw[et.o];refine cV [] ?_;refine cV [] ?_;refine cV [] ?_;refine cV [] ?_;refine cV [2,3] ?_;refine gJ (c:=?_) [4] (fun w hb=>?_) ?_;rotate_left
    . intro K hK;obtain⟨e0,e1,e2⟩:=(eq.o.below hb).cells eo.o;go_simp;exact hK
    refine cV [] ?_;refine cV [] ?_;refine cV [6,7] ?_;refine gJ (c:=?_) [8] (fun w hb=>?_) ?_;rotate_left
    . intro K hK;obtain⟨e0,e1,e2⟩:=(er.o.below hb).cells ep.o;go_simp;exact hK
    refine fP (φ:=FF (pJ vs r - p r) (KA+KQ+1)) [5,9] (od _ _) (fun w hb=>?_) ?_
    . intro K hK;go_simp;exact fB (FF.qW ((eq.o.below hb).fe eo.o) ((er.o.below hb).fe ep.o) ad.o.2.1) hK
    refine cV [0,1] ?_;refine qr aL (by rfl) (by rfl) kK (fun x4 hb=>?_);simp only[nE,cH,bO,sR,Act.put,aU,cN,bX,Nat.reduceAdd,Nat.reduceBEq,gO,fS];intro g6 aw K hK;rw[<-b7.o.2.2.2]at aw;obtain⟨x',y',z',rfl⟩:=aw.oe;obtain⟨o1,o2,o3⟩:=aw.1.one;have ge:=ns prog o1;have gf:=ns prog o2;have gg:=ns prog o3;have af:=gd.o.below hb;obtain⟨y0,y1,y2,d0,d1,d2,_⟩:=af.at ch;have f0:=af.blk.blk.free (k*3);have f1:=af.blk.blk.free (k*3+1);have f2:=af.blk.blk.free (k*3+2);have gj:=Hi (af.set ch aw (i9 (tZ vh (pJ vs) p) (k+1)) (fun l=>by
     unfold i9;by_cases e:l=k
     . subst e;rw[aN oO,aN rfl];unfold tZ;rw[show vh.getD l 0=r by rw[aC,HR.o];rfl]
     . rw[aH e];by_cases e2:l<k
       . rw[aN oO,aN e2]
       . rw[aH oO,aH e2]))
    have gk:=Hi (fU (es.o.trans (hb.mono es.o.size)) ((((cX gh x4).setCell (k*3) x').setCell (k*3+1) y').setCell (k*3+2) z') (cO gb.o));clear o1 o2 o3 af aw hb;go_simp;refine hK _ _ ?_;clear hK d0 d1 d2 f0 f1 f2 ge gf gg;go_wp2;go_roundw
    case rel=>exact⟨k+1,_,oO,by go_num,gj.o,gk.o⟩
    case measure=>exact mI
   .
    obtain rfl:k=a.length:=oO;obtain⟨a9,z⟩:=Ia (ae.o.trans (HB.o.mono ae.o.size)) (ea.o.below HB.o);have cn:=Nf (some ⟨gt,0,none⟩) y.length KP ts wr (F.o.gl.below a9.o) (by have:=z.o.blk.row;rw[z.o.len]at this;exact this) (fun u hu=>by obtain⟨i,hi⟩:=dM hu;exact(z.o.val i u hi).2) (oB ad.o) (by rw[z.o.len];omega);rw[z.o.len]at cn;have ax:=Hi cn;clear cn;go_wp2_with fail;go_fit ax.o;rintro e w9 ⟨⟨g2,tb,rfl,⟨eu,ew⟩,ey,ez⟩,cp⟩;have gn:O (mJ y.length t tb):=Hi ⟨eu,fun i s hi=>by
     have e3:=(gZ hi).1;obtain⟨u,hu⟩:=z.o.get (k:=i) oO;have:=ez i u s hu hi;rw[(z.o.val i u hu).1]at this
     exact this⟩
    obtain⟨T,cq⟩:=Ia ey (HB.o.trans (cp.mono HB.o.size));obtain⟨e4,A⟩:=Ia (ae.o.trans (cq.o.mono ae.o.size)) (ee.o.below cp);have cr:=Nf (some ⟨gh,0,none⟩) a.length KH us w9 (F.o.gl.below e4.o) (by have:=A.o.blk.row;rw[A.o.len]at this;exact this) (fun u hu=>by obtain⟨i,hi⟩:=dM hu;exact(A.o.val i u hi).2) (oB ad.o) (by rw[A.o.len];omega);rw[A.o.len]at cr;have e5:=Hi cr;have gq:O (w.heap.size<=g2):=Hi (aE a9.o.size ew);clear cr eu ew ey ez cp ax;go_wp2_with fail;go_fit e5.o;rintro e bb ⟨⟨g3,th,rfl,⟨e6,e7⟩,e8,e9⟩,ay⟩;have gr:O (mJ a.length (tZ vh (pJ vs) p) th):=Hi ⟨e6,fun i s hi=>by
     have e3:=(gZ hi).1;obtain⟨u,hu⟩:=A.o.get (k:=i) oO;have:=e9 i u s hu hi;rw[(A.o.val i u hu).1]at this;unfold i9 at this;rw[aN oO]at this
     exact this⟩
    have cs:=Hi e8;have az:=Hi (T.o.below ay T.o.lt);have a0:=Hi (cq.o.trans (ay.mono cq.o.size));obtain⟨Z,hZ⟩:=nm (bb.alloc (.cells #[.slice (some ⟨g2,0,none⟩) y.length y.length,.slice (some ⟨g3,0,none⟩) a.length a.length] 45));have bc:Bl bb Z:=by rw[<-hZ];exact(ac _ _).alloc lZ _
    have bd:=Uc hZ;obtain⟨bq,br⟩:=Ia (cs.o.below bc cs.o.lt) (az.o.below bc az.o.lt);have be:Bl W Z:=a0.o.trans (bc.mono a0.o.size);obtain⟨gy,ct⟩:=Ia be (av.o.trans (be.mono av.o.size));obtain⟨bf,fa,gs⟩:=Ib (f.o.trans (ct.o.mono f.o.size)) (eb.o.below be) hZ;obtain⟨z0,z1,-⟩:=zc bd.o;have gu:O (∀u,Below Z.heap.size Z u->Calls prog 49 #[.slice (some ⟨gm,0,none⟩) N N] u (fun e w'=>(∃(g:Nat)(ss:Ad),e=.returned (.slice (some ⟨g,0,none⟩) D.length D.length)/\ss.length=D.length/\SB w' g 34 (ss.flatMap S2.cells).toArray/\mQ m ss/\w.heap.size<=g)/\Below u.heap.size u w')):=Hi (fun u hu=>by
     have hr:=(fa.o.below hu).Qs;have hn:=F.o.n;have h1:=VY (some ⟨gm,0,none⟩) N D.length KM ⟨some ⟨gm,0,none⟩,N,um⟩ u (F.o.gl.below (bf.o.trans (hu.mono bf.o.size))) (by rw[hn];exact hr.1) rfl rfl (oC b7.o ad.o) n1;rw[hn]at h1;refine h1.mono ?_;rintro e w' ⟨⟨g,ss,rfl,hl,a,ht,hg⟩,hb⟩;refine⟨⟨g,ss,rfl,hl,a,fun i s hi=>?_,aE (bf.o.trans (hu.mono bf.o.size)).size hg⟩,hb⟩;have e3:=(gZ hi).1;have:=ht i s hi;rw[hr.2 (2*i) oO,hr.2 (2*i+1) oO]at this
     exact this)
    have gv:O (w.heap.size<=g3):=Hi (aE e4.o.size e7);clear e6 e7 e8 e9 ay hZ bc be e5 T az cs z A;go_wp2_with fail;rw[gs.o];obtain⟨S0,gw⟩:=nm bb.heap.size;have fb:d+1+1<S0:=by have h1:=ao.o.lt;have h2:=av.o.size;have h3:=a0.o.size;omega
    have fc:S0≠d+1:=oO;have fd:S0≠d+1+1:=oO;rw[gw]at z0 z1 bd ⊢;clear fb;have ag:O (Bl Z Z):=Hi bR;go_region_held3 (fun v=>v.cell? ⟨S0,0,none⟩=some (.slice (some ⟨g2,0,none⟩) y.length y.length)/\v.cell? ⟨S0,1,none⟩=some (.slice (some ⟨g3,0,none⟩) a.length a.length)) ((first|(simp [*];done)|(simp only[OZ fc,OZ fd,z0,z1,and_self];done)|go_keep)) (first
     |(
      go_at_call 49;apply cM;apply gu.o;(first|exact ag.o|exact ag.o.drew);rintro e ah ⟨⟨g1,ss,rfl,ff,fg,fh,fi⟩,bt⟩;have Y:O (Bl Z ah):=Hi ((by first|exact ag.o|exact ag.o.drew:Bl Z _).trans (bt.mono (by first|exact ag.o.size|exact ag.o.drew.size)));obtain⟨S,ax,gx⟩:=Ib fg (cZ ff fh) fi;clear bt z0 z1 ff fg fh fi;obtain⟨z0,z1,-⟩:=zc (bd.o.below Y.o bd.o.lt);have cu:=Hi (ct.o.trans (Y.o.mono ct.o.size));obtain⟨x,B⟩:=Ia (a5.o.below cu.o a5.o.lt) (ao.o.below cu.o ao.o.lt);obtain⟨y0,y1,y4,-⟩:=zc x.o;obtain⟨y2,y3,-⟩:=zc B.o;have fj:ah.frozen? ⟨d+1,0,none⟩=false:=x.o.free 0;have fk:ah.frozen? ⟨d+1,1,none⟩=false:=x.o.free 1;have fl:ah.frozen? ⟨d+1,2,none⟩=false:=x.o.free 2;have fm:ah.frozen? ⟨d+1+1,0,none⟩=false:=B.o.free 0;have fn:ah.frozen? ⟨d+1+1,1,none⟩=false:=B.o.free 1;have cw:=Hi (f.o.trans ((cu.o).mono f.o.size))
      skip)
     |fail)
    clear z0 z1 y0 y1 y2 y3 y4 fj fk fm fn fl;go_wp2;have R:=Lr (x1:=.slice (some ⟨g1,0,none⟩) D.length D.length) (x2:=.slice (some ⟨g2,0,none⟩) y.length y.length) (x3:=.slice (some ⟨g3,0,none⟩) a.length a.length) (y1:=.int .i64 0) (y2:=.int .i64 0) (by omega:d+1≠d+1+1) x.o B.o;refine bK (L5 rfl _ _ (d+1) (d+1+1) 47 41 #[.slice (some ⟨g1,0,none⟩) D.length D.length,.slice (some ⟨g2,0,none⟩) y.length y.length,.slice (some ⟨g3,0,none⟩) a.length a.length] #[.int .i64 0,.int .i64 0] (0,0) (0,0) _ _ rfl R.1 rfl R.2.1 underlying47 rfl Lq underlying41 rfl iy) rfl ?_;have J:=((((cw.o.setCell (p:=⟨d+1,0,none⟩) G (.slice (some ⟨g1,0,none⟩) D.length D.length)).setCell (p:=⟨d+1,1,none⟩) G (.slice (some ⟨g2,0,none⟩) y.length y.length)).setCell (p:=⟨d+1,2,none⟩) G (.slice (some ⟨g3,0,none⟩) a.length a.length)).setCell (p:=⟨d+1+1,0,none⟩) (no G) (.int .i64 0)).setCell (p:=⟨d+1+1,1,none⟩) (no G) (.int .i64 0);have s2:=br.o.below Y.o br.o.lt;have s3:=bq.o.below Y.o bq.o.lt;refine⟨.inr (.inr ⟨g1,g2,g3,ss,tb,th,m,t,rfl,ax.o.1,R.2.2 _ _ _ S.o (S.o.unlike x.o dD) (S.o.unlike B.o dD),ax.o.2,R.2.2 _ _ _ s2 (s2.unlike x.o dD) (s2.unlike B.o dD),gn.o,R.2.2 _ _ _ s3 (s3.unlike x.o dD) (s3.unlike B.o dD),by rw[HP.o];exact gr.o,HT.o.symm,by rw[F.o.n];exact dr.o,by rw[F.o.n];exact ds.o,(by rw[F.o.n,fx.o];exact fw.o),gx.o,gq.o,gv.o⟩),J⟩
 obtain⟨C,hC⟩:∃C:Int,(8:Int)=C:=⟨_,rfl⟩
 rotate_left 1
 obtain⟨C,hC⟩:∃C:Int,(9:Int)=C:=⟨_,rfl⟩
 all_goals
  rw[hC]at he;subst he;have e0:(C == 0)=false:=by rw[<-hC];rfl
  obtain⟨HC,fo⟩:=Ia hC b2;clear b2 hC;obtain⟨x,B⟩:=Ia (a5.o.below M.o a5.o.lt) (ao.o.below M.o ao.o.lt);obtain⟨y0,y1,y4,-⟩:=zc x.o;obtain⟨y2,y3,-⟩:=zc B.o;have fj:w4.frozen? ⟨d+1,0,none⟩=false:=x.o.free 0;have fk:w4.frozen? ⟨d+1,1,none⟩=false:=x.o.free 1;have fl:w4.frozen? ⟨d+1,2,none⟩=false:=x.o.free 2;have fm:w4.frozen? ⟨d+1+1,0,none⟩=false:=B.o.free 0;have fn:w4.frozen? ⟨d+1+1,1,none⟩=false:=B.o.free 1;have cw:=Hi (f.o.trans ((M.o).mono f.o.size));go_wp2;have R:=Lr (x1:=.slice none 0 0) (x2:=.slice none 0 0) (x3:=.slice none 0 0) (y1:=.int .i64 C) (y2:=.int .i64 0) (by omega:d+1≠d+1+1) x.o B.o;refine bK (L5 rfl _ _ (d+1) (d+1+1) 47 41 #[.slice none 0 0,.slice none 0 0,.slice none 0 0] #[.int .i64 C,.int .i64 0] (0,0) (0,0) _ _ rfl R.1 rfl R.2.1 underlying47 rfl Lq underlying41 rfl iy) rfl ?_;have J:=((((cw.o.setCell (p:=⟨d+1,0,none⟩) G (.slice none 0 0)).setCell (p:=⟨d+1,1,none⟩) G (.slice none 0 0)).setCell (p:=⟨d+1,2,none⟩) G (.slice none 0 0)).setCell (p:=⟨d+1+1,0,none⟩) (no G) (.int .i64 C)).setCell (p:=⟨d+1+1,1,none⟩) (no G) (.int .i64 0)
  first
   |exact⟨.inl ⟨by rw[HC.o],by rw[F.o.n];exact fo.o⟩,J⟩
   |exact⟨.inr (.inl ⟨by rw[HC.o],by rw[F.o.n];exact fo.o⟩),J⟩
def OW(a1 a2 a3 bc:Vx)(c1 c2 c3 ct N u A:Nat)(js:Ad)(g:Ap)(hs:Ak)(vb:Aa)(vh:Vy)(B ev bv t:cW)(tb:Vt)(w:Vz)(h:pG w a1 a2 a3 c1 c2 c3 N js g hs vb vh B ev bv)(hz:jL js g hs)(bd:dW js g hs 0 0)(hr:mA w bc (iq tb))(hl:tb.length=g.length)(hq:∀(i:Nat)(s:Vs),tb[i]?=some s->il s.data.toList (t i)/\s.size<=1073741824/\Fits (t i) u)(hf:Rat)(be:il [49,47,50] hf)(bf:0<u)(bh:A=u+u+4194305)(d:24*(A+1)+100<68719476000):
 Calls prog 17 #[.agg #[.slice a1 js.length c1,.slice a2 g.length c2,.slice a3 hs.length c3],.slice bc g.length ct] w (fun e w'=>(∃s:Vs,e=.returned (.tuple #[.string s,.agg #[.int .i64 0,.int .i64 0]])/\iK s.data.toList (dot g.length t (fun i=>t i / B i)*hf))/\Below w.heap.size w w'):=by
 obtain⟨HG,HZ,b4,HR,HL,HQ,HK⟩:=If h hz bd hr hl hq (cZ bf (cZ bh d));have n2:=h.fv.b;have b5:=Hi be;clear h hz bd hr hl hq bf bh d be;obtain⟨B0,ad⟩:=nm w.heap.size;obtain⟨V0,L⟩:=nm ((w.alloc (.cells #[.slice a1 js.length c1,.slice a2 g.length c2,.slice a3 hs.length c3] 26)).alloc (.cells #[.int .i64 0,.int .i64 0] 41));have E:=Ub L;have al:=Ug L ad;have am:O (SB V0 (B0+1) 41 #[.int .i64 0,.int .i64 0]):=Hi (by rw[<-L,<-ad];exact ww w _ _ _);obtain⟨ae,b6,bi⟩:=Ib L ad (Qa a1 a2 a3 c1 c2 c3 js g hs V0 (HG.o.gl.below E.o) (HG.o.fr.below E.o) HZ.o b4.o);have bj:w.heap.size<=B0+1:=oO;clear L ad;go_enter func17,ntmps17;go_wp2_with fail;rw[ae.o,b6.o];clear ae;go_fit bi.o;rintro e w1 ⟨rfl,an⟩;obtain⟨M,C⟩:=nm (w1.alloc (.cells #[.int .i64 0,.int .i64 0] 41));have F:Bl V0 M:=by rw[<-C];exact an.alloc an.size _
 have k0:M.cell? ⟨w1.heap.size,0,none⟩=some (.int .i64 0):=by rw[<-C];exact(cK w1 _ _).cell 0
 obtain⟨ap,bk⟩:=Ia (al.o.below F al.o.lt) (am.o.below F am.o.lt);have x1:M.cell? ⟨B0,1,none⟩=some (.slice a2 g.length c2):=by
  have h:=ap.o.cell 1
  simpa using h
 have H:=Hi (E.o.trans (F.mono E.o.size));obtain⟨V,hV⟩:=nm (M.alloc (.cells #[.bool false,.slice none 0 0,.slice none 0 0] 99));have aq:Bl M V:=by rw[<-hV];exact(ac _ _).alloc lZ _
 have x2:V.cell? ⟨B0,1,none⟩=some (.slice a2 g.length c2):=by
  have h:=(ap.o.below aq ap.o.lt).cell 1
  simpa using h
 have ak:O (FB 0 1 V M.heap.size):=Hi ⟨_,_,_,by rw[<-hV];exact cK M _ _,Ma _⟩;have bl:=Hi aq;rw[<-hV,<-C]at x2;rw[<-C]at x1 k0;obtain⟨ae,b7⟩:=Ia hV C;have bm:M.heap.size=w1.heap.size+1:=by rw[<-C];exact bH _ _
 clear hV C aq F an bi al am;go_wp2_with fail
 try rw[b7.o]
 try rw[ae.o]
 obtain⟨G,hG⟩:=nm (w1.heap.size+1);have bn:=Hi (bm.trans hG);rw[bn.o]at ak;simp only[hG];clear x1 x2 k0 hG bm;go_loopw [29] (fun iv wr=>∃k:Nat,k<=g.length/\iv=.int .i64 k/\FB (dot k t (fun i=>t i / B i)) (k*(A+1)+1) wr G/\Below M.heap.size M wr) (fun iv _=>g.length - (intOf iv).toNat)
 case atStart=>exact⟨0,oO,rfl,by simpa [dot] using ak.o,bl.o⟩
 case round=>
  obtain⟨k,hk,rfl,bp,hb⟩:=hrel;obtain⟨HB,ar,af⟩:=Ib hb bp (H.o.trans (hb.mono H.o.size));clear hb bp;by_cases b8:k<g.length
  .
   obtain⟨b,au⟩:∃b,g[k]?=some b:=⟨g[k],gE b8⟩;obtain⟨s,av⟩:∃s,tb[k]?=some s:=⟨tb[k]'(oB HL.o),gE _⟩;obtain⟨bb,bo,rfl,cj,e0,e1,e2,e3,e4,e5⟩:=(HG.o.fr.b.below af.o).bar au;obtain⟨ab,ao,rfl,b9,t0⟩:=(HR.o.below af.o).cell k (.string s) (by unfold iq;rw[aP,av];rfl);obtain⟨bq,aw⟩:=Ia (HG.o.ce k b au) (HQ.o k s av);obtain⟨X,hX⟩:=nm (wr.alloc (.cells #[.int .i64 b.a,.int .i64 b.b,.string b.c,.string b.e,.string b.l,.string b.m] 72));have ag:Bl wr X:=by rw[<-hX];exact(ac _ _).alloc lZ _
   have v:=Uc hX;have t1:=ce ag b9 t0;rw[<-hX]at t1;obtain⟨P,br⟩:=Ia ag hX;have q1:((k:Int)<(g.length:Int)):=oO;have bt:=Hi (FF.DR (w:=X) (HG.o.gl.below (af.o.trans (ag.mono af.o.size))) aw.o.1 aw.o.2.1 aw.o.2.2 HK.o.1);clear hX ag au av;go_wp2_with fail;rw[br.o];clear e0 e1 e2 e3 e4 e5 t0 t1;refine fB bt.o ?_;intro v4 w4 hb hv;obtain⟨x',y',z',rfl⟩:=hv.oe;obtain⟨o1,o2,o3⟩:=hv.1.one;have ax:=ns prog o1;have ay:=ns prog o2;have az:=ns prog o3;obtain⟨U,hU⟩:=nm (w4.alloc (.cells #[x',y',z'] 99));have ah:Bl w4 U:=by rw[<-hU];exact(ac _ _).alloc lZ _
   have a0:=Uc hU;have cb:=Hi (hv.below ah);have bu:=(P.o.trans (hb.mono P.o.size)).trans (ah.mono (P.o.trans (hb.mono P.o.size)).size);obtain⟨Q,I,cc⟩:=Ib ((v.o.below hb v.o.lt).below ah (v.o.below hb v.o.lt).lt) bu hU;clear hb hv o1 o2 o3 ah bu hU v P br bt;go_wp2_with fail
   try rw[cc.o]
   obtain⟨X0,a4⟩:=nm wr.heap.size;obtain⟨T0,a5⟩:=nm w4.heap.size;rw[a4]at Q;rw[a5]at a0
   try rw[a4]
   try rw[a5]
   clear ax ay az;have q:Bl U U.drew:=bR.drew;obtain⟨x,y,z,r,R⟩:=ar.o.below (I.o.trans (q.mono I.o.size));obtain⟨a6,S,T,W,Y⟩:=Id R r (r.cell 0) (r.cell 1) (r.cell 2);simp only[aK,aI,aM]at T W Y;have Z:=Hi (a0.o.below q a0.o.lt);obtain⟨a7,a8,a9⟩:=Ib (Z.o.cell 0) (Z.o.cell 1) (Z.o.cell 2);simp only[aK,aI,aM]at a7 a8 a9;have bw:=Hi (Q.o.below q Q.o.lt);have bx:=Hi (bw.o.cell 2);simp only[aK,aI,aM]at bx;obtain⟨bz,J⟩:=Ia (cb.o.below q) (HB.o.trans ((I.o.trans (q.mono I.o.size)).mono HB.o.size));obtain⟨f,b0⟩:=Ia (H.o.trans (J.o.mono H.o.size)) (ar.o.below (I.o.trans (q.mono I.o.size)));have aa:k*(A+1)+1+A<68719476000:=by have:=HK.o;have h2:(k+1)*(A+1)<=24*(A+1):=cD _ oO;rw[gV]at h2;omega
   have ai:=Hi aa;have b1:O (u+u<68719476000/\u+u+4194305<68719476000):=Hi (oB HK.o);have cd:O (k*(A+1)+1+(u+u+4194305)<68719476000):=Hi (by have h1:=ai.o;have h2:=HK.o.2.1;omega);clear r R q aa a4 a5;refine ou 9 (fun j=>some (39+j)) ?_;refine gJ (c:=?_) [] (fun w hb=>?_) ?_;rotate_left
   . intro K d;obtain⟨d0,d1,d2⟩:=Jb hb S.o.lt T.o W.o Y.o;go_simp;exact d
   refine gJ (c:=?_) [] (fun w hb=>?_) ?_;rotate_left
   . intro K d;obtain⟨d0,d1,d2⟩:=Jb hb Z.o.lt a7.o a8.o a9.o;go_simp;exact d
   refine gJ (c:=?_) [] (fun w hb=>?_) ?_;rotate_left
   . intro K d;obtain⟨d0,d1,d2⟩:=Jb hb Z.o.lt a7.o a8.o a9.o;go_simp;exact d
   refine fP (φ:=FF (t k*t k) (u+u)) [1,2] (od _ _) (fun w hb=>?_) ?_
   . intro K d;go_simp;exact fB ((bz.o.below hb).tC (bz.o.below hb) b1.o.1) d
   refine cV [] ?_;refine gJ (c:=?_) [4] (fun w hb=>?_) ?_;rotate_left
   . intro K d;have d2:=ce hb bw.o.lt bx.o;go_simp;exact d
   refine fP (φ:=FF (B k) 4194305) [5] (od _ _) (fun w hb=>?_) ?_
   . intro K d;go_simp;exact fB (Mb (HG.o.gl.below (f.o.trans (hb.mono f.o.size))) bq.o.1 bq.o.2.2.1 dD dD) d
   refine fP (φ:=FF (t k*t k / B k) (u+u+4194305)) [3,6] (od _ _) (fun w hb=>?_) ?_
   . intro v3 h3 v6 h6;intro K d;go_simp;exact fB (h3.over h6 b1.o.2) d
   refine fP (φ:=FF (dot k t (fun i=>t i / B i)+t k*t k / B k) (k*(A+1)+1+(u+u+4194305)+1)) [0,7] (od _ _) (fun w hb=>?_) ?_
   . intro v7 h7;intro K d;go_simp;exact fB ((a6.o.below hb).DP h7 cd.o) d
   refine qr aL (by rfl) (by rfl) kK (fun x2 hb=>?_);simp only[nE,cH,bO,sR,Act.put,aU,cN,bX,Nat.reduceAdd,Nat.reduceBEq,gO,fS];intro v3 _ v6 _ v7 _ v8 h8 K d;obtain⟨x',y',z',rfl⟩:=h8.oe;obtain⟨o1,o2,o3⟩:=h8.1.one;have ax:=ns prog o1;have ay:=ns prog o2;have az:=ns prog o3;have D:=S.o.below hb S.o.lt;have f0:=D.free 0;have f1:=D.free 1;have f2:=D.free 2;have c0:=D.cell 0;have c1:=D.cell 1;have c2:=D.cell 2;simp only[aK,aI,aM]at c0 c1 c2;obtain⟨b2,ba⟩:=Ia ((b0.o.below hb).set h8) (J.o.trans (hb.mono J.o.size));clear o1 o2 o3 D h8 hb;go_simp;refine d _ _ ?_;clear d c0 c1 c2 f0 f1 f2 ax ay az;go_wp2;go_roundw
   case rel=>
    have ho:=((((cX G x2).setCell 0 x').setCell 1 y').setCell 2 z');refine⟨k+1,oO,by go_num,?_,fU ba.o ho (cO bn.o)⟩;have e1:dot (k+1) t (fun i=>t i / B i)=dot k t (fun i=>t i / B i)+t k*t k / B k:=by
     show dot k t (fun i=>t i / B i)+t k*(t k / B k)=_
     rw[lE,lE,wR]
    rw[e1,show (k+1)*(A+1)+1=k*(A+1)+1+(u+u+4194305)+1 by rw[gV,HK.o.2.1];omega];exact b2.o
   case measure=>exact mI
  .
   obtain rfl:k=g.length:=oO;have q:Bl wr wr.drew:=bR.drew;obtain⟨x,y,z,r,R⟩:=ar.o.below q;obtain⟨a6,S,T,W,Y⟩:=Id R r (r.cell 0) (r.cell 1) (r.cell 2);simp only[aK,aI,aM]at T W Y;have J:=Hi (HB.o.trans (q.mono HB.o.size));obtain⟨f,b3⟩:=Ia (H.o.trans (J.o.mono H.o.size)) (bk.o.below J.o bk.o.lt);have aa:g.length*(A+1)+1+13<68719476000:=by have:=HK.o;have h2:g.length*(A+1)<=24*(A+1):=cD _ n2;omega
   have ai:=Hi aa;have cf:O (g.length*(A+1)+1+13<=274877906944):=Hi (oB ai.o);clear r R q aa;go_wp2_with fail;refine ou 6 (fun j=>some (bif j == 5 then 4 else 49+j)) ?_;refine gJ (c:=?_) [] (fun w hb=>?_) ?_;rotate_left
   . intro K d;obtain⟨d0,d1,d2⟩:=Jb hb S.o.lt T.o W.o Y.o;go_simp;exact d
   refine fP (φ:=FF hf 13) [] (od _ _) (fun w hb=>?_) ?_
   . intro K d;go_simp;exact fB (Mb (HG.o.gl.below (f.o.trans (hb.mono f.o.size))) b5.o (n:=3) dD dD dD) d
   refine fP (φ:=FF (dot g.length t (fun i=>t i / B i)*hf) (g.length*(A+1)+1+13)) [0,1] (od _ _) (fun w hb=>?_) ?_
   . intro v1 h1;intro K d;go_simp;exact fB ((a6.o.below hb).tC h1 ai.o) d
   refine fP (φ:=TF (dot g.length t (fun i=>t i / B i)*hf)) [2] (TF.eL _) (fun w hb=>?_) ?_
   . intro v2 h2;intro K d;go_simp;exact fB (FF.uw (HG.o.gl.below (f.o.trans (hb.mono f.o.size))) h2 cf.o) d
   refine cV [] ?_;refine fP (φ:=TF (dot g.length t (fun i=>t i / B i)*hf)) [3] (TF.eL _) (fun w hb=>?_) ?_
   . intro v1 h1 K d;go_simp;exact d _ _ bR h1
   refine qr aL (by rfl) (by rfl) kK (fun x2 hb=>?_);simp only[nE,cH,bO,sR,Act.put,aU,cN,bX,Nat.reduceAdd,Nat.reduceBEq,gO,fS];intro v1 _ v2 _ v3 _ v5 h5 K d;obtain⟨s,rfl,hs⟩:=h5;obtain⟨cg,aj,ba⟩:=Ib hs (b3.o.below hb b3.o.lt) (f.o.trans (hb.mono f.o.size));obtain⟨y2,y3,-⟩:=zc aj.o;have ch:=aj.o.free 0;have ci:=aj.o.free 1;clear hb hs;go_simp;refine d _ _ ?_;clear d y2 y3 ch ci;go_wp2;refine bK (B7 rfl _ _ (B0+1) 41 #[.int .i64 0,.int .i64 0] (0,0) _ rfl ((aj.o.set 0 _).set 1 _) underlying41 rfl iy) rfl ?_;exact⟨⟨s,rfl,cg.o⟩,(ba.o.setCell (p:=⟨B0+1,0,none⟩) bj _).setCell (p:=⟨B0+1,1,none⟩) bj _⟩
def tW:iK [49,47,50] (1 / 2):=by
 have b:(1 / 2:Rat).num=1:=kK;have a:(1 / 2:Rat).den=2:=kK;refine⟨[49],?_,.inr ⟨by rw[a];decide,[50],?_,rfl⟩⟩
 . rw[b]
   exact⟨[49],.inr ⟨dD,[1],⟨by simp[Small],by simp[Trim],by simp[val]⟩,dD⟩,dD⟩
 . rw[a]
   exact .inr ⟨dD,[2],⟨by simp[Small],by simp[Trim],by simp[val]⟩,dD⟩
section
open Go Go.RowKit
def wz(P:Au)(ops:Af)(Q:Ab)(o:Oper)(N:Ar)(a:Act)(w:Vz):Prop:=
 ∀K:Ar,Shut (∀a' w',N a' w'->K a' w')->if Region.wanted o (yielded ops a.tmps)=true then Oper.wp P o a w K Q else K (a.put o.dst undef) w
section
variable {P:Au} {ops:Af} {Q:Ab} {R:Az}
def lj.pu(j:qF R){m n:Nat}{a:Act}{w0:Vz}{d:Ag}{Φ:AW}{i:Nat}{o:Oper}{c:Ac}{N:AB}(f:Vy)(h:∀w,R w0 w->N w)(k:lj R P ops Q m n a w0 d (Φ++ [Is c]))(l:Φ.length=i:=by simp only[cH,bO,aS,dJ,iU,Nat.reduceAdd];exact rfl)(p:ops[i]?=some o:=by simp only[aK,aI,aM];exact rfl)(q:oT ops i f=true:=by kernel_rfl)(e:∀w,iL d Φ w (fun b=>∀K:Ax,Shut (K c w)->if Region.wanted o (yielded ops b.tmps)=true then Oper.wp P o b w (fun g w'=>g.defers=b.defers/\K (left o.dst g) w') rQ else K undef w) f a=N w:=by intro w;simp only[iL,cH,bO,j5,ju,sR,Act.put,aU,cN,bX,Nat.reduceAdd,Nat.reduceBEq,gO,fS];exact rfl):lj R P ops Q m n a w0 d Φ:=
 lj.is j f l p q (fun w hb=>by rw[e w];exact h w hb) k
def lj.ca{m n:Nat}{a:Act}{w0:Vz}{c:Ag}{Φ:AW}{i:Nat}{o:Oper}{φ:Fact}{N:AB}(d:Vy)(g:nC R φ)(h:∀w,R w0 w->N w)(j:lj R P ops Q m n a w0 c (Φ++ [φ]))(k:Φ.length=i:=by simp only[cH,bO,aS,dJ,iU,Nat.reduceAdd];exact rfl)(l:ops[i]?=some o:=by simp only[aK,aI,aM];exact rfl)(p:oT ops i d=true:=by kernel_rfl)(e:∀w,iL c Φ w (fun b=>∀K:Ax,Shut (∀v w',R w w'->φ v w'->K v w')->if Region.wanted o (yielded ops b.tmps)=true then Oper.wp P o b w (fun f w'=>f.defers=b.defers/\K (left o.dst f) w') rQ else K undef w) d a=N w:=by intro w;simp only[iL,cH,bO,j5,ju,sR,Act.put,aU,cN,bX,Nat.reduceAdd,Nat.reduceBEq,gO,fS];exact rfl):lj R P ops Q m n a w0 c Φ:=
 lj.step d k l p g (fun w hb=>by rw[e w];exact h w hb) j
def CX:=@lj.ca
def lj.bg{id n:Nat}{a:Act}{w:Vz}(R:Az)(m:Nat)(b:Ag)(h:lj R P ops Q m n a w.drew b [])(e:P.follows .mixedOrders=true:=by kernel_rfl)(c:uh ops m b=true:=by kernel_rfl)(d:uL ops n=true:=by kernel_rfl)(f:a.tmps.size=n:=by rfl):(Code.region id ops true).wp P Q a w:=lj.begin m b e c d f h
end
end
end Go.Proofs.YtfgclhpgdanmfaaGreatDoor
