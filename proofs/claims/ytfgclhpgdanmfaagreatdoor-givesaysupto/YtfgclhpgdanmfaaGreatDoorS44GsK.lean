import Derived.Test.YtfgclhpgdanmfaaGreatDoorS43GsG
namespace Go.Proofs.YtfgclhpgdanmfaaGreatDoor
set_option linter.defProp false
open Go.RowKit
open Go.Proofs.Tryz
set_option linter.unusedSimpArgs false
set_option linter.unusedVariables false
set_option maxHeartbeats 8000000
set_option maxRecDepth 1000000
variable{w w':Vz}{B n:Nat}{v:Ac}{x:Ad}
def Wx(a1 a2 a3 al:Vx)(c1 c2 c3 cl K P b N:Nat)(js:Ad)(A:Ap)(hs:Ak)(vb:Aa)(vh:Vy)(tl:Am)(l cv ev bv:cW)(w:Vz)(hg:jq w)(hf:ja w a1 a2 a3 c1 c2 c3 js A hs)(hv:rZ 1048576 js A hs vb vh)(hw:∀(i:Nat)(h:H3),hs[i]?=some h->h.w=1∨h.w=2)(hK:738197945<=K)(hN:2*js.length=N)(eg:0<js.length)(hl:lk w al tl)(eh:tl.length=N)(ei:∀(i:Nat)(t:RT),tl[i]?=some t->t.2.1= -l i/\t.2.2<=K)(ej:∀(i:Nat)(x:B6),A[i]?=some x->il x.c.data.toList (cv i)/\x.c.size<=1048576/\il x.e.data.toList (ev i)/\x.e.size<=1048576)(ek:∀(i:Nat)(x:H3),hs[i]?=some x->il x.q.data.toList (bv i)/\x.q.size<=1048576)(hP:0<P)(em:P<=2 ^ b)(hM:∀r j,r<N+(A.length+hs.length)->Wh P b (yQ N A.length hs.length vb vh cv ev bv l r j))(hb:66*b+600<=K)(en:4*K<100000000000):
 Calls prog 9 #[.agg #[.slice a1 js.length c1,.slice a2 A.length c2,.slice a3 hs.length c3],.slice al N cl] w (uK (N+(A.length+hs.length)) K w.heap.size ((List.range (N+(A.length+hs.length))).map (yQ N A.length hs.length vb vh cv ev bv l)) w):=by
 have n1:=hv.j;have n2:=hv.b;have n3:=hv.h;obtain⟨HG,dj,HF,HV,HW,HL,fo,fp,fq⟩:=Ih (lM hg.most) hg hf hv hw hl eh ei ej;obtain⟨fr,b1,fs,ft,T⟩:=Id ek hN eg em (cZ hK (cZ hb en));obtain⟨E,hE⟩:=nm (A.length+hs.length);obtain⟨S,hS⟩:=nm (N+E);obtain⟨W,hW⟩:=nm (S+1);rw[hE,hS];rw[hE,hS]at hM;obtain⟨M,cu⟩:=nm (yQ N A.length hs.length vb vh cv ev bv l);rw[cu];rw[cu]at hM;obtain⟨HM,b2⟩:=Ia hM cu;have g3:N<=20:=oO;have g4:E<=44:=oO;have g5:S<=64:=oO;have g6:W<=65:=oO;obtain⟨HE,HS,b3⟩:=Ib hE hS hW;have fu:O (IntKind.i64.wrap (2*(js.length:Int))=(N:Int)):=Hi (by rw[wrap_i64 _ oO oO];omega);have eS:IntKind.i64.wrap ((N:Int)+(E:Int))=(S:Int):=by rw[wrap_i64 _ oO oO];omega
 have eW:IntKind.i64.wrap ((S:Int)+1)=(W:Int):=by rw[wrap_i64 _ oO oO];omega
 obtain⟨MC,eo⟩:=nm ((List.replicate W (Value.pointer none)).toArray);have bd:=Hi eo;have HZ:O (N<=S/\S<W/\W<=65/\E<=W - N/\¬W=N/\N<=W/\A.length<=E):=Hi oO;obtain⟨B0,dk⟩:=nm w.heap.size;obtain⟨V,hV⟩:=nm (w.alloc (.cells #[.slice a1 js.length c1,.slice a2 A.length c2,.slice a3 hs.length c3] 26));obtain⟨Y,hY⟩:=nm V.drew;have c7:O (Bl w Y):=Hi (by rw[<-hY,<-hV];exact(bR.alloc lZ _).drew);have z:O (SB Y B0 26 #[.slice a1 js.length c1,.slice a2 A.length c2,.slice a3 hs.length c3]):=Hi (by rw[<-hY,<-hV,<-dk];exact(cK w _ _).drew);obtain⟨fv,fw,fx⟩:=Ib hV hY dk;have fy:O (∀u,Calls prog 19 #[.agg #[.slice a1 js.length c1,.slice a2 A.length c2,.slice a3 hs.length c3]] u (cS u (Is (.int .i64 (E:Int))))):=Hi (fun u=>(Fx a1 a2 a3 c1 c2 c3 js.length A.length hs.length u n2 n3).mono (fun e w' h=>⟨_,h.1,h.2,(by
  have e1:((A.length:Int)+(hs.length:Int))=(E:Int):=oO
  show Value.int .i64 ((A.length:Int)+(hs.length:Int))=_
  rw[e1])⟩))
 clear hg hf hv hw hl eh ei ej ek hN eg em hM cu hE hS hW eo hV hY dk hK hb en;go_enter func9,ntmps9;go_wp2_with fail;refine ou 8 (fun j=>match j with|6=>some 6|7=>some 7|j=>some (21+j)) ?_;rw[fv.o,fw.o,fx.o];refine cV [] ?_;refine gJ (c:=?_) [0] (fun w hb=>?_) ?_;rotate_left
 . intro K hK;have d0:=(z.o.below hb z.o.lt).cell 0;simp only[aK,aI]at d0;go_simp;exact hK
 refine cV [1] ?_;refine gJ (c:=?_) [2] (fun w hb=>?_) ?_;rotate_left
 . intro K hK;have d0:=fu.o;go_simp;exact hK
 refine gJ (c:=?_) [] (fun w hb=>?_) ?_;rotate_left
 . intro K hK;have d0:=(z.o.below hb z.o.lt).cell 0;have d1:=(z.o.below hb z.o.lt).cell 1;have d2:=(z.o.below hb z.o.lt).cell 2;simp only[aK,aI,aM]at d0 d1 d2;go_simp;exact hK
 refine fP (φ:=Is (.int .i64 (E:Int))) [4] (Is.eL _) (fun w hb=>?_) ?_
 . intro K hK;go_simp;exact fB (fy.o w) hK
 refine cV [3] ?_;refine cV [5] ?_;refine bA.fi (fun Y2 be=>?_);obtain⟨dm,bm⟩:=Ia be (c7.o.trans (be.mono c7.o.size));clear be;have ep:=Hi (X4 a1 a2 a3 c1 c2 c3 K js A hs vb vh Y2 ((HG.o.below bm.o).glob) (HF.o.below bm.o) HV.o HW.o T.o.1);obtain⟨x0,x1,x2⟩:=lQ (z.o.below dm.o z.o.lt);go_wp2_with fail;go_fit ep.o;rintro e w2 ⟨N',g,vs,g7,eq,rfl,I,aq,bf,be⟩;rw[b1.o]at eq;have fz:=eq.symm;subst fz;rw[HE.o]at bf;obtain⟨ga,gb,er,cw,az⟩:=Id I aq bf (dm.o.trans (be.mono dm.o.size)) (bm.o.trans (be.mono bm.o.size));clear I aq bf be ep x0 x1 x2;obtain⟨D,hD⟩:=nm w2.heap.size;have HD:=Hi hD;clear hD;go_wp2_with fail;go_loopw [9,33] (fun mv iv wr=>∃(k:Nat)(ks:List KR),k<=N/\iv=.int .i64 k/\rF wr D W K mv ks ((List.range k).map M)/\Below w2.heap.size w2 wr) (fun _ iv _=>N - (intOf iv).toNat)
 case atStart=>exact⟨0,[],cJ _,rfl,rF.nil _ _ _ _,ac _ _⟩
 case round=>
  obtain⟨U,rfl⟩:∃U,U=wr:=⟨wr,rfl⟩;obtain⟨k,ks,hk,rfl,ai,bh⟩:=hrel;obtain⟨aj,f⟩:=Ia ai (az.o.trans (bh.mono az.o.size));have J:O (D<=U.heap.size):=Hi (oC bh.size HD.o);obtain⟨ma,mc,b4,_⟩:=qt ai.list;subst b4;by_cases dn:k<N
  .
   obtain⟨v,hv⟩:∃v,vs[k]?=some v:=⟨_,gE (by rw[gb.o];exact dn)⟩;obtain⟨ts,bi,hp,z0,va,vc,rfl⟩:=(ga.o.below bh).get hv;have ak:ts.length=E:=by
    have:=(er.o k ts bi).1
    rwa [aH (qA _)]at this
   have b5:=Hi hp.xl;have bt:=Hi (er.o k ts bi).2;have a0:=Hi ak;rw[ak]at z0;obtain⟨⟨tb,tq,tk⟩,ht⟩:∃t,tl[k]?=some t:=⟨_,gE (by rw[fo.o];exact dn)⟩;obtain⟨lb,lo,rfl,gc,dp⟩:=HL.o.at ht;have aq:=HL.o.vs _ (mO ht);have cx:=fp.o k _ ht;dsimp only at dp aq cx;obtain⟨gd,dq,ge⟩:=Ib dp (cZ aq.1 (aq.2.1.mono cx.2)) cx.1;have q0:(k:Int)<(N:Int):=oO;have gf:=Hi bh;clear ai bh hv bi hp ak ht dp aq cx;obtain⟨s,bj⟩:=nm U.heap.size;obtain⟨X,hX⟩:=nm (U.alloc (.cells MC 63));have b6:=OQ W oO U;rw[bd.o]at b6;have dr:O (jg X s W 0 []):=Hi ⟨by rw[<-hX,<-bj,<-bd.o];exact cK U _ _,(fun t ht=>by cases ht),rfl,(fun t ht=>by cases ht)⟩;have ds:=Ua hX;obtain⟨aw,F⟩:=Ia hX bj;clear hX bj;go_wp2_with fail;rw[aw.o,F.o];clear b6;go_loopw [43] (fun iv wr=>∃(j:Nat)(us:Am),j<=W/\iv=.int .i64 j/\jg wr s W j us/\Below U.heap.size U wr) (fun iv _=>W - (intOf iv).toNat)
   case atStart=>exact⟨0,[],cJ _,rfl,dr.o,ds.o⟩
   case round=>
    obtain⟨j,us,hj,rfl,b7,am⟩:=hrel;obtain⟨b8,n,bk⟩:=Ib b7 am (f.o.trans (am.mono f.o.size));clear b7 am;by_cases b9:j<W
    . have q1:(j:Int)<(W:Int):=oO;have bu:=Hi (eT.tG ((HG.o.below bk.o).lg));go_wp2_with fail;go_fit bu.o;rintro e w3 ⟨b,rfl,Z⟩;have dt:=Hi Z.base;have du:=Hi (Z.ts _ (bM _)).1;have ax:=b8.o.below Z.base;have f0:=ax.blk.free j;have t0:=ax.null b9;have dv:=Hi ax;clear Z ax;go_wp2;go_roundw
      case rel=>exact⟨j+1,_,oO,by go_num,dv.o.step b9 du.o,(n.o.trans (dt.o.mono n.o.size)).setCell (p:=⟨s,j,none⟩) (cO F.o) _⟩
      case measure=>exact mI
    .
     obtain rfl:W=j:=oO;obtain⟨wc,us2,cb,ar,cc⟩:=((PV.of (B:=D) b8.o (aE J.o (cO F.o))).mono (show 1<=K by have:=T.o.1;omega)).copy (o:=N) (dl:=W - N) (dc:=W - N) (c:=vc) (y:=dP vb A.length vh k) (b5.o.below n.o) (by rw[a0.o];have:=HZ.o;have:=HS.o;omega) (fun i t ht=>⟨(bt.o i t ht).1,cO (bt.o i t ht).2⟩) (by rw[a0.o];exact HZ.o.2.2.2.1);rw[a0.o]at cb ar;have a4:=n.o.trans (cc.below (cO F.o) n.o.size);obtain⟨cd,a5,a6⟩:=Ib a4 (f.o.trans (a4.mono f.o.size)) ar;have z1:=ce a5.o gc gd.o;have bu:=Hi (S5 tb K tq wc (dq.o.1.below a5.o) dq.o.2 (oB T.o));have g8:=HZ.o.2.2.2.2.1;have g9:=HZ.o.2.2.2.2.2.1;have q1:(S:Int)<(W:Int):=oB HZ.o;clear ar cc a4 z0;go_wp2_with fail;go_fit bu.o;rintro e w4 ⟨⟨nb,rfl,gg,aa⟩,an⟩;have ab:=a6.o.below an;obtain⟨pb,pk,_,x0,_⟩:=ab.get HZ.o.2.1;have f0:=ab.blk.blk.free S;obtain⟨a7,a8⟩:=nm (us2.set S (nb,-tq,K));have Q:=ab.set HZ.o.2.1 aa dq.o.2.neg (oB T.o.1) (aV K);rw[a8]at Q;have bl:=Hi (Q.as (y:=M k) (fun i hi=>by
      rw[<-b2.o];have e1:=HS.o;have e2:=HE.o;have e3:=b3.o;have h1:=Xg (W:=N) (nb:=A.length) (nh:=hs.length) (B:=dP vb A.length vh) (c:=cv) (e:=ev) (hb:=bv) (a:=l) (r:=k) (q:=-tq) dn (by rw[ge.o];grind) i oO;rw[<-e1,<-e2]
      exact h1))
     have d:O (Bl U (w4.setCell ⟨s,S,none⟩ (.pointer (some ⟨nb,0,none⟩)))):=Hi ((cd.o.trans (an.mono cd.o.size)).setCell (p:=⟨s,S,none⟩) (cO F.o) _);clear gg aa an ab a8 Q bu z1 cb;obtain⟨Y6,ad⟩:∃X,(w4.setCell ⟨s,S,none⟩ (.pointer (some ⟨nb,0,none⟩))).alloc (.cells #[.slice (some ⟨s,0,none⟩) W W] 81)=X:=⟨_,rfl⟩;have C:Below (w4.setCell ⟨s,S,none⟩ (.pointer (some ⟨nb,0,none⟩))).heap.size (w4.setCell ⟨s,S,none⟩ (.pointer (some ⟨nb,0,none⟩))) Y6:=by rw[<-ad];exact(ac _ _).alloc lZ _
     have a9:Y6.cell? ⟨(w4.setCell ⟨s,S,none⟩ (.pointer (some ⟨nb,0,none⟩))).heap.size,0,none⟩=some (KR.val W ⟨s,a7⟩):=by rw[<-ad];exact yA _ _ _
     have R:ks.length=k:=by have h1:=aj.o.len;rw[bF,jm]at h1;exact h1
     have G:=(aj.o.below d.o).below C;obtain⟨v7,w7,ba,bc,ae,ag,ah⟩:=G.app (r:=⟨s,a7⟩) (c:=1) a9 (bl.o.below C) (fun r hr=>by have:=aj.o.lt hr;have:=F.o;show r.g≠s;omega) (oB HZ.o) (aE J.o (aE d.o.size C.size)) 79;have af:(w4.setCell ⟨s,S,none⟩ (.pointer (some ⟨nb,0,none⟩))).heap.size=w4.heap.size:=by simp[World.setCell]
     rw[R,<-ad,af]at ba;obtain⟨ay,cf,bn,au,av⟩:=Id (((d.o.mono J.o).trans (C.mono (aE J.o d.o.size))).trans ae) bc G (cZ ag ah) (d.o.trans (C.mono d.o.size));rw[R];clear ad C a9 R bc G ae ag ah af;go_wp2;go_roundw
     case rel=>exact⟨k+1,_,oO,by go_num,by rw[ur,dH];exact cf.o,gf.o.trans (ay.o.mono (cO HD.o))⟩
     case measure=>exact mI
  .
   obtain rfl:N=k:=oO;obtain⟨we,rfl⟩:∃we,we=U:=⟨U,rfl⟩;obtain⟨es,bp,et⟩:=Ib (Re a1 a2 a3 c1 c2 c3 16777229 js A hs vb vh we ((HG.o.below f.o).glob) (HF.o.below f.o) HV.o HW.o dD) (cw.o.trans (bh.mono (oB cw.o.size))) (fun (b:Nat) hb=>(ai.list.lt (g:=b) hb).2);clear ai bh;obtain⟨x0,x1,x2⟩:=lQ (z.o.below bp.o z.o.lt);go_wp2_with fail;go_fit es.o;rintro e w3 ⟨E',g',eu,ew,ex,rfl,I,aq,bf,cg⟩;rw[HE.o]at ex;have gh:=ex.symm;subst gh;rw[b1.o]at bf;obtain⟨c8,ey,c9,da,db,dd,gj⟩:=If I aq bf (aj.o.below cg) (bp.o.trans (cg.mono bp.o.size)) (f.o.trans (cg.mono f.o.size)) (aE J.o cg.size);have de:O ((Value.slice ma ks.length mc).ownBlock≠some g'):=Hi (fun e=>by have:=et.o g' e;have:=I.low;omega);have ez:=Hi I.blk.lt;clear I aq bf cg es x0 x1 x2;clear aj f J bp et;go_wp2_with fail;go_loopw [9,72] (fun mv iv wr=>∃(k:Nat)(ks:List KR),k<=E/\iv=.int .i64 k/\rF wr D W K mv ks ((List.range (N+k)).map M)/\Below w.heap.size w wr/\Below Y.heap.size Y wr/\GR wr we.heap.size g' eu ew/\mv.ownBlock≠some g'/\w3.heap.size<=wr.heap.size) (fun _ iv _=>E - (intOf iv).toNat)
   case atStart=>exact⟨0,ks,cJ _,rfl,da.o,dd.o,db.o,c8.o,de.o,aV _⟩
   case round=>
    clear da dd db c8 de;obtain⟨U,rfl⟩:∃U,U=wr:=⟨wr,rfl⟩;obtain⟨k,ks,hk,rfl,ai,ch,dw,I,dx,af⟩:=hrel;obtain⟨aj,f,H,J,cy,df⟩:=Ie ai ch dw (aE gj.o af) af I;obtain⟨ma,mc,b4,_⟩:=qt ai.list;subst b4;have cz:=Hi dx;by_cases gk:k<E
    .
     obtain⟨v,hv⟩:∃v,eu[k]?=some v:=⟨_,gE (by rw[ey.o];exact gk)⟩;obtain⟨ts,bi,hp,z0,va,vc,rfl⟩:=I.get hv;have ak:ts.length=N:=by
      have:=(c9.o k ts bi).1
      rwa [aH (qA _)]at this
     have b5:=Hi hp.xl;have bt:=Hi (c9.o k ts bi).2;have a0:=Hi ak;rw[ak]at z0;have q0:(k:Int)<(E:Int):=oO;clear ai ch dw I dx af hv bi hp ak;obtain⟨s,bj⟩:=nm U.heap.size;obtain⟨X,hX⟩:=nm (U.alloc (.cells MC 63));have b6:=OQ W oO U;rw[bd.o]at b6;have dr:O (jg X s W 0 []):=Hi ⟨by rw[<-hX,<-bj,<-bd.o];exact cK U _ _,(fun t ht=>by cases ht),rfl,(fun t ht=>by cases ht)⟩;have ds:=Ua hX;obtain⟨aw,F⟩:=Ia hX bj;clear hX bj;go_wp2_with fail;rw[aw.o,F.o];clear b6;go_loopw [82] (fun iv wr=>∃(j:Nat)(us:Am),j<=W/\iv=.int .i64 j/\jg wr s W j us/\Below U.heap.size U wr) (fun iv _=>W - (intOf iv).toNat)
     case atStart=>exact⟨0,[],cJ _,rfl,dr.o,ds.o⟩
     case round=>
      obtain⟨j,us,hj,rfl,b7,am⟩:=hrel;obtain⟨b8,n,bk⟩:=Ib b7 am (f.o.trans (am.mono f.o.size));clear b7 am;by_cases b9:j<W
      . have q1:(j:Int)<(W:Int):=oO;have bu:=Hi (eT.tG ((HG.o.below bk.o).lg));go_wp2_with fail;go_fit bu.o;rintro e w3 ⟨b,rfl,Z⟩;have dt:=Hi Z.base;have du:=Hi (Z.ts _ (bM _)).1;have ax:=b8.o.below Z.base;have f0:=ax.blk.free j;have t0:=ax.null b9;have dv:=Hi ax;clear Z ax;go_wp2;go_roundw
        case rel=>exact⟨j+1,_,oO,by go_num,dv.o.step b9 du.o,(n.o.trans (dt.o.mono n.o.size)).setCell (p:=⟨s,j,none⟩) (cO F.o) _⟩
        case measure=>exact mI
      .
       obtain rfl:W=j:=oO;have dg:=H.o.trans (n.o.mono H.o.size);have a6:=Hi ((PV.of (B:=D) b8.o (aE J.o (cO F.o))).mono (show 1<=K by have:=T.o.1;omega));obtain⟨x0,x1,x2⟩:=lQ (z.o.below dg z.o.lt);clear dg z0;by_cases ci:k<A.length
       .
        have q2:(k:Int)<(A.length:Int):=oO;obtain⟨x,hx⟩:∃x,A[k]?=some x:=⟨A[k],gE ci⟩;obtain⟨bb,bo,rfl,bw,_,_,D2,D3,_,_⟩:=HF.o.b.bar hx;obtain⟨qc,sc,qe,se⟩:=fq.o k x hx;obtain⟨aw,e0⟩:=Ia (cZ qe (cZ se D3)) bw;have d2:=ce bk.o bw D2;have cj:=Hi (zO (K:=4194305) (dj.o.below bk.o) qc oO ((qc.oA sc).mono oO) dD);clear hx bw D2 D3 qc sc qe se;go_wp2_with fail;refine fB cj.o ?_;rintro pc w5 bx ck;obtain⟨bz,e4,b0⟩:=Ib ck ((a6.o.below bx).as (y:=fun c=>if c<0 then cv k*pP js.length vb A.length vh k c else 0) (fun i hi=>by rw[aH (qA _)])) (n.o.trans (bx.mono n.o.size));clear ck bx cj d2 x0 x1 x2 a6 n bk;go_wp2_with fail;go_loopw [104] (fun iv wr=>∃(i:Nat)(us:Am),i<=N/\iv=.int .i64 i/\PV wr D s W K (fun c=>if c<i then cv k*pP js.length vb A.length vh k c else 0) us/\RF (cv k) 4194305 pc wr/\Below U.heap.size U wr) (fun iv _=>N - (intOf iv).toNat)
        case atStart=>exact⟨0,_,cJ _,rfl,e4.o,bz.o,b0.o⟩
        case round=>
         clear e4 bz b0;obtain⟨i,us,hi,rfl,ar,ck,am⟩:=hrel;obtain⟨a6,bz,n,bk⟩:=Ic ar ck am (f.o.trans (am.mono f.o.size));clear ar ck am;by_cases gl:i<N
         . obtain⟨⟨tb,tq,tk⟩,ht⟩:∃t,ts[i]?=some t:=⟨ts[i]'(by rw[a0.o];exact gl),gE _⟩;obtain⟨sb,so,rfl,e5,s1⟩:=b5.o.at ht;obtain⟨v1,v2,v3⟩:=(b5.o.below n.o).vs _ (mO ht);obtain⟨e1,e2⟩:=bt.o i _ ht;dsimp only at s1 v1 v2 v3 e1 e2;subst e1 e2;have s2:=ce n.o e5 s1;have e6:=Hi (RF.mul bz.o (show RF (pP js.length vb A.length vh k i) 16777229 (.pointer (some ⟨tb,0,none⟩)) wr from ⟨tb,rfl,v1,v2,v3⟩) dD);have q3:(i:Int)<(N:Int):=oO;have q4:(i:Int)<(W:Int):=oB HZ.o;have e7:i<W:=oB HZ.o;clear ht e5 s1 v1 v2 v3;go_wp2_with fail;refine fB e6.o ?_;rintro _ w6 c0 ⟨nb,rfl,aa,ao,ap⟩;have cm:=a6.o.below c0;obtain⟨pb,pk,_,x0,_⟩:=cm.get e7;have f0:=cm.blk.blk.free i;have bl:=Hi ((cm.set e7 aa ao ap (oB T.o.1)).as (y:=fun c=>if c<i+1 then cv k*pP js.length vb A.length vh k c else 0) (fun c hc=>by
            unfold qQ;dsimp only;by_cases e:c=i
            . rw[aN e,aN oO,e]
            . rw[aH e];by_cases h:c<i
              . rw[aN h,aN oO]
              . rw[aH h,aH oO]))
           obtain⟨gn,gp⟩:=Ia (cm.A4 (i:=i) (b:=nb) (bz.o.below c0)) ((n.o.trans (c0.mono n.o.size)).setCell (p:=⟨s,i,none⟩) (cO F.o) (.pointer (some ⟨nb,0,none⟩)));clear aa ao ap c0 cm e6 s2;go_wp2;go_roundw
           case rel=>exact⟨i+1,_,oO,by go_num,bl.o,gn.o,gp.o⟩
           case measure=>exact mI
         .
          obtain rfl:N=i:=oO;obtain⟨RI,e8⟩:=nm (N+k);have eI:IntKind.i64.wrap ((N:Int)+(k:Int))=(RI:Int):=by rw[wrap_i64 _ oO oO];omega
          have e9:RI<W:=oC HZ.o HS.o;have q3:(RI:Int)<(W:Int):=oO;obtain⟨gq,fa⟩:=Ia e8 (Xh wr);clear e8;go_wp2_with fail;refine fB fa.o ?_;rintro _ w7 ae ⟨c4,rfl,aa,ao,ap⟩;have cn:=a6.o.below ae;obtain⟨pb,pk,_,y0,_⟩:=cn.get e9;have f0:=cn.blk.blk.free RI;have Q:=cn.set e9 aa ao ap (show 1<=K by have:=T.o.1;omega);have dy:=cn.A4 (i:=RI) (b:=c4) (bz.o.below ae);have bq:=n.o.trans (ae.mono n.o.size);have c5:=bq.setCell (p:=⟨s,RI,none⟩) (cO F.o) (.pointer (some ⟨c4,0,none⟩));have cp:=f.o.trans (c5.mono f.o.size);have br:=Hi cp;obtain⟨x0,x1,x2⟩:=lQ (z.o.below (H.o.trans (bq.mono H.o.size)) z.o.lt);have d3:=ce (f.o.trans (bq.mono f.o.size)) e0.o aw.o.2.2;have ha:s≠B0:=by have:=H.o.size;have:=z.o.lt;have:=F.o;omega
          have hd:s≠bb:=by have:=f.o.size;have:=e0.o;have:=F.o;omega
          have dz:=Hi (zO (K:=4194305) (dj.o.below cp) aw.o.1 (oB aw.o.2.1) ((aw.o.1.oA aw.o.2.1).mono oO) dD);obtain⟨W7,ea⟩:=nm (w7.setCell ⟨s,RI,none⟩ (.pointer (some ⟨c4,0,none⟩)));rw[ea]at Q dy c5 dz;obtain⟨gr,gs,gt,fb⟩:=Ic ea Q dy c5;clear aa ao ap ae cn Q dy bq c5 cp ea fa;go_wp2_with fail;rw[gr.o];refine fB dz.o ?_;rintro ve w8 c6 fc;obtain⟨bd,gu,fd⟩:=Ib (RF.mul (gt.o.below c6) fc dD) (gs.o.below c6) (fb.o.trans (c6.mono fb.o.size));clear c6 fc x0 x1 x2 d3 y0 f0 dz;have q5:(S:Int)<(W:Int):=oB HZ.o;go_wp2_with fail;refine fB bd.o ?_;rintro _ w4 an ⟨nb,rfl,aa,ao,ap⟩;have ab:=gu.o.below an;obtain⟨pb,pk,_,x0,_⟩:=ab.get HZ.o.2.1;have f0:=ab.blk.blk.free S;obtain⟨a7,a8⟩:=nm ((us.set RI (c4,-1,1)).set S (nb,cv k*ev k,4194305+4194305));have Q:=ab.set HZ.o.2.1 aa ao ap (oB T.o.1);rw[a8]at Q;have bl:=Hi (Q.as (y:=M (N+k)) (fun i hi=>by
           rw[<-b2.o];have e1:=HS.o;have e2:=HE.o;have e3:=b3.o;have h1:=Xf (W:=N) (nb:=A.length) (nh:=hs.length) (B:=dP vb A.length vh) (c:=cv) (e:=ev) (hb:=bv) (a:=l) (r:=k) (x:=pP js.length vb A.length vh k) (q:=cv k*ev k) ci (fun i hi=>by unfold pP;rw[aN (oB b1.o),aN ci]) rfl i oO;rw[<-gq.o,<-e1,<-e2]
           exact h1))
          have d:O (Bl U (w4.setCell ⟨s,S,none⟩ (.pointer (some ⟨nb,0,none⟩)))):=Hi ((fd.o.trans (an.mono fd.o.size)).setCell (p:=⟨s,S,none⟩) (cO F.o) _);clear aa ao ap an ab a8 Q bd;obtain⟨Y6,ad⟩:∃X,(w4.setCell ⟨s,S,none⟩ (.pointer (some ⟨nb,0,none⟩))).alloc (.cells #[.slice (some ⟨s,0,none⟩) W W] 81)=X:=⟨_,rfl⟩;have C:Below (w4.setCell ⟨s,S,none⟩ (.pointer (some ⟨nb,0,none⟩))).heap.size (w4.setCell ⟨s,S,none⟩ (.pointer (some ⟨nb,0,none⟩))) Y6:=by rw[<-ad];exact(ac _ _).alloc lZ _
          have a9:Y6.cell? ⟨(w4.setCell ⟨s,S,none⟩ (.pointer (some ⟨nb,0,none⟩))).heap.size,0,none⟩=some (KR.val W ⟨s,a7⟩):=by rw[<-ad];exact yA _ _ _
          have R:ks.length=N+k:=by have h1:=aj.o.len;rw[bF,jm]at h1;exact h1
          have G:=(aj.o.below d.o).below C;obtain⟨v7,w7,ba,bc,ae,ag,ah⟩:=G.app (r:=⟨s,a7⟩) (c:=1) a9 (bl.o.below C) (fun r hr=>by have:=aj.o.lt hr;have:=F.o;show r.g≠s;omega) (oB HZ.o) (aE J.o (aE d.o.size C.size)) 79;have af:(w4.setCell ⟨s,S,none⟩ (.pointer (some ⟨nb,0,none⟩))).heap.size=w4.heap.size:=by simp[World.setCell]
          rw[R,<-ad,af]at ba;obtain⟨ay,cf,bn,au,av⟩:=Id (((d.o.mono J.o).trans (C.mono (aE J.o d.o.size))).trans ae) bc G (cZ ag ah) (d.o.trans (C.mono d.o.size));rw[R];clear ad C a9 R bc G ae ag ah af;have eb:=Hi ((df.o.below av.o).tK bn.o.list au.o.1 cz.o);have cq:=Hi (fun e:v7.ownBlock=some g'=>by
           rcases au.o.2 with h|h
           . exact cz.o (h.symm.trans e)
           . rw[h]at e;injection e with e
             have:=av.o.size;have:=cy.o;have:=ez.o
             omega)
          obtain⟨br,cr,cs⟩:=Ib (f.o.trans (ay.o.mono (aE az.o.size (cO HD.o)))) (H.o.trans (ay.o.mono (aE cw.o.size (cO HD.o)))) (aE cy.o ay.o.size);go_wp2;go_roundw
          case rel=>exact⟨k+1,_,oO,by go_num,by rw[<-gT,ur,dH];exact cf.o,br.o,cr.o,eb.o,cq.o,cs.o⟩
          case measure=>exact mI
       .
        have q2:¬(k:Int)<(A.length:Int):=oO;obtain⟨jj,fe⟩:∃jj,A.length+jj=k:=⟨k - A.length,oO⟩;have ff:jj<hs.length:=oB HE.o;obtain⟨x,hx⟩:∃x,hs[jj]?=some x:=⟨hs[jj],gE ff⟩;obtain⟨bb,bo,rfl,bw,_,_,D2⟩:=HF.o.h.sJ hx;obtain⟨qc,sc⟩:=fr.o jj x hx;obtain⟨wc,us2,cb,ar,cc⟩:=a6.o.copy (o:=0) (dl:=W) (dc:=W) (c:=vc) (y:=pP js.length vb A.length vh k) (b5.o.below n.o) (by rw[a0.o];have:=HZ.o;omega) (fun i t ht=>⟨(bt.o i t ht).1,by have:=(bt.o i t ht).2;have:=T.o.1;omega⟩) (by rw[a0.o];exact HZ.o.2.2.2.2.2.1);rw[a0.o]at cb ar;have a4:=n.o.trans (cc.below (cO F.o) n.o.size);obtain⟨cd,a5,gv⟩:=Ib a4 (f.o.trans (a4.mono f.o.size)) ar;clear x0 x1 x2;obtain⟨he,fg⟩:∃w,w=wr:=⟨_,rfl⟩;obtain⟨x0,x1,x2⟩:=lQ (z.o.below (H.o.trans (a4.mono H.o.size)) z.o.lt);obtain⟨-,y1,-⟩:=zc (z.o.below (H.o.trans (n.o.mono H.o.size)) z.o.lt);have d2:=ce a5.o bw D2;have eJ:IntKind.i64.wrap ((k:Int) - (A.length:Int))=(jj:Int):=by rw[wrap_i64 _ oO oO];omega
        have q3:(jj:Int)<(hs.length:Int):=oO;have q4:(S:Int)<(W:Int):=oB HZ.o;obtain⟨cj,ec,gw⟩:=Ib (zO (K:=4194305) (dj.o.below a5.o) qc oO ((qc.oA sc).mono oO) dD) (cZ fe ff) ci;clear hx bw D2 qc sc ar cc a4 fe ci fg;go_wp2_with fail;refine fB cj.o ?_;rintro _ w4 an ⟨nb,rfl,aa,ao,ap⟩;have ab:=gv.o.below an;obtain⟨pb,pk,_,y0,_⟩:=ab.get HZ.o.2.1;have f0:=ab.blk.blk.free S;obtain⟨a7,a8⟩:=nm (us2.set S (nb,bv jj,4194305));have Q:=ab.set HZ.o.2.1 aa ao ap (oB T.o.1);rw[a8]at Q;have bl:=Hi (Q.as (y:=M (N+k)) (fun i hi=>by
         rw[<-b2.o];have e1:=HS.o;have e2:=HE.o;have e3:=b3.o;have h1:=Xe (W:=N) (nb:=A.length) (nh:=hs.length) (B:=dP vb A.length vh) (c:=cv) (e:=ev) (hb:=bv) (a:=l) (r:=jj) (x:=pP js.length vb A.length vh k) (q:=bv jj) ec.o.2 (fun i hi=>by unfold pP;rw[aN (oB b1.o),aH gw.o,ec.o.1]) rfl i oO;rw[<-e1,<-e2];rw[ec.o.1]at h1
         exact h1))
        have d:O (Bl U (w4.setCell ⟨s,S,none⟩ (.pointer (some ⟨nb,0,none⟩)))):=Hi ((cd.o.trans (an.mono cd.o.size)).setCell (p:=⟨s,S,none⟩) (cO F.o) _);clear aa ao ap an ab a8 Q cj x0 x1 x2 y1 d2 cb;obtain⟨Y6,ad⟩:∃X,(w4.setCell ⟨s,S,none⟩ (.pointer (some ⟨nb,0,none⟩))).alloc (.cells #[.slice (some ⟨s,0,none⟩) W W] 81)=X:=⟨_,rfl⟩;have C:Below (w4.setCell ⟨s,S,none⟩ (.pointer (some ⟨nb,0,none⟩))).heap.size (w4.setCell ⟨s,S,none⟩ (.pointer (some ⟨nb,0,none⟩))) Y6:=by rw[<-ad];exact(ac _ _).alloc lZ _
        have a9:Y6.cell? ⟨(w4.setCell ⟨s,S,none⟩ (.pointer (some ⟨nb,0,none⟩))).heap.size,0,none⟩=some (KR.val W ⟨s,a7⟩):=by rw[<-ad];exact yA _ _ _
        have R:ks.length=N+k:=by have h1:=aj.o.len;rw[bF,jm]at h1;exact h1
        have G:=(aj.o.below d.o).below C;obtain⟨v7,w7,ba,bc,ae,ag,ah⟩:=G.app (r:=⟨s,a7⟩) (c:=1) a9 (bl.o.below C) (fun r hr=>by have:=aj.o.lt hr;have:=F.o;show r.g≠s;omega) (oB HZ.o) (aE J.o (aE d.o.size C.size)) 79;have af:(w4.setCell ⟨s,S,none⟩ (.pointer (some ⟨nb,0,none⟩))).heap.size=w4.heap.size:=by simp[World.setCell]
        rw[R,<-ad,af]at ba;obtain⟨ay,cf,bn,au,av⟩:=Id (((d.o.mono J.o).trans (C.mono (aE J.o d.o.size))).trans ae) bc G (cZ ag ah) (d.o.trans (C.mono d.o.size));rw[R];clear ad C a9 R bc G ae ag ah af;have eb:=Hi ((df.o.below av.o).tK bn.o.list au.o.1 cz.o);have cq:=Hi (fun e:v7.ownBlock=some g'=>by
         rcases au.o.2 with h|h
         . exact cz.o (h.symm.trans e)
         . rw[h]at e;injection e with e
           have:=av.o.size;have:=cy.o;have:=ez.o
           omega)
        obtain⟨br,cr,cs⟩:=Ib (f.o.trans (ay.o.mono (aE az.o.size (cO HD.o)))) (H.o.trans (ay.o.mono (aE cw.o.size (cO HD.o)))) (aE cy.o ay.o.size);go_wp2;go_roundw
        case rel=>exact⟨k+1,_,oO,by go_num,by rw[<-gT,ur,dH];exact cf.o,br.o,cr.o,eb.o,cq.o,cs.o⟩
        case measure=>exact mI
    .
     obtain rfl:E=k:=oO;have R:ks.length=S:=by have h1:=ai.len;rw[bF,jm]at h1;rw[h1];exact HS.o
     obtain⟨gm,cap,zs,rs,b4,ct,ed,fh,fj⟩:=ai.pq (by have:=HZ.o;have:=fs.o;have:=b1.o;omega) J.o (fun x hx i hi=>by
      obtain⟨r,hr,rfl⟩:=bZ.1 hx;have e1:=HS.o;have e2:=HE.o;have e3:=b3.o;rw[<-b2.o]
      exact OP (oB (dL.1 hr)) oO)
     injection b4 with gy _ gz
     subst gy gz;rw[R]at ed ct;rw[R];have ee:w.heap.size<=D:=oC az.o.size HD.o;have dh:∀v,v∈ (List.range (N+E)).map M->∀i,S+1<=i->v i=0:=fun v hv i hi=>by obtain⟨r,hr,rfl⟩:=bZ.1 hv;have e1:=HS.o;have e2:=HE.o;rw[<-b2.o];exact OP (oB (dL.1 hr)) oO
     have di:Pl (S+1) 64 ((List.range (N+E)).map M) 0 (rs.map PR.q) []:=by rw[fj];exact Pl.start _ _ _ dh (.inl (by simp;have:=HS.o;omega))
     have fk:∀r,r∈ (List.range (N+E)).map M->∀j,Wh P b (r j):=fun r hr j=>by obtain⟨i,hi,rfl⟩:=bZ.1 hr;exact HM.o i j (oC (dL.1 hi) HS.o)
     have fl:4<D:=by obtain⟨m,hm⟩:=HG.o.glob;exact aF (bI _ _ hm) ee
     have ef:=Hi (TZ D gm S 64 K S mc zs rs ((List.range (N+E)).map M) U ((HG.o.below ch).glob) fl (fun c L hh g0=>g0.fits hP ft.o fk (Wy T.o.2.1) (oB T.o.1)) (oB T.o.1) T.o.2.2 (by rw[b3.o];exact fh) di (oB HZ.o) ed (oB HZ.o) ct);clear dh di fk fl;rw[HS.o]at ef;obtain⟨fm,g1⟩:=Ia ch ee;clear ai ch dw I dx af R ct ed fh fj ee;go_wp2_with fail;go_fit ef.o;rintro e w5 ⟨bx,fn⟩;have b0:=Hi (fm.o.trans (bx.mono g1.o));clear bx ef;rcases fn with ⟨rfl,h⟩|⟨rfl,h⟩|⟨v,ts,rfl,I,h1,h2,h3⟩
     . have HH:=Hi h;clear h;go_wp2;go_ret2;exact⟨b0.o,.inl ⟨rfl,HH.o⟩⟩
     . have HH:=Hi h;clear h;go_wp2;go_ret2;exact⟨b0.o,.inr (.inl ⟨rfl,HH.o⟩)⟩
     . have HH:=Hi (cZ (I.low fm.o.size) (cZ h1 (cZ h2 h3)));obtain⟨xa,xc,g2,_⟩:=I.row;subst g2;clear I h1 h2 h3;go_wp2;go_ret2;exact⟨b0.o,.inr (.inr ⟨_,ts,rfl,HH.o.1,HH.o.2.1,HH.o.2.2.1,HH.o.2.2.2⟩)⟩
structure GN (js:Ad) (bs:Ap) (hs:Ak) (vb:Aa) (vh:Vy) (cv ev bv:cW):Prop where
 fv:rZ 1048576 js bs hs vb vh
 ce:∀(i:Nat)(b:B6),bs[i]?=some b->il b.c.data.toList (cv i)/\il b.e.data.toList (ev i)/\b.c.size<=1048576/\b.e.size<=1048576
 by_:∀(i:Nat)(h:H3),hs[i]?=some h->il h.q.data.toList (bv i)/\h.q.size<=1048576
 pos:∀i,i<bs.length->cv i≠0
section
variable {js:Ad} {bs:Ap} {hs:Ak} {vb:Aa} {vh:Vy} {cv ev bv:cW}
def Dm(l:jL js bs hs)(d:dW js bs hs 0 0):∃vb vh cv ev bv,GN js bs hs vb vh cv ev bv:=by
 obtain⟨vb,vh,m,_⟩:=P6 l d;obtain⟨_,n,_,_⟩:=d.Dd;have t:∀i:Nat,∃q:Rat × Rat,∀b,bs[i]?=some b->il b.c.data.toList q.1/\il b.e.data.toList q.2/\q.1≠0:=fun i=>by
  cases j:bs[i]? with
  |none=>exact⟨(0,0),fun b hb=>by cases hb⟩
  |some b=>
   obtain⟨u,v⟩:=j9 b.e.data.toList;rcases n i b j with ⟨_,h⟩|⟨_,_,_,_,_,_,z,A,B,C,r,D,E,_,_,_,_,x,_,_,k⟩
   . cases h
   .
    refine⟨(r,u),fun c o=>?_⟩;cases o;refine⟨x,v,fun e=>?_⟩;have e:r=0:=e;subst e
    split at k
    . cases k
    . rw[aN (.inl dD)]at k
      cases k
 have y:∀i:Nat,∃q:Rat,∀h,hs[i]?=some h->il h.q.data.toList q:=fun i=>by
  cases j:hs[i]? with
  |none=>exact⟨0,fun b hb=>by cases hb⟩
  |some h=> obtain⟨q,f⟩:=j9 h.q.data.toList;exact⟨q,fun c o=>by cases o;exact f⟩
 obtain⟨q,f⟩:=gQ t;obtain⟨bv,p⟩:=gQ y;refine⟨vb,vh,fun i=>(q i).1,fun i=>(q i).2,bv,m,fun i b hb=>?_,fun i h s=>⟨p i h s,l.h h (mO s)⟩,fun i j=>(f i _ (gE j)).2.2⟩;have g:=l.b b (mO hb);exact⟨(f i b hb).1,(f i b hb).2.1,g.1,g.2.1⟩
def GN.F9(h:GN js bs hs vb vh cv ev bv){w:Vz}{b c d:Vx}{c1 c2 c3:Nat}(f:jq w)(g:ja w b c d c1 c2 c3 js bs hs):pG w b c d c1 c2 c3 (2*js.length) js bs hs vb vh cv ev bv:=
 ⟨f,g,h.fv,h.ce,h.by_,rfl⟩
def GN.over(h:GN js bs hs vb vh cv ev bv){d:AE}{vs:Ai}(hl:d.length<=20)(f:LVal d vs)(g:∀(i:Nat)(x:L3),d[i]?=some x->qn js.length x.j)(k:jW js+bW bs+hW hs+lW d<=1048576):∃P b Q c,qR P b Q c vb bs.length hs.length cv ev bv (pJ vs)/\2*b+2*c+12<=8389708:=by obtain⟨P,b,Q,c,l,n⟩:=h.fv.F0 (N:=0) (fun i b hb=>⟨(h.ce i b hb).1,(h.ce i b hb).2.1⟩) (fun i x m=>(h.by_ i x m).1) hl f.len (f.Dc g) k;exact⟨P,b,Q,c,l,oO⟩
def Lo{P b Q c N:Nat}{a:cW}(h:qR P b Q c vb bs.length hs.length cv ev bv a){r:Nat}(n:r<N+(bs.length+hs.length))(j:Nat):0<P*(Q*Q)/\P*(Q*Q)<=2 ^ (b+(c+c))/\Wh (P*(Q*Q)) (b+(c+c)) (yQ N bs.length hs.length vb vh cv ev bv a r j):=by
 have d:Q*Q<=2 ^ (c+c):=by rw[eG];exact fO h.le h.le
 have f:P*(Q*Q)<=2 ^ (b+(c+c)):=by rw[eG];exact fO h.fr.le d
 have hB:∀x y,Wh (P*(Q*Q)) (b+(c+c)) (dP vb bs.length vh x y):=fun x y=>DJ (h.fr.at x y) d
 have i:∀q,Wh Q c q->Wh (P*(Q*Q)) (b+(c+c)) q:=fun q m=>(DJ (DJ m h.le) h.fr.le).to (bV _ _) oO
 have g:Wh (P*(Q*Q)) (b+(c+c)) 0:=vy _ _;refine⟨gL h.fr.pos (gL h.pos h.pos),f,?_⟩;unfold yQ Giv.gvR;by_cases k:r<N
 .
  rw[aN k]
  split
  . exact g
  .
   split
   . exact hB _ _
   . split
     . exact i _ (h.a r)
     . exact g
 .
  rw[aH k];by_cases l:r<N+bs.length
  .
   rw[aN l];obtain⟨k1,k2⟩:=h.ce (r - N) oO
   split
   . have:=(h.fr.at (nb:=bs.length) (vh:=vh) j (r - N)).neg
     exact(DJ (Wh.mul k1 this) h.le).to (by rw[bV Q P,dQ]) oO
   .
    split
    . exact(I8 f).neg
    . split
      . exact(DJ (Wh.mul k1 k2) h.fr.le).to (bV _ _) oO
      . exact g
  .
   rw[aH l]
   split
   . exact hB _ _
   . split
     . exact i _ (h.by_ _ oO)
     . exact g
end
def qM{W nb nh:Nat}{vb:Aa}{vh:Vy}{cv ev bv a x:cW}:wJ (W+(nb+nh)) ((List.range (W+(nb+nh))).map (yQ W nb nh vb vh cv ev bv a)) x↔Giv.GvOK W nb nh (dP vb nb vh) cv ev bv a x:=by
 rw[<-Giv.gv_iff];constructor
 . intro h r b
   exact h _ (bZ.2 ⟨r,dL.2 b,rfl⟩)
 . intro h r b;obtain⟨i,c,rfl⟩:=bZ.1 b;exact h i (dL.1 c)
def EI(w:Vz)(B:Nat)(v:Ac)(ss:Ad):Prop:=(v=.slice none 0 0/\ss= [])∨∃g,B<=g/\v=.slice (some ⟨g,0,none⟩) ss.length ss.length/\SB w g 34 (ss.flatMap S2.cells).toArray
def EI.below(h:EI w B v x)(hb:Bl w w'):EI w' B v x:=by
 rcases h with h|⟨g,c,d,b⟩
 . exact .inl h
 . exact .inr ⟨g,c,d,b.below hb b.lt⟩
def EI.row(h:EI w B v x):∃a,v=.slice a x.length x.length/\eO S2.cells w a x.length x:=by
 rcases h with ⟨rfl,rfl⟩|⟨g,_,rfl,h⟩
 . exact⟨none,rfl,aV _,⟨fun j u b=>by simp at b⟩⟩
 . exact⟨_,rfl,h.tL sS lZ⟩
def nH(c at_:Int)(ss:Ad)(x y:Vt)(w:Vz)(e:As)(w':Vz):Prop:=
 ∃v0 v1 v2,e=.returned (.tuple #[.agg #[v0,v1,v2],.agg #[.int .i64 c,.int .i64 at_]])/\EI w' w.heap.size v0 ss/\Fo w' w.heap.size v1 x/\Fo w' w.heap.size v2 y/\Below w.heap.size w w'
def nH.none{c b:Int}(hb:Bl w w'):nH c b [] [] [] w (.returned (.tuple #[.agg #[.slice none 0 0,.slice none 0 0,.slice none 0 0],.agg #[.int .i64 c,.int .i64 b]])) w':=
 ⟨_,_,_,rfl,.inl ⟨rfl,rfl⟩,.inl ⟨rfl,rfl⟩,.inl ⟨rfl,rfl⟩,hb⟩
def OO{p q:cW}{x y:Vt}(c:mJ n p x)(d:mJ n q y)(h:∀i,i<n->p i=q i):x=y:=by
 apply fK;intro i;rcases bB i n with b|b
 . have f:=gE (l:=x) (i:=i) (by rw[c.1];exact b);have g:=gE (l:=y) (i:=i) (by rw[d.1];exact b);have j:=c.2 i _ f;rw[h i b]at j;rw[f,g,IN j (d.2 i _ g)]
 . rw[aO (by rw[c.1];exact b),aO (by rw[d.1];exact b)]
def Ww{p q:cW}{y:Ad}(r:x.length=n)(s:y.length=n)(g:mQ p x)(j:mQ q y)(h:∀i,i<2*n->p i=q i):x=y:=by
 apply fK;intro i;rcases bB i n with k|k
 . have b:=gE (l:=x) (i:=i) oO;have c:=gE (l:=y) (i:=i) oO;obtain⟨d,f⟩:=g i _ b;obtain⟨k1,k2⟩:=j i _ c;rw[h _ oO]at d f;rw[b,c];have m:=IN d k1;have o:=IN f k2;cases hxi:x[i];cases hyi:y[i];rw[hxi,hyi]at m o
   congr 2
 . rw[aO oO,aO oO]
section
variable {js:Ad} {bs:Ap} {hs:Ak} {KF:Nat} {vb:Aa} {vh:Vy} {cv ev bv a:cW} {w w':Vz} {e:As}
def Wv(h:pE w js.length bs.length hs.length KF vb vh cv ev bv a e w')(c:rd (2*js.length) bs.length hs.length vb vh bv)(d:∀x,¬Giv.GvOK (2*js.length) bs.length hs.length (dP vb bs.length vh) cv ev bv a x):nH 8 0 [] [] [] w e w':=by
 obtain⟨h,hb⟩:=h;rcases h with ⟨rfl,_⟩|⟨_,m,_,b,_⟩|⟨_,_,_,_,_,_,m,_,_,_,_,_,_,_,_,_,_,b,_⟩
 . exact .none hb
 . exact absurd (c.A8 b) (d _)
 . exact absurd (c.A8 b) (d _)
def Wu(h:pE w js.length bs.length hs.length KF vb vh cv ev bv a e w')(b:rd (2*js.length) bs.length hs.length vb vh bv)(g:∃x y,Giv.GvOK (2*js.length) bs.length hs.length (dP vb bs.length vh) cv ev bv a x/\Giv.GvOK (2*js.length) bs.length hs.length (dP vb bs.length vh) cv ev bv a y/\∃c,c<2*js.length+(bs.length+hs.length)/\x c≠y c):nH 9 0 [] [] [] w e w':=by
 obtain⟨x,y,d,i,c,l,f⟩:=g;obtain⟨h,hb⟩:=h;rcases h with ⟨_,h⟩|⟨rfl,_⟩|⟨_,_,_,_,_,_,m,_,_,_,_,_,_,_,_,_,_,g,j,_⟩
 . exact absurd (b.qH d) (h x)
 . exact .none hb
 . exact absurd (b.same d i (fun r k=>by rw[j x (b.qH d) r k,j y (b.qH i) r k]) c l) f
def Wt(H:rZ 1048576 js bs hs vb vh)(h:pE w js.length bs.length hs.length KF vb vh cv ev bv a e w')(E:rd (2*js.length) bs.length hs.length vb vh bv){c:Am}(hl:c.length=2*js.length+(bs.length+hs.length))(d:∀y,Giv.GvOK (2*js.length) bs.length hs.length (dP vb bs.length vh) cv ev bv a y↔∀(i:Nat)(t:RT),c[i]?=some t->y i=t.2.1){u:Ad}{x y:Vt}(v:u.length=js.length)(z:mQ (oH c) u)(I:mJ bs.length (fun i=>oH c (2*js.length+i)) x)(J:mJ hs.length (fun i=>oH c (2*js.length+(bs.length+i))) y):nH 0 0 u x y w e w':=by
 have A:=(d (oH c)).2 fun i t s=>Dv s
 have b:∀m,Giv.Settles (2*js.length) bs.length (dP vb bs.length vh) cv ev (hO vh) (jC vh bv hs.length) a m->∀r,r<2*js.length+(bs.length+hs.length)->Giv.gvX (2*js.length) bs.length (dP vb bs.length vh) cv ev a (fun j=>vh.getD j 0) m r=oH c r:=fun m g r k=>by have s:=gE (l:=c) (i:=r) oO;rw[Dv s];exact(d _).1 (E.A8 g) r _ s
 have B:∀(m:cW) r,r<2*js.length->Giv.gvX (2*js.length) bs.length (dP vb bs.length vh) cv ev a (fun j=>vh.getD j 0) m r=m r:=fun m r k=>by unfold Giv.gvX;rw[aN k]
 obtain⟨h,hb⟩:=h;rcases h with ⟨_,h⟩|⟨_,m,F,g,C,r,k,n⟩|⟨K,L,M,N,U,V,m,t,rfl,o,O,D,P,p,Q,q,rfl,g,_,_,f1,f2,f3⟩
 . exact absurd (E.qH A) (h _)
 . rw[<-B m r k,<-B F r k,b m g r oO,b F C r oO]at n
   exact absurd rfl n
 .
  have R:=Ww o v D z (fun i f=>by rw[<-B m i f,b m g i oO]);have G:∀i,i<bs.length->cv i*(fV vb m i - ev i)=Giv.tOf (2*js.length) (dP vb bs.length vh) cv ev m i:=fun i f=>O8 H rfl cv ev m f
  have S:=OO p I (fun i f=>by
   rw[<-b m g (2*js.length+i) oO];unfold Giv.gvX;rw[aH oO,aN oO,fI]
   exact G i f)
  have T:=OO q J (fun i f=>by
   rw[<-b m g (2*js.length+(bs.length+i)) oO];unfold Giv.gvX tZ;rw[aH oO,aH oO,show 2*js.length+(bs.length+i) - 2*js.length - bs.length=i by omega];unfold Giv.putF
   rw[rG bs.length (dP vb bs.length vh (vh.getD i 0)) (fun i=>cv i*(fV vb m i - ev i)) (dP vb bs.length vh (vh.getD i 0)) (Giv.tOf (2*js.length) (dP vb bs.length vh) cv ev m) (fun i f=>by rw[G i f])])
  subst R S T;exact⟨_,_,_,rfl,.inr ⟨K,f1,by rw[o],O⟩,.inr ⟨L,f2,by rw[p.1],P⟩,.inr ⟨M,f3,by rw[q.1],Q⟩,hb⟩
end
def Ws(y z A C:Vx)(c1 c2 c3 S n:Nat)(l:Ad)(m:Ap)(q:Ak)(c x:Int)(w:Vz)(M:jq w)(N:ja w y z A c1 c2 c3 l m q)(P:jL l m q)(b:dW l m q c x)(Q:c≠0):
 Calls prog 17 #[.agg #[.slice y l.length c1,.slice z m.length c2,.slice A q.length c3],.slice C n S] w fun e w'=>e=.returned (.tuple #[.string ⟨#[]⟩,.agg #[.int .i64 c,.int .i64 x]])/\Below w.heap.size w w':=by
 obtain⟨T,U,W,D,E⟩:=Id M N P b Q;clear M N P b Q;obtain⟨r,g⟩:=nm w.heap.size;obtain⟨B,d⟩:=nm ((w.alloc (.cells #[.slice y l.length c1,.slice z m.length c2,.slice A q.length c3] 26)).alloc (.cells #[.int .i64 0,.int .i64 0] 41));have a:=Ub d;have X:=Ug d g;have j:O (SB B (r+1) 41 #[.int .i64 0,.int .i64 0]):=Hi (by rw[<-d,<-g];exact ww w _ _ _);obtain⟨t,F,G⟩:=Ib d g (Hx y z A c1 c2 c3 l m q B (T.o.below a.o) (U.o.below a.o) W.o);have u:w.heap.size<=r+1:=oO;clear d g;go_enter func17,ntmps17;go_wp2_with fail;rw[t.o,F.o];clear t;go_fit G.o;rintro e w1 ⟨c',Y,rfl,b,h⟩;obtain⟨Z,e2⟩:=D.o.inj b;obtain rfl:=Z;obtain rfl:=e2;clear b;obtain⟨V,s⟩:=nm (w1.alloc (.cells #[.int .i64 c,.int .i64 x] 41));have k:Bl B V:=by rw[<-s];exact h.alloc h.size _
 obtain⟨i,H⟩:=Ia (j.o.below k j.o.lt) (a.o.trans (k.mono a.o.size));obtain⟨R,f⟩:=nm w1.heap.size;have v:SB V R 41 #[.int .i64 c,.int .i64 x]:=by rw[<-s,<-f];exact cK w1 _ _
 obtain⟨k0,k1,-⟩:=zc v;obtain⟨y2,y3,-⟩:=zc i.o;have I:=i.o.free 0;have J:=i.o.free 1;have K:R≠r+1:=oC j.o.lt h.size;obtain⟨L,aa⟩:=Ia s f;have e0:(c != 0)=true:=sU E.o;rw[<-s,<-f]at k0 k1;rw[<-s]at y2 y3 I J;rw[<-f]at K;clear s f v k h;go_wp2;go_region
 all_goals
  go_wp2;rw[L.o];refine bK (B7 rfl _ _ (r+1) 41 #[.int .i64 c,.int .i64 x] (0,0) _ rfl ((i.o.set 0 _).set 1 _) underlying41 rfl iy) rfl ?_;exact⟨rfl,((H.o.setCell (p:=⟨r+1,0,none⟩) u _).setCell (p:=⟨r+1,1,none⟩) u _).drew⟩
def Wq(x y z H:Vx)(c1 c2 c3 W n:Nat)(q:Ad)(f:Ap)(k:Ak)(w:Vz)(R:jq w)(S:ja w x y z c1 c2 c3 q f k)(I:jL q f k)(d:dW q f k 0 0)(T:n≠f.length):
 Calls prog 17 #[.agg #[.slice x q.length c1,.slice y f.length c2,.slice z k.length c3],.slice H n W] w fun e w'=>e=.returned (.tuple #[.string ⟨#[]⟩,.agg #[.int .i64 10,.int .i64 ((f.length:Int)+(k.length:Int))]])/\Below w.heap.size w w':=by
 obtain⟨_,X,Y⟩:q.length<=10/\f.length<=24/\k.length<=20:=by obtain⟨vb,vh,r,_⟩:=P6 I d;exact⟨r.j,r.b,r.h⟩
 obtain⟨Z,HF,HZ,J,K⟩:=Id R S I d T;clear R S I d T;obtain⟨A,l⟩:=nm w.heap.size;obtain⟨G,g⟩:=nm ((w.alloc (.cells #[.slice x q.length c1,.slice y f.length c2,.slice z k.length c3] 26)).alloc (.cells #[.int .i64 0,.int .i64 0] 41));have a:=Ub g;have s:=Ug g l;have t:O (SB G (A+1) 41 #[.int .i64 0,.int .i64 0]):=Hi (by rw[<-g,<-l];exact ww w _ _ _);obtain⟨B,L,M⟩:=Ib g l (Hx x y z c1 c2 c3 q f k G (Z.o.below a.o) (HF.o.below a.o) HZ.o);have C:w.heap.size<=A+1:=oO;clear g l;go_enter func17,ntmps17;go_wp2_with fail;rw[B.o,L.o];clear B;go_fit M.o;rintro e w1 ⟨c',aa,rfl,d,u⟩;obtain⟨e1,e2⟩:=J.o.inj d;obtain rfl:=e1;obtain rfl:=e2;clear d;obtain⟨N,i⟩:=nm (w1.alloc (.cells #[.int .i64 0,.int .i64 0] 41));have c:Bl G N:=by rw[<-i];exact u.alloc u.size _
 have U:N.cell? ⟨w1.heap.size,0,none⟩=some (.int .i64 0):=by rw[<-i];exact(cK w1 _ _).cell 0
 obtain⟨V,x1,x2,-⟩:=zc (s.o.below c s.o.lt);obtain⟨D,E⟩:=Ia (t.o.below c t.o.lt) (a.o.trans (c.mono a.o.size));have e0:((n:Int) != (f.length:Int))=true:=by rw[jk];have:=K.o;omega
 obtain⟨F,P⟩:=Ia (Ng x y z c1 c2 c3 q.length f.length k.length N X Y) i;rw[<-i]at V x1 x2 U;clear i c u s t;go_wp2_with fail;rw[P.o];go_fit F.o;rintro e w2 ⟨rfl,v⟩;obtain⟨m,Q⟩:=Ia (D.o.below v D.o.lt) (E.o.trans (v.mono E.o.size));obtain⟨y2,y3,-⟩:=zc m.o;have ab:=m.o.free 0;have ad:=m.o.free 1;clear v V x1 x2 U F;go_wp2;refine bK (B7 rfl _ _ (A+1) 41 #[.int .i64 10,.int .i64 ((f.length:Int)+(k.length:Int))] (0,0) _ rfl ((m.o.set 0 _).set 1 _) underlying41 rfl iy) rfl ?_;exact⟨rfl,(Q.o.setCell (p:=⟨A+1,0,none⟩) C _).setCell (p:=⟨A+1,1,none⟩) C _⟩
theorem OM{a t:cW}:∀n,(∀i,i<n->a i≠0)->zJ t a n=dot n t (fun i=>t i / a i)*(1 / 2)
 |0,_=>by
  show (0:Rat)=0*(1 / 2)
  grind
 |n+1,h=>by
  have c:=h n (nJ _)
  show zJ t a n+t n*t n / (2*a n)=(dot n t (fun i=>t i / a i)+t n*(t n / a n))*(1 / 2)
  rw[OM n (fun i d=>h i oO)];have b:t n*t n / (2*a n)=t n*(t n / a n)*(1 / 2):=by grind
  rw[b];grind
def Gk:∀w,(zeroValue 34).run prog w=.ok (.agg #[.string ⟨#[]⟩,.string ⟨#[]⟩]) w:=by intro w;obtain⟨i,a,h⟩:=aZ.1 Ni;simp only[fZ]at h;simp[zeroValue,typeInfo,a,h]
def Wp(n:Nat):(Builtin.zeroCells (Value.cells (.agg #[.string ⟨#[]⟩,.string ⟨#[]⟩])) n).toList=List.replicate (2*n) (Value.string ⟨#[]⟩):=by
 have e:Value.cells (.agg #[.string ⟨#[]⟩,.string ⟨#[]⟩])=#[.string ⟨#[]⟩,.string ⟨#[]⟩]:=by rfl
 rw[e];simp only[Builtin.zeroCells];apply Bk
 . simp[bV]
 . intro i a b;have h:i % 2=0∨i % 2=1:=oO;rcases h with h|h<;>simp[h]
def Wo(w:Vz)(ty:Vr)(g n:Nat)(C:Vw)(c:SB w g 34 C)(f:C.size=2*n)(h:0<n):
 (Builtin.clear_ #[22] ty #[.slice (some ⟨g,0,none⟩) n n]).run prog w=.ok (.tuple #[]) (w.setCells g 0 (List.replicate (2*n) (.string ⟨#[]⟩))):=by
 have a:=run_storeCells_cells (P:=prog) g 0 (List.replicate (2*n) (Value.string ⟨#[]⟩)) 0 w (fun j d=>by
  rw[jF]at d;simp only[cC,dV];rw[c.cell,iG oO]
  rfl) (fun j d=>c.free _) (by intro v e;rw[sn e];rfl)
 simp only[dV]at a;obtain⟨m,rfl⟩:∃m,n=m+1:=⟨n - 1,oO⟩;have b:=Wp (m+1);simp[Builtin.clear_,nS underlying22,Gk,b,a]
def Wn{f:Ad}(h:EI w B v f)(hB:B<=w.heap.size):
 Calls prog 15 #[v] w fun e w'=>e=.returned (.tuple #[])/\Below B w w'/\∀b t C,SB w b t C->t≠34->SB w' b t C:=by
 obtain⟨w1,q,hb,hk⟩:∃w1,(∀ty,(Builtin.clear_ #[22] ty #[v]).run prog w=.ok (.tuple #[]) w1)/\Below B w w1/\∀b t C,SB w b t C->t≠34->SB w1 b t C:=by
  rcases h with ⟨rfl,rfl⟩|⟨g,r,rfl,i⟩
  . exact⟨w,fun ty=>by simp[Builtin.clear_,underlying,underlying22],ac _ _,fun _ _ _ h _=>h⟩
  .
   rcases eE f.length with j|j
   . exact⟨w,fun ty=>by rw[j];simp[Builtin.clear_,underlying,underlying22],ac _ _,fun _ _ _ h _=>h⟩
   . have k:=(SB.cells (List.replicate (2*f.length) (Value.string ⟨#[]⟩)) 0 i).2
     exact⟨_,fun ty=>Wo w ty g f.length _ i (by rw[lH,xz (c:=S2.cells) (sz:=2) (fun _=>rfl),bV]) j,k.below r hB,fun b t C hC s=>hC.only k (hC.unlike i s)⟩
 obtain⟨a,n,c,rfl⟩:∃a n c,v=.slice a n c:=by
  rcases h with ⟨rfl,_⟩|⟨g,_,rfl,_⟩
  . exact⟨_,_,_,rfl⟩
  . exact⟨_,_,_,rfl⟩
 have d:n=c:=by
  rcases h with ⟨e,_⟩|⟨g,_,e,_⟩
  . injection e with _ u x
    omega
  . injection e with _ u x
    omega
 subst d;obtain⟨l,m⟩:=Ia hb hk;clear hb hk h;have y:a.isSome=true->n<=n:=fun _=>aV _
 go_enter func15,ntmps15;cases a with
 |none=> go_wp2;go_end0;exact⟨rfl,l.o,m.o⟩
 |some a=> obtain⟨g,o,p⟩:=a;go_wp2;go_end0;exact⟨rfl,l.o,m.o⟩
end Go.Proofs.YtfgclhpgdanmfaaGreatDoor
