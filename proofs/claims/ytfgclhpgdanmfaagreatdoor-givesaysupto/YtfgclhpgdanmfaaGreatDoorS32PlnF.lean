import Derived.Test.YtfgclhpgdanmfaaGreatDoorS31KerA
namespace Go.Proofs.YtfgclhpgdanmfaaGreatDoor
set_option linter.defProp false
open Go.RowKit
open Go.Proofs.Tryz
set_option linter.unusedSimpArgs false
set_option linter.unusedVariables false
set_option maxHeartbeats 8000000
set_option maxRecDepth 1000000
variable{a:Aa}{vh:Vy}{B K g k n:Nat}{w:Vz}{x:Ac}
def TX{nb:Nat}{p:Al}{E x:cW}(f:a[k]?=some p)(g:p.1≠p.2.1)(h:∀r,E r=dot k (dP a nb vh r) x)(r:Nat):
 qQ (qQ (qQ (qQ E (2*p.1) (E (2*p.1)+x k*p.2.2.1)) (2*p.1+1) (E (2*p.1+1)+x k*p.2.2.2)) (2*p.2.1) (E (2*p.2.1) - x k*p.2.2.1)) (2*p.2.1+1) (E (2*p.2.1+1) - x k*p.2.2.2) r=dot (k+1) (dP a nb vh r) x:=by
 have i:dP a nb vh r k=mN p r:=by simp only[dP,f]
 simp only[dot];rw[<-h r,i];unfold mN;by_cases b:r=2*p.2.1+1
 . rw[b,yC,aH oO,aH oO,aH oO,aN rfl]
   grind
 rw[sT _ _ b];by_cases c:r=2*p.2.1
 . rw[c,yC,aH oO,aN rfl]
   grind
 rw[sT _ _ c];by_cases d:r=2*p.1+1
 . rw[d,yC,aH oO,aH oO,aN rfl]
   grind
 rw[sT _ _ d];by_cases e:r=2*p.1
 . rw[e,yC,aN rfl]
   grind
 rw[sT _ _ e,aH e,aH c,aH d,aH b];grind
def TW{nb m h:Nat}{E x:cW}(hb:a.length=nb)(b:vh[m]?=some h)(c:∀r,E r=dot (nb+m) (dP a nb vh r) x)(r:Nat):
 qQ E h (E h+x (nb+m)) r=dot (nb+m+1) (dP a nb vh r) x:=by
 have d:dP a nb vh r (nb+m)=if r=h then 1 else 0:=by simp only[dP];rw[aO oO,fI,b];simp
 simp only[dot];rw[<-c r,d];by_cases e:r=h
 . rw[e,yC,aN rfl]
   grind
 . rw[sT _ _ e,aH e]
   grind
def PV.congr{x y:cW}{b:Am}(h:PV w B g n K x b)(a:∀i,x i=y i):PV w B g n K y b:=⟨h.blk,h.low,h.len,fun i t c=>by rw[<-a i];exact h.q i t c⟩
def Fe(a b c:Addr)(x y z:Ac)(v:Vz):Prop:=v.cell? a=some x/\v.cell? b=some y/\v.cell? c=some z
def BZ{a b c:Addr}{y z:Ac}(v:Vz)(d:v.cell? a=some x)(e:v.cell? b=some y)(f:v.cell? c=some z):Fe a b c x y z v:=⟨d,e,f⟩
def Ho(a:Addr)(x:Ac)(v:Vz):Prop:=v.cell? a=some x
def zK{a:Addr}(v:Vz)(h:v.cell? a=some x):Ho a x v:=h
def cQ.pv{w0 w':Vz}{i b c:Nat}{x:cW}{q:Rat}{a:Am}(h:cQ w b q)(d:PV w0 B g n K x a)(hb:Bl w0 w)(e:w.setCell ⟨g,i,none⟩ (.pointer (some ⟨c,0,none⟩))=w'):cQ w' b q:=by rw[<-e];exact h.fp (FQ ((cX g w).setCell _ _) (d.below hb).blk.blk (fun u f=>Du a u (sU f)))
abbrev kF(C k:Nat):Nat:=k*(2*C)+1
def Nz(C k:Nat):kF C (k+1)=kF C k+2*C:=by
 show (k+1)*(2*C)+1=k*(2*C)+1+2*C
 rw[jB];omega
def Bt{C:Nat}(hk:k<=44):kF C k<=88*C+1:=by
 have:=cD (2*C) hk
 show k*(2*C)+1<=_
 omega
def TV(a1 a2 a3 ab ah:Vx)(c1 c2 c3 cb ch KX:Nat)(js:Ad)(M:Ap)(hs:Ak)(vb:Aa)(vh:Vy)(tb th:Am)(x:cW)(w:Vz)(hg:∃m,w.cell? ⟨4,0,none⟩=some (.int .i64 m))(hf:ja w a1 a2 a3 c1 c2 c3 js M hs)(hv:rZ 1048576 js M hs vb vh)(hw:∀(i:Nat)(h:H3),hs[i]?=some h->h.w=1∨h.w=2)(hb:lk w ab tb)(ct:tb.length=M.length)(hh:lk w ah th)(cu:th.length=hs.length)(cv:∀(i:Nat)(t:RT),tb[i]?=some t->t.2.1=x i/\t.2.2<=KX)(cw:∀(i:Nat)(t:RT),th[i]?=some t->t.2.1=x (M.length+i)/\t.2.2<=KX)(ev:KX<=1000000000):
 Calls prog 71 #[.agg #[.slice a1 js.length c1,.slice a2 M.length c2,.slice a3 hs.length c3],.slice ab M.length cb,.slice ah hs.length ch] w fun e w'=>∃(N g:Nat)(ts:Am),N=2*js.length/\e=.returned (.slice (some ⟨g,0,none⟩) N N)/\PV w' w.heap.size g N (88*(KX+8388612)+1) (fun r=>dot (M.length+hs.length) (dP vb M.length vh r) x) ts/\Below w.heap.size w w':=by
 have n1:=hv.j;have n2:=hv.b;have n3:=hv.h;obtain⟨HG,HF,HV,HW,HB,dj,HH,dk,dl⟩:=Ih (lM hg) hf hv hw hb ct hh cu cv;have dm:=Hi cw;obtain⟨C,hC⟩:=nm (KX+8388612);have ew:C<=1008388612:=oO;obtain⟨N,hN⟩:=nm (2*js.length);have eN:IntKind.i64.wrap (2*(js.length:Int))=(N:Int):=by rw[wrap_i64 _ oO oO];omega
 have cx:=fun w=>LN N oO w
 obtain⟨MC,cf⟩:=nm ((List.replicate N (Value.pointer none)).toArray);rw[cf]at cx;obtain⟨B0,be⟩:=nm w.heap.size;obtain⟨V,hV⟩:=nm (w.alloc (.cells #[.slice a1 js.length c1,.slice a2 M.length c2,.slice a3 hs.length c3] 26));have ao:=Ua hV;have ax:=Uf hV be;obtain⟨V1,bu⟩:=nm (V.alloc (.cells MC 63));obtain⟨g,bv⟩:=nm V.heap.size;have cy:=Ua bu;have dn:O (jg V1 g N 0 []):=Hi ⟨by rw[<-bu,<-bv,<-cf];exact cK V _ _,(fun t ht=>by cases ht),rfl,(fun t ht=>by cases ht)⟩;obtain⟨z0,-⟩:=zc ax.o;have a9:=Hi hN;have eu:N<=20:=oO;obtain⟨dp,dq,ay,dr⟩:=Ic hV bu bv be;have ds:O (B0+1=g):=Hi (by rw[<-bv,<-hV,<-be];simp);rw[<-hV,<-be]at z0;clear hg hf hv hw hb ct hh cu cv cw hN cf hV bu bv be;go_enter func71,ntmps71;go_wp2_with fail;rw[dp.o,dq.o];simp only[dr.o];rw[ds.o];clear z0 cx;go_loopw [22] (fun iv wr=>∃(k:Nat)(ts:Am),k<=N/\iv=.int .i64 k/\jg wr g N k ts/\Below V.heap.size V wr) (fun iv _=>N - (intOf iv).toNat)
 case atStart=>exact⟨0,[],cJ _,rfl,dn.o,cy.o⟩
 case round=>
  obtain⟨k,ts,hk,rfl,cz,am⟩:=hrel;obtain⟨cg,I⟩:=Ia cz am;clear cz am;by_cases dt:k<N
  .
   have q1:((k:Int)<(N:Int)):=oO;have du:=Hi (eT.tG ((HG.o.below (ao.o.trans (I.o.mono ao.o.size))).lg));go_wp2_with fail;go_fit du.o;rintro e w2 ⟨b,rfl,n⟩;have dv:=Hi n.base;have dw:=Hi (n.ts _ (bM _)).1;have ba:=cg.o.below n.base;have f0:=ba.blk.free k;have t0:w2.cell? ⟨g,k,none⟩=some (.pointer none):=by rw[ba.blk.cell];have e:(ts.map lS++List.replicate (N - k) (Value.pointer none)).toArray[k]?=(ts.map lS++List.replicate (N - k) (Value.pointer none))[k]?:=sS;rw[e,aX (by rw[bF,ba.len];exact aV _),bF,ba.len,fA,fW,aN oO]
   have dx:=Hi ba;clear n ba;go_wp2;go_roundw
   case rel=>exact⟨k+1,_,oO,by go_num,dx.o.step dt dw.o,(I.o.trans (dv.o.mono I.o.size)).setCell (p:=⟨g,k,none⟩) (show V.heap.size<=g by have:=ay.o;omega) _⟩
   case measure=>exact mI
  .
   obtain rfl:N=k:=oO;have c0:=Hi (PV.of (B:=V.heap.size) cg.o (cO ay.o));obtain⟨-,z1,-⟩:=zc (ax.o.below I.o ax.o.lt);go_wp2_with fail;clear z1;go_loopw [33] (fun iv wr=>∃(k:Nat)(ts:Am),k<=M.length/\iv=.int .i64 k/\PV wr V.heap.size g N (kF C k) (fun r=>dot k (dP vb M.length vh r) x) ts/\Below V.heap.size V wr) (fun iv _=>M.length - (intOf iv).toNat)
   case atStart=>exact⟨0,ts,cJ _,rfl,(c0.o.mono (by show 1<=0*(2*C)+1;omega)).congr (fun i=>rfl),I.o⟩
   case round=>
    clear cg I c0;obtain⟨k,ts,hk,rfl,u,am⟩:=hrel;obtain⟨F,I,ap⟩:=Ib u am (ao.o.trans (am.mono ao.o.size));clear u am;by_cases dy:k<M.length
    .
     obtain⟨b,bw⟩:∃b,M[k]?=some b:=⟨_,gE dy⟩;obtain⟨p,ci⟩:∃p,vb[k]?=some p:=⟨vb[k]'(oB HV.o.lb),gE _⟩;have bc:=HV.o.vb k b p bw ci;obtain⟨bb,bo,rfl,dz,d0,d1,d2,d3,d4,d5⟩:=(HF.o.b.below ap.o).bar bw;obtain⟨A,B,rx,ry⟩:=p;have hA:=bc.a;have hB:=bc.b;have cj:=bc.ne;obtain⟨s,t,_,_,_,_,e1,e2,_⟩:=bc.ex;have ea:=(gZ e1).1;have eb:=(gZ e2).1;simp only at hA hB cj ea eb;rw[hA]at d0;rw[hB]at d1;have q1:((k:Int)<(M.length:Int)):=oO;obtain⟨az,aj⟩:=nm wr.heap.size;obtain⟨X0,an⟩:=nm (wr.alloc (.cells #[.int .i64 (A:Nat),.int .i64 (B:Nat),.string b.c,.string b.e,.string b.l,.string b.m] 72));have aq:=Ua an;have c4:=Uf an aj;have a8:=Hi (ap.o.trans (aq.o.mono ap.o.size));obtain⟨z0,z1,z2,-⟩:=zc (ax.o.below (I.o.trans (aq.o.mono I.o.size)) ax.o.lt);obtain⟨ec,ed,c5,P,ck⟩:=Id (ME a1 (some ⟨bb,bo,none⟩) a3 c1 c2 c3 k js M hs b (A,B,rx,ry) X0 ((HG.o.below a8.o).glob) (HF.o.below a8.o) bw bc n1 n2) ci cj an aj;rw[<-an]at z0 z1 z2;clear bw ci bc hA hB cj e1 e2 an aj;go_wp2_with fail;rw[P.o];simp only[ck.o];clear z0 z1 z2 d0 d1 d2 d3 d4 d5;go_fit ec.o;rintro e Z ⟨b1,b2,rfl,n⟩;obtain⟨⟨xt,tq,tk⟩,ar⟩:∃t,tb[k]?=some t:=⟨tb[k]'(oB dj.o),gE _⟩;obtain⟨bf,au⟩:=dl.o k _ ar;simp only at bf au;subst bf;have ai:=Hi ((I.o.trans (aq.o.mono I.o.size)).trans (n.base.mono (aE I.o.size aq.o.size)));have Q:=a8.o.trans (n.base.mono a8.o.size);have b9:=HB.o.below Q;obtain⟨pb,po,rfl,a0,cl⟩:=HB.o.at ar;have x2:=ce Q a0 cl;have S:=aF a0 Q.size;have c6:=Hi cl;have av:=b9.vs _ (mO ar);have bg:O (cQ Z xt (x k)/\Fits (x k) KX/\0<KX):=Hi ⟨av.1,av.2.1.mono au,aF av.2.2 au⟩;have u:=(F.o.below aq.o).below n.base;have L:=Hi (c4.o.below n.base c4.o.lt);obtain⟨E,hE⟩:∃E:cW,(fun r=>dot k (dP vb M.length vh r) x)=E:=⟨_,rfl⟩;rw[hE]at u;obtain⟨KM,aw⟩:=nm (kF C k);rw[aw]at u;have ee:KM<=88*C+1:=by rw[<-aw];exact Bt oO
     obtain⟨ef,HE⟩:=Ia aw hE;clear F;have F:=Hi u;obtain⟨X,hX⟩:=nm (2*A);obtain⟨Y,hY⟩:=nm (2*A+1);obtain⟨X2,c7⟩:=nm (2*B);obtain⟨Y2,c8⟩:=nm (2*B+1);have wX:IntKind.i64.wrap (2*(A:Int))=(X:Int):=by rw[wrap_i64 _ oO oO];omega
     have wY:IntKind.i64.wrap ((X:Int)+1)=(Y:Int):=by rw[wrap_i64 _ oO oO];omega
     have ey:IntKind.i64.wrap (2*(B:Int))=(X2:Int):=by rw[wrap_i64 _ oO oO];omega
     have ez:IntKind.i64.wrap ((X2:Int)+1)=(Y2:Int):=by rw[wrap_i64 _ oO oO];omega
     have c9:X<N:=oB a9.o;have cm:Y<N:=oB a9.o;have ca:X2<N:=oB a9.o;have bh:Y2<N:=oB a9.o;have iX:(X:Int)<(N:Int):=oO;have iY:(Y:Int)<(N:Int):=oO;have e0:(X2:Int)<(N:Int):=oO;have e5:(Y2:Int)<(N:Int):=oO;have eg:O (2*A=X/\2*A+1=Y/\2*B=X2/\2*B+1=Y2):=Hi ⟨hX,hY,c7,c8⟩;obtain⟨tX,kX,_,z,vX,fX,gX⟩:=u.get c9;obtain⟨tY,kY,_,x1,vY,fY,gY⟩:=u.get cm;obtain⟨H,-⟩:=zc L.o;have T:=u.blk.blk.lt;have U:=L.o.lt;have bd:=L.o.unlike u.blk.blk dD;obtain⟨P,W,aa,ak,f,da⟩:=Ie z x1 x2 H (((n.lg.put vY fY gY).put vX fX gX).put bg.o.1 bg.o.2.1 bg.o.2.2) n.lg;clear n ar au Q b9 av u hE aw hX hY c7 c8 vX fX gX vY fY gY cl;go_wp2_with fail;have R:=BZ Z.drew z x1 x2;have K:=zK Z.drew H;refine ip.BQ (D:=[37,39]) kK R K ?_;refine xG [0,1,2,3,4,5,6,7,8,9,10,11,12,13,14,15,16,17,18,19,22,23,24,25,26,27,28,29,30,31,32,33,20,21,34,35,36] ?_
     iterate 32
      first
       |(
        refine ip.tp (v:=?_) (by rfl) kK kK kK kK iZ (fun _=>R) K (fT ⟨by rfl,?_⟩) ?_
        rotate_left
        (focus(intro wq y;have bi:_=_:=y;clear y;first|(go_simp;done)|(go_simp;with_reducible rfl))))
       |(
        refine ip.sp (v:=?_) (by rfl) kK kK kK kK kK iZ R K (fT ⟨by rfl,?_⟩) ?_
        rotate_left
        (focus(intro wq y;obtain⟨bj,bk,bl⟩:=y;first|(go_simp;done)|(go_simp;with_reducible rfl))))
      (try simp only[Act.put,sA,sB,sC])
     refine C3 kK (by rfl) (fun KK G=>?_);go_simp;apply cM;apply zR (w0:=Z);(first|exact f.o|exact f.o.drew);(repeat(first|exact mH|apply mT));omega;rintro e w3 ⟨b3,rfl,n⟩;clear f R K;have f:=Hi n;clear n z x1 x2 H;obtain⟨z,x1⟩:=Ja f.o.base T P.o W.o;have x2:=ce f.o.base S aa.o;have H:=ce f.o.base U ak.o;refine G.out _ _ ⟨fun _ _=>⟨z,x1,x2⟩,H⟩ ?_;clear G KK;(try simp only[Act.put,sA,sB,sC]);have R:=BZ w3 z x1 x2;have K:=zK w3 H;refine C3 kK (by rfl) (fun KK G=>?_);go_simp;apply cM;apply DK (w0:=Z);(first|exact f.o|exact f.o.drew);(repeat(first|exact mH|apply mT));omega;rintro e w4 ⟨b4,rfl,n⟩;clear f R K;have f:=Hi n;clear n z x1 x2 H;obtain⟨z,x1⟩:=Ja f.o.base T P.o W.o;have x2:=ce f.o.base S aa.o;have H:=ce f.o.base U ak.o;refine G.out _ _ ⟨fun _ _=>⟨z,x1,x2⟩,H⟩ ?_;clear G KK;(try simp only[Act.put,sA,sB,sC]);have R:=BZ w4 z x1 x2;have K:=zK w4 H;refine C3 kK (by rfl) (fun KK G=>?_);go_simp;apply cM;apply zR (w0:=Z);(first|exact f.o|exact f.o.drew);(repeat(first|exact mH|apply mT));omega;rintro e w5 ⟨b5,rfl,n⟩;clear f R K;have f:=Hi n;clear n z x1 x2 H;obtain⟨z,x1⟩:=Ja f.o.base T P.o W.o;have x2:=ce f.o.base S aa.o;have H:=ce f.o.base U ak.o;refine G.out _ _ ⟨fun _ _=>⟨z,x1,x2⟩,H⟩ ?_;clear G KK;(try simp only[Act.put,sA,sB,sC]);have R:=BZ w5 z x1 x2;have K:=zK w5 H;refine C3 kK (by rfl) (fun KK G=>?_);go_simp;apply cM;apply DK (w0:=Z);(first|exact f.o|exact f.o.drew);(repeat(first|exact mH|apply mT));omega;rintro e w6 ⟨b6,rfl,n⟩;clear f R K;have f:=Hi n;clear n z x1 x2 H;obtain⟨z,x1⟩:=Ja f.o.base T P.o W.o;have x2:=ce f.o.base S aa.o;have H:=ce f.o.base U ak.o;refine G.out _ _ ⟨fun _ _=>⟨z,x1,x2⟩,H⟩ ?_;clear G KK;(try simp only[Act.put,sA,sB,sC]);have R:=BZ w6 z x1 x2;have K:=zK w6 H
     first
      |(
       refine ip.tp (v:=?_) (by rfl) kK kK kK kK iZ (fun _=>R) K (fT ⟨by rfl,?_⟩) ?_
       rotate_left
       (focus(intro wq y;have bi:_=_:=y;clear y;first|(go_simp;done)|(go_simp;with_reducible rfl))))
      |(
       refine ip.sp (v:=?_) (by rfl) kK kK kK kK kK iZ R K (fT ⟨by rfl,?_⟩) ?_
       rotate_left
       (focus(intro wq y;obtain⟨bj,bk,bl⟩:=y;first|(go_simp;done)|(go_simp;with_reducible rfl))))
     (try simp only[Act.put,sA,sB,sC]);refine qT ?_;have al:=F.o.below f.o.base;have m4:=f.o.ts (b4,_,_) (cU _ (cU _ (bM _)));have m6:=f.o.ts (b6,_,_) (bM _);have f0:=al.blk.blk.free X;have ad:=(al.mono (K':=KM+C) oO).set c9 m4.1 (m4.2.1.mono (by simp only;omega)) oO (aV (KM+C));obtain⟨Z1,ae⟩:=nm (w6.setCell ⟨g,X,none⟩ (.pointer (some ⟨b4,0,none⟩)));rw[ae]at ad;have f1:=ad.blk.blk.free Y;obtain⟨bY,kY,_,y1,_⟩:=ad.get cm;have a4:cE g w6 Z1:=by rw[<-ae];exact(cX g w6).setCell _ _
     have a5:=(L.o.below f.o.base L.o.lt).only a4 bd;have a6:Z1.cell? ⟨az,0,none⟩=some (.int .i64 (A:Nat)):=a5.cell 0;have v6:=m6.1.pv F.o f.o.base ae;obtain⟨Z2,af⟩:=nm (Z1.setCell ⟨g,Y,none⟩ (.pointer (some ⟨b6,0,none⟩)));have a7:=ad.set cm v6 (m6.2.1.mono (by simp only;omega)) oO (aV (KM+C));rw[af]at a7;have bx:=Hi a7;have bm:O (∀(c:Nat)(q:Rat),cQ w6 c q->cQ Z2 c q):=Hi (fun c q hc=>(hc.pv F.o f.o.base ae).pv ad bR af);have bn:O (Bl V Z2):=Hi (by
      rw[<-af]
      exact(((ai.o.trans (f.o.base.mono ai.o.size)).trans (a4.below (cO ay.o) (aE ai.o.size f.o.base.size)))).setCell (p:=⟨g,Y,none⟩) (cO ay.o) _)
     have bq:O (SB Z2 az 72 #[.int .i64 (A:Nat),.int .i64 (B:Nat),.string b.c,.string b.e,.string b.l,.string b.m]):=Hi (by
      rw[<-af]
      exact a5.only ((cX g Z1).setCell _ _) bd)
     obtain⟨bz,b0,db⟩:=Ib ae af m4;clear al m4 m6 ad a7 a4 a5 v6 ae af;refine Jj (i:=37) kK rfl (fun KK G=>?_);go_simp;rw[bz.o];refine G.out _ _ ⟨fun h=>absurd dD h,a6⟩ ?_;clear G KK R K z x1 x2 H f0;(try simp only[Act.put,sA,sB,sC]);have K:=zK Z1 a6;refine ip.zZ (i:=38) (v:=?_) rfl kK kK kK kK (fun _ _ _ h=>h) (fT ⟨by rfl,?_⟩) (fun h=>absurd h (FD (d:=37) (by rfl) (by rfl))) K ?_
     rotate_left
     . intro wq y;clear y
       first|(go_simp;done)|(go_simp;with_reducible rfl)
     (try simp only[Act.put,sA,sB,sC]);have b7:O (Z2.cell? ⟨az,0,none⟩=some (.int .i64 (A:Nat))):=Hi (bq.o.cell 0);refine Jj (i:=39) kK rfl (fun KK G=>?_);go_simp;rw[b0.o];refine G.out _ _ ⟨fun h=>absurd dD h,b7.o⟩ ?_;clear G KK K a6 f1 y1;(try simp only[Act.put,sA,sB,sC]);refine ip.done kK ?_ _;have dc:=bm.o xt _ (f.o.ts (xt,_,_) (cU _ (cU _ (cU _ (cU _ (bM _)))))).1;have cc:=bm.o b1 _ (f.o.ts (b1,_,_) (cU _ (cU _ (cU _ (cU _ (cU _ (cU _ (cU _ (bM _))))))))).1;have cd:=bm.o b2 _ (f.o.ts (b2,_,_) (cU _ (cU _ (cU _ (cU _ (cU _ (cU _ (cU _ (cU _ (bM _)))))))))).1;obtain⟨E1,cn⟩:∃E1:cW,qQ (qQ E X (E X+x k*rx)) Y (E Y+x k*ry)=E1:=⟨_,rfl⟩;have u:=bx.o;rw[cn]at u;have Q:=ao.o.trans (bn.o.mono ao.o.size);have x2:=ce Q a0 c6.o;clear f F P W aa ak ai L T S U bd bz b0 db bm b7;obtain⟨Z,br⟩:=nm Z2;subst br;have S:=aF a0 Q.size;obtain⟨tX,e6,_,z,vX,fX,gX⟩:=u.get ca;obtain⟨tY,e7,_,x1,vY,fY,gY⟩:=u.get bh;have L:=bq;have ai:=bn;obtain⟨-,H,-⟩:=zc L.o;have T:=u.blk.blk.lt;have U:=L.o.lt;have bd:=L.o.unlike u.blk.blk dD;obtain⟨P,W,aa,ak⟩:=Ic z x1 x2 H;have f:O (eT Z2 Z2 [(xt,x k,KX),(tX,E1 X2,KM+C),(tY,E1 Y2,KM+C),(b1,rx,8388611),(b2,ry,8388611)]):=Hi ((((((HG.o.below Q).lg.put cd (da.o.ts _ (cU _ (bM _))).2.1 (show 0<8388611 by decide)).put cc (da.o.ts _ (bM _)).2.1 (show 0<8388611 by decide)).put vY fY gY).put vX fX gX).put dc bg.o.2.1 bg.o.2.2);obtain⟨F,cp⟩:=Ia u cn;obtain⟨Z,br⟩:=nm Z2;rw[br]at z x1 x2 H P W aa ak f F L ai T U S;rw[br];clear bx bn bq dc cc cd cn u Q vX fX gX vY fY gY br Z2;go_wp2_with fail;have R:=BZ Z.drew z x1 x2;have K:=zK Z.drew H;refine ip.BQ (D:=[37,39]) kK R K ?_;refine xG [0,1,2,3,4,5,6,7,8,9,10,11,12,13,14,15,16,17,18,19,22,23,24,25,26,27,28,29,30,31,32,33,20,21,34,35,36] ?_
     iterate 32
      first
       |(
        refine ip.tp (v:=?_) (by rfl) kK kK kK kK iZ (fun _=>R) K (fT ⟨by rfl,?_⟩) ?_
        rotate_left
        (focus(intro wq y;have bi:_=_:=y;clear y;first|(go_simp;done)|(go_simp;with_reducible rfl))))
       |(
        refine ip.sp (v:=?_) (by rfl) kK kK kK kK kK iZ R K (fT ⟨by rfl,?_⟩) ?_
        rotate_left
        (focus(intro wq y;obtain⟨bj,bk,bl⟩:=y;first|(go_simp;done)|(go_simp;with_reducible rfl))))
      (try simp only[Act.put,sA,sB,sC])
     refine C3 kK (by rfl) (fun KK G=>?_);go_simp;apply cM;apply zR (w0:=Z);(first|exact f.o|exact f.o.drew);(repeat(first|exact mH|apply mT));omega;rintro e w3 ⟨b3,rfl,n⟩;clear f R K;have f:=Hi n;clear n z x1 x2 H;obtain⟨z,x1⟩:=Ja f.o.base T P.o W.o;have x2:=ce f.o.base S aa.o;have H:=ce f.o.base U ak.o;refine G.out _ _ ⟨fun _ _=>⟨z,x1,x2⟩,H⟩ ?_;clear G KK;(try simp only[Act.put,sA,sB,sC]);have R:=BZ w3 z x1 x2;have K:=zK w3 H;refine C3 kK (by rfl) (fun KK G=>?_);go_simp;apply cM;apply zP (w0:=Z);(first|exact f.o|exact f.o.drew);(repeat(first|exact mH|apply mT));omega;rintro e w4 ⟨b4,rfl,n⟩;clear f R K;have f:=Hi n;clear n z x1 x2 H;obtain⟨z,x1⟩:=Ja f.o.base T P.o W.o;have x2:=ce f.o.base S aa.o;have H:=ce f.o.base U ak.o;refine G.out _ _ ⟨fun _ _=>⟨z,x1,x2⟩,H⟩ ?_;clear G KK;(try simp only[Act.put,sA,sB,sC]);have R:=BZ w4 z x1 x2;have K:=zK w4 H;refine C3 kK (by rfl) (fun KK G=>?_);go_simp;apply cM;apply zR (w0:=Z);(first|exact f.o|exact f.o.drew);(repeat(first|exact mH|apply mT));omega;rintro e w5 ⟨b5,rfl,n⟩;clear f R K;have f:=Hi n;clear n z x1 x2 H;obtain⟨z,x1⟩:=Ja f.o.base T P.o W.o;have x2:=ce f.o.base S aa.o;have H:=ce f.o.base U ak.o;refine G.out _ _ ⟨fun _ _=>⟨z,x1,x2⟩,H⟩ ?_;clear G KK;(try simp only[Act.put,sA,sB,sC]);have R:=BZ w5 z x1 x2;have K:=zK w5 H;refine C3 kK (by rfl) (fun KK G=>?_);go_simp;apply cM;apply zP (w0:=Z);(first|exact f.o|exact f.o.drew);(repeat(first|exact mH|apply mT));omega;rintro e w6 ⟨b6,rfl,n⟩;clear f R K;have f:=Hi n;clear n z x1 x2 H;obtain⟨z,x1⟩:=Ja f.o.base T P.o W.o;have x2:=ce f.o.base S aa.o;have H:=ce f.o.base U ak.o;refine G.out _ _ ⟨fun _ _=>⟨z,x1,x2⟩,H⟩ ?_;clear G KK;(try simp only[Act.put,sA,sB,sC]);have R:=BZ w6 z x1 x2;have K:=zK w6 H
     first
      |(
       refine ip.tp (v:=?_) (by rfl) kK kK kK kK iZ (fun _=>R) K (fT ⟨by rfl,?_⟩) ?_
       rotate_left
       (focus(intro wq y;have bi:_=_:=y;clear y;first|(go_simp;done)|(go_simp;with_reducible rfl))))
      |(
       refine ip.sp (v:=?_) (by rfl) kK kK kK kK kK iZ R K (fT ⟨by rfl,?_⟩) ?_
       rotate_left
       (focus(intro wq y;obtain⟨bj,bk,bl⟩:=y;first|(go_simp;done)|(go_simp;with_reducible rfl))))
     (try simp only[Act.put,sA,sB,sC]);refine qT ?_;have al:=F.o.below f.o.base;have m4:=f.o.ts (b4,_,_) (cU _ (cU _ (bM _)));have m6:=f.o.ts (b6,_,_) (bM _);have f0:=al.blk.blk.free X2;have ad:=(al.mono (K':=(KM+C)+C) oO).set ca m4.1 (m4.2.1.mono (by simp only;omega)) oO (aV ((KM+C)+C));obtain⟨Z1,ae⟩:=nm (w6.setCell ⟨g,X2,none⟩ (.pointer (some ⟨b4,0,none⟩)));rw[ae]at ad;have f1:=ad.blk.blk.free Y2;obtain⟨bY,kY,_,y1,_⟩:=ad.get bh;have a4:cE g w6 Z1:=by rw[<-ae];exact(cX g w6).setCell _ _
     have a5:=(L.o.below f.o.base L.o.lt).only a4 bd;have a6:Z1.cell? ⟨az,1,none⟩=some (.int .i64 (B:Nat)):=a5.cell 1;have v6:=m6.1.pv F.o f.o.base ae;obtain⟨Z2,af⟩:=nm (Z1.setCell ⟨g,Y2,none⟩ (.pointer (some ⟨b6,0,none⟩)));have a7:=ad.set bh v6 (m6.2.1.mono (by simp only;omega)) oO (aV ((KM+C)+C));rw[af]at a7;have bx:=Hi a7;have bm:O (∀(c:Nat)(q:Rat),cQ w6 c q->cQ Z2 c q):=Hi (fun c q hc=>(hc.pv F.o f.o.base ae).pv ad bR af);have bn:O (Bl V Z2):=Hi (by
      rw[<-af]
      exact(((ai.o.trans (f.o.base.mono ai.o.size)).trans (a4.below (cO ay.o) (aE ai.o.size f.o.base.size)))).setCell (p:=⟨g,Y2,none⟩) (cO ay.o) _)
     have bq:O (SB Z2 az 72 #[.int .i64 (A:Nat),.int .i64 (B:Nat),.string b.c,.string b.e,.string b.l,.string b.m]):=Hi (by
      rw[<-af]
      exact a5.only ((cX g Z1).setCell _ _) bd)
     obtain⟨bz,b0,db⟩:=Ib ae af m4;clear al m4 m6 ad a7 a4 a5 v6 ae af;refine Jj (i:=37) kK rfl (fun KK G=>?_);go_simp;rw[bz.o];refine G.out _ _ ⟨fun h=>absurd dD h,a6⟩ ?_;clear G KK R K z x1 x2 H f0;(try simp only[Act.put,sA,sB,sC]);have K:=zK Z1 a6;refine ip.zZ (i:=38) (v:=?_) rfl kK kK kK kK (fun _ _ _ h=>h) (fT ⟨by rfl,?_⟩) (fun h=>absurd h (FD (d:=37) (by rfl) (by rfl))) K ?_
     rotate_left
     . intro wq y;clear y
       first|(go_simp;done)|(go_simp;with_reducible rfl)
     (try simp only[Act.put,sA,sB,sC]);have b7:O (Z2.cell? ⟨az,1,none⟩=some (.int .i64 (B:Nat))):=Hi (bq.o.cell 1);refine Jj (i:=39) kK rfl (fun KK G=>?_);go_simp;rw[b0.o];refine G.out _ _ ⟨fun h=>absurd dD h,b7.o⟩ ?_;clear G KK K a6 f1 y1;(try simp only[Act.put,sA,sB,sC]);refine ip.done kK ?_ _;have cq:O (PV Z2 V.heap.size g N (kF C (k+1)) (fun r=>dot (k+1) (dP vb M.length vh r) x) _):=Hi (by
      have h1:=bx.o;obtain⟨e1,e2,e3,e4⟩:=eg.o;have e8:=c5.o;have f1:E1 X2=E X2:=by rw[<-cp.o,sT _ _ oO,sT _ _ oO]
      have f2:E1 Y2=E Y2:=by rw[<-cp.o,sT _ _ oO,sT _ _ oO]
      rw[f1,f2,<-cp.o]at h1;have eh:=Nz C k;rw[ef.o]at eh;refine(h1.mono oO).congr (fun r=>?_);have:=TX (vh:=vh) (nb:=M.length) (x:=x) ed.o c5.o (E:=E) (fun r=>by rw[<-HE.o]) r;simp only at this;rw[e2,e1,e4,e3]at this
      exact this)
     go_wp2;go_roundw
     case rel=>exact⟨k+1,_,oO,by go_num,cq.o,bn.o⟩
     case measure=>exact mI
    .
     obtain rfl:k=M.length:=oO;obtain⟨-,-,z2,-⟩:=zc (ax.o.below I.o ax.o.lt);go_wp2_with fail;clear z2;go_loopw [124] (fun iv wr=>∃(m:Nat)(ts:Am),m<=hs.length/\iv=.int .i64 m/\PV wr V.heap.size g N (kF C (M.length+m)) (fun r=>dot (M.length+m) (dP vb M.length vh r) x) ts/\Below V.heap.size V wr) (fun iv _=>hs.length - (intOf iv).toNat)
     case atStart=>exact⟨0,ts,cJ _,rfl,F.o,I.o⟩
     case round=>
      clear F I ap;obtain⟨m,ts,hm,rfl,u,am⟩:=hrel;obtain⟨F,I,ap⟩:=Ib u am (ao.o.trans (am.mono ao.o.size));clear u am;by_cases ei:m<hs.length
      .
       obtain⟨h,b8⟩:∃h,hs[m]?=some h:=⟨_,gE ei⟩;obtain⟨R0,cr⟩:∃r,vh[m]?=some r:=⟨vh[m]'(oB HV.o.lh),gE _⟩;obtain⟨J,hJ,ej,cs⟩:=(HV.o.vh m h R0 b8 cr).ex;obtain⟨bb,bo,rfl,dz,d0,d1,d2⟩:=(HF.o.h.below ap.o).sJ b8;obtain⟨WW,dd,de,ek⟩:∃WW:Nat,h.w=(WW:Int)/\(WW=1∨WW=2)/\R0+1=2*J+WW:=by
        rcases HW.o m h b8 with e|e
        . exact⟨1,by rw[e];rfl,.inl rfl,by rw[cs,aN e]⟩
        . exact⟨2,by rw[e];rfl,.inr rfl,by rw[cs,aH oO]⟩
       rw[hJ]at d0;rw[dd]at d1;obtain⟨J2,em⟩:=nm (2*J);obtain⟨S1,en⟩:=nm (J2+WW);have w1:IntKind.i64.wrap (2*(J:Int))=(J2:Int):=by rw[wrap_i64 _ oO oO];omega
       have w2:IntKind.i64.wrap ((J2:Int)+(WW:Int))=(S1:Int):=by rw[wrap_i64 _ oO oO];omega
       have w3:IntKind.i64.wrap ((S1:Int) - 1)=(R0:Int):=by rw[wrap_i64 _ oO oO];omega
       have df:R0<N:=oB a9.o;have iR:(R0:Int)<(N:Int):=oO;have q1:((m:Int)<(hs.length:Int)):=oO;obtain⟨az,aj⟩:=nm wr.heap.size;obtain⟨Z,an⟩:=nm (wr.alloc (.cells #[.int .i64 (J:Nat),.int .i64 (WW:Nat),.string h.q] 74));have aq:=Ua an;have L:=Uf an aj;have ai:=Hi (I.o.trans (aq.o.mono I.o.size));have Q:=ap.o.trans (aq.o.mono ap.o.size);obtain⟨⟨xt,tq,tk⟩,ar⟩:∃t,th[m]?=some t:=⟨th[m]'(oB dk.o),gE _⟩;obtain⟨bf,au⟩:=dm.o m _ ar;simp only at bf au;subst bf;obtain⟨pb,po,rfl,a0,dg⟩:=HH.o.at ar;have x3:=ce Q a0 dg;have S:=aF a0 Q.size;have av:=(HH.o.below Q).vs _ (mO ar);have u:=F.o.below aq.o;obtain⟨E,hE⟩:∃E:cW,(fun r=>dot (M.length+m) (dP vb M.length vh r) x)=E:=⟨_,rfl⟩;rw[hE]at u;obtain⟨KM,aw⟩:=nm (kF C (M.length+m));rw[aw]at u;have ee:KM<=88*C+1:=by rw[<-aw];exact Bt oO
       have dh:kF C (M.length+(m+1))=KM+2*C:=by rw[<-aw];exact Nz C (M.length+m)
       obtain⟨tX,kX,_,x2,vX,fX,gX⟩:=u.get df;obtain⟨z,x1,-⟩:=zc L.o;have T:=u.blk.blk.lt;have U:=L.o.lt;obtain⟨P,W,aa,eo⟩:=Ic z x1 x2 x3;have f:O (eT Z Z [(xt,x (M.length+m),KX),(tX,E R0,KM)]):=Hi (((HG.o.below Q).lg.put vX fX gX).put av.1 (av.2.1.mono au) (aF av.2.2 au));clear F;obtain⟨F,HE,ep,eq,er,ck⟩:=Ie u hE dh cr an aj;clear b8 cr hJ ej cs dd de ek em en aj an Q ar au dg av u hE aw dh vX fX gX;go_wp2_with fail;rw[er.o];simp only[ck.o];clear d0 d1 d2;have ag:=Fm Z.drew z x1 x2 x3;refine dK.BQ (k:=24) kK ag ?_;refine xG [0,1,2,3,4,5,6,7,8,9,10,11,12,13,14,15,16,17,18,19,20,21,22,23,24] ?_
       iterate 22
        refine xH (v:=?_) (by rfl) kK kK kK kK iZ ag (fT ⟨by rfl,?_⟩) ?_
        rotate_left 1
        (focus(intro wq y;obtain⟨bj,bk,bl,es⟩:=y;first|(go_simp;done)|(go_simp;with_reducible rfl)));(try simp only[Act.put,sA,sB,sC])
       clear ag;refine zW kK (by rfl) (fun KK G=>?_);go_simp;apply cM;apply DK (w0:=Z);exact f.o.drew;(repeat(first|exact mH|apply mT));omega;rintro e wn ⟨nb,rfl,n⟩;obtain⟨bt,di⟩:=Ia n.base (n.ts _ (bM _));clear z x1 x2 x3 n;obtain⟨z,x1⟩:=Ja bt.o U P.o W.o;have x2:=ce bt.o T aa.o;have x3:=ce bt.o S eo.o;have al:=F.o.below bt.o;have f0:=al.blk.blk.free R0;have et:=Hi al;clear al;refine G.out _ _ (fun _=>⟨z,x1,x2,x3⟩) ?_;clear G KK;(try simp only[Act.put,sA,sB,sC]);have ag:=Fm wn z x1 x2 x3;refine xH (v:=?_) (by rfl) kK kK kK kK iZ ag (fT ⟨by rfl,?_⟩) ?_
       rotate_left 1
       (focus(intro wq y;obtain⟨bj,bk,bl,es⟩:=y;first|(go_simp;done)|(go_simp;with_reducible rfl)));(try simp only[Act.put,sA,sB,sC]);clear ag;refine zW kK (by rfl) (fun KK G=>?_);go_simp;refine G.out _ _ (fun h=>absurd rfl h) ?_;clear G KK;(try simp only[Act.put,sA,sB,sC]);refine qT (vD kK ?_ _);clear z x1 x2 x3 f0;have cq:O (PV (wn.setCell ⟨g,R0,none⟩ (.pointer (some ⟨nb,0,none⟩))) V.heap.size g N (kF C (M.length+(m+1))) (fun r=>dot (M.length+(m+1)) (dP vb M.length vh r) x) _):=Hi (by
        rw[ep.o]
        exact((et.o.mono (K':=KM+2*C) oO).set df di.o.1 (di.o.2.1.mono (by simp only;omega)) oO lZ).congr (fun r=>TW HV.o.lb eq.o (fun r=>by rw[<-HE.o]) r))
       go_wp2;go_roundw
       case rel=>exact⟨m+1,_,oO,by go_num,cq.o,(ai.o.trans (bt.o.mono ai.o.size)).setCell (p:=⟨g,R0,none⟩) (cO ay.o) _⟩
       case measure=>exact mI
      . obtain rfl:m=hs.length:=oO;go_wp2;go_ret;refine⟨N,g,ts,a9.o.symm,rfl,?_,ap.o⟩;have h1:=F.o;exact⟨h1.blk,aE ao.o.size h1.low,h1.len,fun i t ht=>⟨(h1.q i t ht).1,aE (h1.q i t ht).2 (aE (Bt oO) oO)⟩⟩
end Go.Proofs.YtfgclhpgdanmfaaGreatDoor
