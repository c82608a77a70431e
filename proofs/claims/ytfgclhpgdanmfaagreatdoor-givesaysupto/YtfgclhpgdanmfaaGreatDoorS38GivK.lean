import Derived.Test.YtfgclhpgdanmfaaGreatDoorS37GivH
namespace Go.Proofs.YtfgclhpgdanmfaaGreatDoor
set_option linter.defProp false
open Go.RowKit
open Go.Proofs.Tryz
set_option linter.unusedSimpArgs false
set_option linter.unusedVariables false
set_option maxHeartbeats 8000000
set_option maxRecDepth 1000000
variable{c u w:Vz}{B G K K' N W b g k n:Nat}{M:Ae}{a:Vy}{v:Ac}{us:Ah}
def PU(a:Vy)(W:Nat):pX (a.map (jR W)).toArray:=fun i n=>by rw[aK,aP];cases a[i]?<;>simp[jR]
def GA.only{j:Nat}{d k:Vy}(h:GA u B G W K d M)(a:cE g u c)(hs:SB u g 90 (k.map (jR j)).toArray)(l:g<B):GA c B G W K d M:=by refine⟨⟨ac _ _,h.gm.o.only a (oB h.gm.lo),fun r e f=>?_,h.gm.nd,h.gm.ne,h.gm.lo,h.gm.los⟩,aF h.hi a.size⟩;obtain⟨us,b,m⟩:=h.gm.row r e f;exact⟨us,⟨b.blk.only a (oB (h.gm.los r e f)),fun t i=>⟨(b.ts t i).1.only a hs (PU _ _),(b.ts t i).2⟩⟩,m⟩
def FB.only{q:Rat}{f:Nat}{i:Vy}(h:FB q k u b)(d:cE g u c)(hs:SB u g 90 (i.map (jR f)).toArray)(a:b≠g):FB q k c b:=by obtain⟨x,y,z,j,e⟩:=h;exact⟨x,y,z,j.only d a,e.1.only d hs (PU _ _),e.2⟩
def BP(B N:Nat):Fact:=fun v u=>∃(G:Nat)(gs:Vy),v=.slice (some ⟨G,0,none⟩) N N/\gs.length=N/\GK u B G N gs (fun _=>1) (fun _ _=>0)
def BP.eL(B N:Nat):mP (BP B N):=fun _ _ _ hb ⟨G,a,e,b,c⟩=>⟨G,a,e,b,c.below hb⟩
def W3(N B:Nat)(w:Vz)(i:N<=1000)(hB:B<=w.heap.size):Calls prog 146 #[.int .i64 N,.int .i64 N] w (cS w (BP B N)):=by refine(IT N N w i i).mono ?_;rintro e v ⟨⟨G,k,rfl,f,j,b,a,h⟩,hb⟩;refine⟨_,rfl,hb,G,k,rfl,f,b,fun r g d=>⟨_,(a r g d).1,sS,fun c t l=>?_⟩,h,fun r g d=>by have:=(a r g d).2;omega,oO,fun r g d=>by have:=(a r g d).2;omega⟩;obtain⟨_,rfl⟩:=fM.1 (mO l);exact⟨by simp[FE.zero],by simp[FE.zero]⟩
def sE(B n W K:Nat)(M:Ae):Fact:=fun v u=>∃(G:Nat)(gs:Vy),v=.slice (some ⟨G,0,none⟩) n n/\gs.length=n/\GA u B G W K gs M
def sE.eL(B n W K:Nat)(M:Ae):mP (sE B n W K M):=fun _ _ _ hb ⟨G,a,e,b,c⟩=>⟨G,a,e,b,c.below hb⟩
def GA.low{B':Nat}(h:GA u B G W K a M)(hB:B'<=B):GA u B' G W K a M:=⟨⟨h.gm.base,h.gm.o,h.gm.row,h.gm.nd,h.gm.ne,aE hB h.gm.lo,fun r g b=>aE hB (h.gm.los r g b)⟩,h.hi⟩
section
variable {a1 a2 a3:Vx} {c1 c2 c3:Nat} {js:Ad} {bs:Ap} {hs:Ak} {vb:Aa} {vh:Vy}
def JK(N W B:Nat)(w:Vz)(f:jq w)(g:ja w a1 a2 a3 c1 c2 c3 js bs hs)(a:rZ 1048576 js bs hs vb vh)(p:2*js.length=N)(hW:bs.length+hs.length=W)(hB:B<=w.heap.size):
 Calls prog 96 #[.agg #[.slice a1 js.length c1,.slice a2 bs.length c2,.slice a3 hs.length c3]] w (cS w (sE B N W 8388611 (dP vb bs.length vh))):=by
 refine(Qb a1 a2 a3 c1 c2 c3 1048576 8388611 js bs hs vb vh w f g a.j a.b a.h a.lb a.lh a.vb a.vh a.n dD).mono ?_;rintro e w2 ⟨i,k,GR,l,m,o,rfl,d,c⟩;obtain rfl:i=N:=oO;obtain rfl:k=W:=oO;exact⟨_,rfl,c.base,GR,l,rfl,d,c.toGM.ga.low oO⟩
end
def W2{V:Nat}(B':Nat)(h:sE B n W K M v w)(hl:n<=1000)(hW:W<=1000)(i:V<=W)(c:0<K)(hB:B'<=w.heap.size):Calls prog 147 #[v,.int .i64 V] w (cS w (sE B' V n K (oG V M n 0))):=by obtain⟨G,j,rfl,d,f⟩:=h;refine(W5 G B W V K n j M w f d hl hW i c).mono ?_;rintro e w' ⟨k,g,rfl,a,b⟩;exact⟨_,rfl,b.base,k,g,rfl,a,b.ga.low hB⟩
def WZ(a1 a2 a3:Vx)(c1 c2 c3 N KT:Nat)(js:Ad)(bs:Ap)(hs:Ak)(vb:Aa)(vh:Vy)(E:cW)(w:Vz)(hg:jq w)(hf:ja w a1 a2 a3 c1 c2 c3 js bs hs)(hv:rZ 1048576 js bs hs vb vh)(hc:∀(i:Nat)(b:B6),bs[i]?=some b->il b.c.data.toList (E i)/\b.c.size<=1048576)(hN:2*js.length=N)(a:KT=1+24*20971528):
 Calls prog 94 #[.agg #[.slice a1 js.length c1,.slice a2 bs.length c2,.slice a3 hs.length c3]] w (cS w (sE w.heap.size N N KT (Giv.stf bs.length (dP vb bs.length vh) E))):=by
 obtain⟨V,hV⟩:=nm (w.alloc (.cells #[.slice a1 js.length c1,.slice a2 bs.length c2,.slice a3 hs.length c3] 26));have b4:Bl w V:=by rw[<-hV];exact(ac _ _).alloc lZ _
 have b5:SB V w.heap.size 26 #[.slice a1 js.length c1,.slice a2 bs.length c2,.slice a3 hs.length c3]:=by rw[<-hV];exact cK w _ _
 obtain⟨bi,HG,HF,HV,HC,b6,b7,HN,HK⟩:=Ih b5 hg hf hv hc b4 hV hN a;have n1:=hv.j;have n2:=hv.b;have n3:=hv.h;have et:N<=20:=oO;clear b4 hV b5 hg hf hv a hc hN;go_enter func94,ntmps94;go_wp2_with fail;rw[b7.o];obtain⟨Y,hY⟩:=nm V.drew;have bj:Bl V Y:=by rw[<-hY];exact(ac _ _).drew
 have Q:=bi.o.below bj bi.o.lt;obtain⟨s,A,B⟩:=Ib (Q.cell 0) (Q.cell 1) (Q.cell 2);simp only[aK,aI,aM]at s A B;obtain⟨m,bk,bl⟩:=Ib Q.lt Q (b6.o.trans (bj.mono b6.o.size));obtain⟨U,ak⟩:=nm w.heap.size;have b8:O (∀u,Calls prog 87 #[.agg #[.slice a1 js.length c1,.slice a2 bs.length c2,.slice a3 hs.length c3]] u (cS u (Is (.int .i64 N)))):=Hi (fun u=>(Fv a1 a2 a3 c1 c2 c3 js.length bs.length hs.length u n1).mono (fun e w' h=>⟨_,h.1,h.2,by have:=HN.o;show _=_;rw[show 2*(js.length:Int)=(N:Int) by omega]⟩));obtain⟨al,bm⟩:=Ia hY ak;have du:O (U<=Y.heap.size):=Hi (by rw[<-ak];exact bl.o.size);rw[ak]at s A B m bk ⊢;clear hY bj Q ak b7 bi;refine ou 5 (fun j=>some (9+j)) ?_;rw[al.o];refine gJ (c:=?_) [] (fun w hb=>?_) ?_;rotate_left
 . intro K a;obtain⟨e0,e1,W⟩:=Jb hb m.o s.o A.o B.o;go_simp;exact a
 refine fP (φ:=Is (.int .i64 N)) [0] ((fun _ _ _ _ h=>h)) (fun w hb=>?_) ?_
 . intro K a;go_simp;exact fB (b8.o w) a
 refine gJ (c:=?_) [] (fun w hb=>?_) ?_;rotate_left
 . intro K a;obtain⟨e0,e1,W⟩:=Jb hb m.o s.o A.o B.o;go_simp;exact a
 refine fP (φ:=Is (.int .i64 N)) [2] ((fun _ _ _ _ h=>h)) (fun w hb=>?_) ?_
 . intro K a;go_simp;exact fB (b8.o w) a
 refine fP (φ:=BP U N) [1,3] (BP.eL _ _) (fun w hb=>?_) ?_
 . intro K a;go_simp;exact fB (W3 N U w oO (aE du.o hb.size)) a
 refine qr aL (by rfl) (by rfl) kK (fun x2 hb=>?_);simp only[nE,cH,bO,sR,Act.put,aU,cN,bX,Nat.reduceAdd,Nat.reduceBEq,gO,fS];intro v4 h4 K a;obtain⟨R,dv,rfl,ap,aq⟩:=h4;obtain⟨b9,ar,cb⟩:=Ib hb aq ap;clear aq ap hb;go_simp;refine a _ _ ?_;clear a;go_wp2_with fail;obtain⟨Y2,bn⟩:=nm x2.drew;have hz2:Bl x2 Y2:=by rw[<-bn];exact(ac _ _).drew
 have S:=b9.o.trans (hz2.mono b9.o.size);have n:=Hi (bl.o.trans (S.mono bl.o.size));have L:=bk.o.below S bk.o.lt;obtain⟨cc,cd,cf,Z⟩:=Ic (ce S m.o s.o) (ce S m.o A.o) (ce S m.o B.o) (ar.o.below hz2);clear al s A B m ar;have al:=Hi bn;have s:=cc;have A:=cd;have B:=cf;obtain⟨m,au⟩:=Ia L.lt L;have cg:O (U≠R):=Hi (fun e=>by
  have h1:=Z.o.o;have h2:=L;rw[e]at h2;unfold SB at h1 h2;rw[h1]at h2;have h3:=aD h2;injection h3 with _ h4
  exact absurd h4 dD)
 have dw:=Hi Z.o.o.lt;obtain⟨BT,bp⟩:=nm Y2.heap.size;obtain⟨av,ch⟩:=Ia bp (cO bp.symm);have ci:O (bs.length<=bs.length+hs.length/\bs.length+hs.length<=1000):=Hi oO;clear cc cd cf bn hz2 S L bp;refine ou 8 (fun j=>some (14+j)) ?_;rw[al.o];refine gJ (c:=?_) [] (fun w hb=>?_) ?_;rotate_left
 . intro K a;obtain⟨e0,e1,W⟩:=Jb hb m.o s.o A.o B.o;go_simp;exact a
 refine fP (φ:=sE BT N (bs.length+hs.length) 8388611 (dP vb bs.length vh)) [0] (sE.eL _ _ _ _ _) (fun w hb=>?_) ?_
 . intro K a;go_simp;exact fB (JK N _ BT w (HG.o.below (n.o.trans (hb.mono n.o.size))) (HF.o.below (n.o.trans (hb.mono n.o.size))) HV.o HN.o rfl (aE ch.o hb.size)) a
 refine cV [] ?_;refine gJ (c:=?_) [2] (fun w hb=>?_) ?_;rotate_left
 . intro K a;obtain⟨e0,e1,W⟩:=Jb hb m.o s.o A.o B.o;go_simp;exact a
 refine cV [3] ?_;refine fP (φ:=sE BT bs.length N 8388611 (oG bs.length (dP vb bs.length vh) N 0)) [1,4] (sE.eL _ _ _ _ _) (fun w hb=>?_) ?_
 . intro v1 h1 K a;go_simp;exact fB (W2 BT h1 oO ci.o.2 ci.o.1 dD (by rw[<-av.o];exact hb.size)) a
 refine fP (φ:=Is (.int .i64 (bs.length:Nat))) [5] (fun _ _ _ _ h=>h) (fun w hb=>?_) ?_
 . intro v5 h5 K a;obtain⟨G5,g5,rfl,_,_⟩:=h5;go_simp;exact a _ _ bR rfl
 refine cV [] ?_;refine bA.fi (fun x3 hb=>?_);intro v1 _ v5 h5;obtain⟨GT,gt,rfl,aw,cj⟩:=h5;obtain⟨eu,ck,cl,cm,cn,dy⟩:=Ie hb cj aw (Z.o.below hb) (au.o.below hb au.o.lt) (n.o.trans (hb.mono n.o.size));have cp:O (R<BT):=Hi (by rw[<-av.o];exact dw.o);clear cj aw hb;obtain⟨l,bq⟩:=nm (dP vb bs.length vh);have dz:=Hi bq;rw[bq]at ck ⊢;clear bq;go_wp2_with fail;go_loopw [21] (fun iv wr=>∃(k:Nat)(gs:Vy),k<=bs.length/\iv=.int .i64 k/\gs.length=N/\GK wr U R N gs (fun _=>1+k*20971528) (oh l E k 0)/\GA wr BT GT N 8388611 gt (oG bs.length l N 0)/\SB wr U 26 #[.slice a1 js.length c1,.slice a2 bs.length c2,.slice a3 hs.length c3]/\Below w.heap.size w wr) (fun iv _=>bs.length - (intOf iv).toNat)
 case atStart=>exact⟨0,dv,oO,rfl,cb.o,cm.o.mono (fun r=>oO) (fun r c _ _=>by simp[oh,dot];grind),ck.o,cn.o,dy.o⟩
 case round=>
  obtain⟨k,gs,hk,rfl,aa,C,ab,ad,ae⟩:=hrel;obtain⟨d,cq,F,D,HB⟩:=Id C aa ab ad ae;clear C aa ab ad ae;by_cases cr:k<bs.length
  .
   obtain⟨b,br⟩:∃b,bs[k]?=some b:=⟨bs[k],gE cr⟩;obtain⟨gk,C⟩:∃g,gt[k]?=some g:=⟨gt[k]'(oB cl.o),gE _⟩;have s0:=F.o.gm.cell C;obtain⟨bb,bo,rfl,ev,d0,d1,d2,d3,d4,d5⟩:=(HF.o.b.below HB.o).bar br;have x1:=D.o.cell 1;simp only[aK,aI,aM]at x1;have cs:=Hi (HC.o k b br);have ct:=Hi (Mb (K:=4194305) (HG.o.below HB.o) cs.o.1 cs.o.2 dD dD);have q1:((k:Int)<(bs.length:Int)):=oO;have cu:=Hi C;clear br C;go_wp2_with fail;refine fB ct.o ?_;intro v6 w6 hb h6;obtain⟨x6,y6,z6,rfl⟩:=h6.oe;have cw:=Hi h6;obtain⟨⟨nx,ax,lx,cx,bx,mx,dx,ex,_⟩,_,_⟩:=h6;simp only[qY,rB,iV,jE]at ex;obtain⟨rfl,rfl,rfl⟩:=ex;obtain⟨X6,am⟩:∃X,w6.alloc (.cells #[.bool nx,.slice ax lx cx,.slice bx mx dx] 99)=X:=⟨_,rfl⟩;have bt:Bl w6 X6:=by rw[<-am];exact(ac _ _).alloc lZ _
   have af:=hb.trans (bt.mono hb.size);have cy:O (FB (E k) 4194305 X6 w6.heap.size):=Hi ⟨_,_,_,by rw[<-am];exact cK w6 _ _,cw.o.below bt⟩;obtain⟨cz,c4,c5,ea,c6,c7⟩:=Ie (d.o.below af) (F.o.below af) (D.o.below af D.o.lt) (HB.o.trans (af.mono HB.o.size)) (aF d.o.o.lt hb.size) am;obtain⟨C6,bu⟩:=nm w6.heap.size;rw[bu]at cy c6;have c8:=Hi bu;clear hb am bt af bu d0 d1 d2 d3 d4 d5 s0 x1 ct d F D HB cw;go_wp2_with fail;rw[c7.o]
   try simp only[c8.o]
   go_loopw [35] (fun jv wi=>∃(j:Nat)(gs:Vy),j<=N/\jv=.int .i64 j/\gs.length=N/\GK wi U R N gs (fun r=>if r<j then 1+(k+1)*20971528 else 1+k*20971528) (oh l E k j)/\GA wi BT GT N 8388611 gt (oG bs.length l N 0)/\SB wi U 26 #[.slice a1 js.length c1,.slice (some ⟨bb,bo,none⟩) bs.length c2,.slice a3 hs.length c3]/\FB (E k) 4194305 wi C6/\Below w.heap.size w wi) (fun jv _=>N - (intOf jv).toNat)
   case atStart=>exact⟨0,gs,oO,rfl,cq.o,cz.o.mono (fun r=>sS) (fun _ _ _ _=>rfl),c4.o,c5.o,cy.o,ea.o⟩
   case round=>
    obtain⟨j,G,hj,rfl,aa,C,ab,ad,c9,ae⟩:=hrel;obtain⟨d,p,F,D,ay,HB⟩:=Ie C aa ab ad c9 ae;clear C aa ab ad c9 ae;by_cases eb:j<N
    .
     obtain⟨us,bv,bw,ag⟩:=F.o.gm.row k gk cu.o;obtain⟨e,he⟩:∃e,us[j]?=some e:=⟨us[j]' oO,gE _⟩;obtain⟨rb,ro,ec,ew,d0,d1,d2⟩:=bv.row.at he;cases ec;simp only[cC]at d0 d1 d2;have bz:∀v,v<N->oG bs.length l N 0 k v=l v k:=fun v hv=>by unfold oG;rw[aN ⟨cr,.inl hv⟩]
     have da:FF (l j k) 8388611 (.agg #[e.x,e.y,e.z]) wr:=by have h1:=ag j e he;rw[<-bz j eb,<-h1.1];exact zF (bv.row.get he) h1.2
     have an:=Hi da;obtain⟨⟨ed,ee,ef,eg,eh,ei,ej,ex,_⟩,_,_⟩:=da;simp only[qY,rB,iV,jE]at ex;rw[ex.1]at d0;rw[ex.2.1]at d1;rw[ex.2.2]at d2;rw[ex.1,ex.2.1,ex.2.2]at an;obtain⟨X8,ao⟩:∃X,wr.alloc (.cells #[.bool ed,.slice ee ef eg,.slice eh ei ej] 99)=X:=⟨_,rfl⟩;have H:Bl wr X8:=by rw[<-ao];exact(ac _ _).alloc lZ _
     have b0:O (FB (l j k) 8388611 X8 wr.heap.size):=Hi ⟨_,_,_,by rw[<-ao];exact cK wr _ _,an.o.below H⟩;have db:=Hi ((an.o.below H).isZero);have dc:=d.o.o.lt;obtain⟨az,a0,ah,a4,dd,de⟩:=Ie (d.o.below H) (F.o.below H) (D.o.below H D.o.lt) (ay.o.below H) (HB.o.trans (H.mono HB.o.size)) ao;obtain⟨P8,T⟩:=nm wr.heap.size;have a5:=Hi T;have ey:O (P8≠R):=Hi (by rw[<-T];omega);rw[T]at b0;have ek:=Hi bz;have q2:((j:Int)<(N:Int)):=oO;clear bv bw ag he ao H ex dc bz T;go_wp2_with fail;rw[de.o];refine fB db.o ?_;intro v9 w9 hb h9;obtain rfl:v9=.bool (decide (l j k=0)):=h9;obtain⟨ai,aj,M,P,a6,b1⟩:=Ie (az.o.below hb) (a0.o.below hb) (ah.o.below hb ah.o.lt) (a4.o.below hb) (b0.o.below hb) (dd.o.trans (hb.mono dd.o.size));clear hb d0 d1 d2 d F D ay HB az a0 ah a4 b0 db an;by_cases h0:l j k=0
     .
      rw[dC h0];have HE:O (GK w9 U R N G (fun r=>if r<j+1 then 1+(k+1)*20971528 else 1+k*20971528) (oh l E k (j+1))):=Hi (ai.o.mono (fun r=>by split<;>split<;>omega) (fun r c hr hc=>by
       unfold oh;by_cases e:r=j
       . subst e;rw[aH oO,aN oO,h0];grind
       . by_cases W:r<j
         . rw[aN W,aN oO]
         . rw[aH W,aH oO]))
      clear h0;go_wp2;go_roundw
      case rel=>exact⟨j+1,G,oO,by go_num,p.o,HE.o,aj.o,M.o,P.o,b1.o⟩
      case measure=>exact mI
     .
      rw[bS h0];clear h0;go_wp2_with fail;obtain⟨Y9,b2⟩:=nm w9.drew;have I:Bl w9 Y9:=by rw[<-b2];exact(ac _ _).drew
      obtain⟨gr,df⟩:∃g,G[j]?=some g:=⟨G[j]'(oB p.o),gE _⟩;have a7:=ai.o.below I;have a8:=aj.o.below I;obtain⟨p1,p2,p3,ps,pf⟩:=a6.o.below I;obtain⟨r1,r2,r3,rs,rf⟩:=P.o.below I;obtain⟨P0,P1,P2,R1,R2,R3⟩:=Ie (ps.cell 0) (ps.cell 1) (ps.cell 2) (rs.cell 0) (rs.cell 1) (rs.cell 2);simp only[aK,aI,aM]at P0 P1 P2 R1 R2 R3;obtain⟨dg,PF,em,b3,f,a9,ba,dh,bc⟩:=Ih (cZ ps.lt rs.lt) pf rf df a7 a8 (M.o.below I M.o.lt) (P.o.below I) (b1.o.trans (I.mono b1.o.size));have di:=Hi b2;obtain⟨KR,dj⟩:=nm (1+k*20971528+8388611+(4194305+8388611)+1);have dk:O (KR<=1+(k+1)*20971528/\KR<68719476000):=Hi (by
       have:k*20971528<=24*20971528:=cD _ oO;rw[gV]
       omega)
      have dl:=Hi dj;clear b2 I df a7 a8 ps pf rs rf dj ai aj M P a6;have en:O (∀u,Below Y9.heap.size Y9 u->∀v,FF (-(E k*l j k)) (4194305+8388611) v u->Calls prog 148 #[.slice (some ⟨gr,0,none⟩) N N,.slice (some ⟨gk,0,none⟩) N N,v] u (cS u (uO Y9.heap.size N KR (fun c=>oh l E k (j+1) j c)))):=Hi (fun u hb v hv=>by
       obtain⟨ts,t1,t2,t3⟩:=(f.o.below hb).row j gr b3.o;obtain⟨ss,s1,s2,s3⟩:=(a9.o.below hb).gm.row k gk cu.o;have hl:=W4 (x:=oh l E k j j) t1 t2 (k1:=1+k*20971528) (fun c t ht=>by have:=t3 c t ht;rw[aH oO]at this;exact this) s1 s2 (k2:=8388611) (fun t ht=>by obtain⟨i,hi⟩:=dM ht;exact(s3 i t hi).2) hv oO dl.o dk.o.2;refine hl.mono ?_;rintro e w' ⟨v',he,eo,g,us,ep,hg,hq,bw,ag⟩;refine⟨v',he,eo,g,us,ep,aE hb.size hg,hq,bw,fun c t ht=>⟨(ag c t ht).1.trans ?_,(ag c t ht).2⟩⟩;have hc:c<N:=oB ((gZ ht).1);obtain⟨e',dm⟩:∃e',ss[c]?=some e':=⟨ss[c]' oO,gE _⟩
       show oh l E k j j c - qAt ss c* -(E k*l j k)=oh l E k (j+1) j c
       rw[CL dm,(s3 c e' dm).1,ek.o c hc];unfold oh;rw[aH oO,aN oO]
       grind)
      simp only[a5.o];refine ou 13 (fun j=>some (43+j)) ?_;rw[di.o];refine cV [] ?_;refine cV [] ?_;refine cV [] ?_;refine cV [] ?_;refine cV [2,3] ?_;refine gJ (c:=?_) [4] (fun w hb=>?_) ?_;rotate_left
      . intro K a;have e0:=(f.o.below hb).cell b3.o;go_simp;exact a
      refine cV [] ?_;refine gJ (c:=?_) [] (fun w hb=>?_) ?_;rotate_left
      . intro K a;obtain⟨e0,e1,W⟩:=Jb hb dg.o.2 R1.o R2.o R3.o;go_simp;exact a
      refine gJ (c:=?_) [] (fun w hb=>?_) ?_;rotate_left
      . intro K a;obtain⟨e0,e1,W⟩:=Jb hb dg.o.1 P0.o P1.o P2.o;go_simp;exact a
      refine fP (φ:=FF (E k*l j k) (4194305+8388611)) [7,8] (od _ _) (fun w hb=>?_) ?_
      . intro K a;go_simp;exact fB (FF.tC (em.o.below hb) (PF.o.below hb) dD) a
      refine fP (φ:=FF (-(E k*l j k)) (4194305+8388611)) [9] (od _ _) (fun w hb=>?_) ?_
      . intro v9 h9;intro K a;go_simp;exact fB (FF.neg h9) a
      refine fP (φ:=uO Y9.heap.size N KR (fun c=>oh l E k (j+1) j c)) [5,6,10] (uO.eL _ _ _ _) (fun w hb=>?_) ?_
      . intro dn eq;intro K a;go_simp;exact fB (en.o w hb dn eq) a
      refine cV [0,1] ?_;refine qr aL (by rfl) (by rfl) kK (fun x4 hb=>?_);simp only[nE,cH,bO,sR,Act.put,aU,cN,bX,Nat.reduceAdd,Nat.reduceBEq,gO,fS];intro v9 _ dn _ ez er K a;obtain⟨gn,un,rfl,es,dp,dq,dr⟩:=er;have J:=f.o.below hb;have c0:=J.cell b3.o;have f0:=J.o.free j;have ho:cE R x4 (x4.setCell ⟨R,j,none⟩ (jR N gn)):=(cX R x4).setCell j _;have bd:=J.Jp (r:=j) (oB p.o) (fun i g hi=>by
       obtain⟨_,q,_⟩:=f.o.row i g hi;have:=q.blk.lt
       omega) (oB f.o.o.lt) (oC f.o.o.lt f.o.lo) dp dq dr
      have ds:O (GK (x4.setCell ⟨R,j,none⟩ (jR N gn)) U R N (G.set j gn) (fun r=>if r<j+1 then 1+(k+1)*20971528 else 1+k*20971528) (oh l E k (j+1))):=Hi (bd.mono (fun r=>by
       have:=dk.o.1
       split
       . rw[aN oO];exact this
       . split
         . rw[aN oO];exact aV _
         . split<;>omega) (fun r c hr hc=>by
       by_cases e:r=j
       . rw[aN e,e]
       . rw[aH e];unfold oh;by_cases W:r<j
         . rw[aN W,aN oO]
         . rw[aH W,aH oO]))
      obtain⟨be,bf,bh,dt⟩:=Ic ((a9.o.below hb).only ho J.o cp.o) ((ba.o.below hb ba.o.lt).only ho (cg.o)) ((dh.o.below hb).only ho J.o (oB c6.o)) (fU (bc.o.trans (hb.mono bc.o.size)) ho (by rw[bm.o];exact J.lo));unfold jR at ds be bf bh dt ⊢;clear dp dq dr J ho bd hb es;go_simp;refine a _ _ ?_;clear a c0 f0;have T:=a5.o;subst T;go_wp2;go_roundw
      case rel=>exact⟨j+1,G.set j gn,oO,by go_num,by rw[aQ];exact p.o,ds.o,be.o,bf.o,bh.o,dt.o⟩
      case measure=>exact mI
    .
     obtain rfl:j=N:=oO;have HE:O (GK wr U R j G (fun _=>1+(k+1)*20971528) (oh l E (k+1) 0)):=Hi (d.o.mono (fun r=>by split<;>omega) (fun r c hr hc=>by
      have:=p.o;unfold oh;rw[aN oO,aH oO,qO]
      rfl))
     go_wp2;go_roundw
     case rel=>exact⟨k+1,G,oO,by go_num,p.o,HE.o,F.o,D.o,HB.o⟩
     case measure=>exact mI
  .
   obtain rfl:k=bs.length:=oO;go_wp2;go_ret;refine⟨_,rfl,HB.o,R,gs,rfl,cq.o,⟨⟨ac _ _,d.o.o,fun r g hr=>?_,d.o.nd,d.o.ne,by rw[bm.o];exact d.o.lo,fun r g hr=>by rw[bm.o];exact d.o.los r g hr⟩,d.o.o.lt⟩⟩;obtain⟨us,h1,h2,h3⟩:=d.o.row r g hr;refine⟨us,h1,h2,fun c t ht=>⟨(h3 c t ht).1.trans ?_,aE (h3 c t ht).2 ?_⟩⟩
   . unfold oh Giv.stf;rw[aH oO,qO]
     first|rfl|rw[dz.o]
   . rw[HK.o];have:bs.length*20971528<=24*20971528:=cD _ n2;omega
def qh(B n K:Nat)(x:cW):Fact:=fun v w=>∃(g:Nat)(us:Ah),v=.slice (some ⟨g,0,none⟩) n n/\B<=g/\RB w g n K x us
def qh.eL(B n K:Nat)(x:cW):mP (qh B n K x):=fun _ _ _ hb ⟨g,us,e,a,b⟩=>⟨g,us,e,a,b.below hb⟩
def uR(B:Nat)(l:Vy):Fact:=fun v w=>IG w B v l
def uR.eL(B:Nat)(l:Vy):mP (uR B l):=fun _ _ _ hb h=>kA h hb
structure pG (w:Vz) (a1 a2 a3:Vx) (c1 c2 c3 N:Nat) (js:Ad) (bs:Ap) (hs:Ak) (vb:Aa) (vh:Vy) (cv ev bv:cW):Prop where
 gl:jq w
 fr:ja w a1 a2 a3 c1 c2 c3 js bs hs
 fv:rZ 1048576 js bs hs vb vh
 ce:∀(i:Nat)(b:B6),bs[i]?=some b->il b.c.data.toList (cv i)/\il b.e.data.toList (ev i)/\b.c.size<=1048576/\b.e.size<=1048576
 by_:∀(i:Nat)(h:H3),hs[i]?=some h->il h.q.data.toList (bv i)/\h.q.size<=1048576
 n:2*js.length=N
section
variable {w w':Vz} {a1 a2 a3:Vx} {c1 c2 c3 N:Nat} {js:Ad} {bs:Ap} {hs:Ak} {vb:Aa} {vh:Vy} {cv ev bv:cW}
def pG.below(h:pG w a1 a2 a3 c1 c2 c3 N js bs hs vb vh cv ev bv)(hb:Bl w w'):pG w' a1 a2 a3 c1 c2 c3 N js bs hs vb vh cv ev bv:=⟨h.gl.below hb,h.fr.below hb,h.fv,h.ce,h.by_,h.n⟩
def pG.held(h:pG w a1 a2 a3 c1 c2 c3 N js bs hs vb vh cv ev bv)(B:Nat)(hB:B<=w.heap.size):Calls prog 90 #[.agg #[.slice a1 js.length c1,.slice a2 bs.length c2,.slice a3 hs.length c3]] w (cS w (qh B N 4194305 (jC vh bv hs.length))):=
 (Xc a1 a2 a3 c1 c2 c3 bs.length N js hs vh bv w h.gl h.fr.h h.fv.j h.fv.h h.fv.lh h.fv.vh h.by_ h.n).mono fun e w' ⟨g,us,a,b,c,hb⟩=>⟨_,a,hb,g,us,rfl,aE hB b,c⟩
def pG.free(h:pG w a1 a2 a3 c1 c2 c3 N js bs hs vb vh cv ev bv)(B:Nat)(hB:B<=w.heap.size):Calls prog 91 #[.agg #[.slice a1 js.length c1,.slice a2 bs.length c2,.slice a3 hs.length c3]] w (cS w (uR B (Giv.frs (hO vh) N))):=
 (Xd a1 a2 a3 c1 c2 c3 bs.length N js hs vh w h.fr.h h.fv.j h.fv.h h.fv.lh h.fv.vh h.n).mono fun e w' ⟨v,a,b,hb⟩=>⟨_,a,hb,ui b hB⟩
def pG.Da(h:pG w a1 a2 a3 c1 c2 c3 N js bs hs vb vh cv ev bv)(B:Nat)(hB:B<=w.heap.size){a c d:Nat}{x:cW}{v:Ac}{B':Nat}(o:qh B' N a x v w)(p:c=2*(8388611+(2*a+1))+1)(f:a<=1000000000)(k:d=4194305+(c+4194305+1)):Calls prog 44 #[.agg #[.slice a1 js.length c1,.slice a2 bs.length c2,.slice a3 hs.length c3],v] w (cS w (qh B bs.length d (fun i=>cv i*(fV vb x i - ev i)))):=by obtain⟨g,us,rfl,_,q⟩:=o;exact(Xa a1 a2 a3 c1 c2 c3 hs.length g N a c d js bs hs vb x cv ev us w h.gl h.fr.j h.fr.b h.fv.j h.fv.b h.fv.lb h.fv.vb h.ce q h.n p f k).mono fun e w' ⟨r,l,s,t,m,hb⟩=>⟨_,s,hb,r,l,rfl,aE hB t,m⟩
def pG.C9(h:pG w a1 a2 a3 c1 c2 c3 N js bs hs vb vh cv ev bv)(B:Nat)(hB:B<=w.heap.size){a b:Nat}{t:cW}{v:Ac}{B':Nat}(i:qh B' bs.length a t v w)(j:b=24*(8388611+a+1)+1)(c:a<=2500000000):Calls prog 45 #[.agg #[.slice a1 js.length c1,.slice a2 bs.length c2,.slice a3 hs.length c3],v] w (cS w (qh B N b (Giv.putF bs.length (dP vb bs.length vh) t))):=by obtain⟨g,us,rfl,_,k⟩:=i;exact(W6 a1 a2 a3 c1 c2 c3 g N a b js bs hs vb vh t us w h.gl h.fr h.fv k h.n j c).mono fun e w' ⟨l,d,m,o,f,hb⟩=>⟨_,m,hb,l,d,rfl,aE hB o,f⟩
def pG.FU(h:pG w a1 a2 a3 c1 c2 c3 N js bs hs vb vh cv ev bv){a:Nat}(d:a=1+24*20971528):Calls prog 94 #[.agg #[.slice a1 js.length c1,.slice a2 bs.length c2,.slice a3 hs.length c3]] w (cS w (sE w.heap.size N N a (Giv.stf bs.length (dP vb bs.length vh) cv))):=
 WZ a1 a2 a3 c1 c2 c3 N a js bs hs vb vh cv w h.gl h.fr h.fv (fun i b c=>⟨(h.ce i b c).1,(h.ce i b c).2.2.1⟩) h.n d
end
def WY{m ca:Nat}{d:Vx}(h:sE B m W K M v w)(l:mA w d (a.map (fun n:Nat=>Value.int .i64 n)))(o:a.length=n)(f:∀r,r∈ a->r<m/\r<W)(hl:n<=1000)(g:0<K):Calls prog 93 #[v,.slice d n ca] w (cS w (sE w.heap.size n n K (nt a n M n 0))):=by obtain⟨G,p,rfl,i,j⟩:=h;refine(T7 G B W K n m p M d ca a w j i l o f hl g).mono ?_;rintro e w' ⟨q,k,rfl,b,c⟩;exact⟨_,rfl,c.base,q,k,rfl,b,c.ga⟩
def tU(at_:Vy)(p a:cW):cW:=fun i=>p (at_.getD i 0) - a (at_.getD i 0)
def mY(at_:Vy)(n:Nat)(M:Ae):List cW:=(List.range n).map (nt at_ n M n 0)
def mD(at_:Vy)(n:Nat)(p a:cW):List Rat:=(List.range n).map (tU at_ p a)
def CI(B n K:Nat):Fact:=fun v w=>∃g:Nat,v=.slice (some ⟨g,0,none⟩) n n/\B<=g/\RB w g n K (fun _=>0) (List.replicate n FE.zero)
def CI.eL(B n K:Nat):mP (CI B n K):=fun _ _ _ hb ⟨g,e,a,b⟩=>⟨g,e,a,b.below hb⟩
def WX{q:Rat}(h:eF w (.agg #[.bool false,.slice none 0 0,.slice none 0 0]) q):q=0:=by obtain⟨neg,a,n,c,b,m,d,e,f⟩:=h;simp only[qY,rB,iV,Value.bool.injEq,BR,jE]at e;obtain⟨rfl,⟨rfl,rfl,rfl⟩,rfl,rfl,rfl⟩:=e;have:=f.top.pB.2 rfl;exact jA.1 oO
def RB.Gg{p:cW}{j:Ah}(e:RB w g n K (fun _=>0) (List.replicate n FE.zero))(a:RB w g N K' p j):n=N/\∀r,r<N->p r=0:=by
 have f:=e.blk.blk;have b:=a.blk.blk;unfold SB at f b;rw[f]at b;have l:=aD b;injection l with m _
 have hl:=congrArg Array.size m;rw[lH,lH,xz (c:=FE.cells) (sz:=3) (fun _=>rfl),xz (c:=FE.cells) (sz:=3) (fun _=>rfl),jF,a.len]at hl;have d:n=N:=oO;refine⟨d,fun r o=>?_⟩;obtain⟨t,h⟩:=a.get o;obtain⟨q,c1,c2⟩:=a.cells h;obtain⟨d0,d1,d2⟩:=e.cells (k:=r) (t:=FE.zero) (by rw[fW,aN oO]);have s:=aD (q.symm.trans d0);have x1:=aD (c1.symm.trans d1);have x2:=aD (c2.symm.trans d2);have i:=a.fe h;rw[s,x1,x2]at i;exact WX i.1
def PT{fr:AH}(h:(Giv.frs fr N).length=N):Giv.frs fr N=List.range N:=by have a:(Giv.frs fr N).Sublist (List.range N):=Y4;exact a.eq_of_length (by rw[h,jm])
def Lt{i:Nat}{t:Vr}{C:Vw}(h:SB w b t C)(c:C[i]?=some v):w.setCell ⟨b,i,none⟩ v=w:=by
 have hC:C.setIfInBounds i v=C:=by
  apply oF;intro j;rw[gG]
  split
  . next e=>subst e;rw[c];split<;>simp_all
  . rfl
 have a:(w.setCell ⟨b,i,none⟩ v).heap=w.heap:=by
  apply oF;intro k;by_cases e:k=b
  . subst e;have:=h.set i v;rw[hC]at this;exact this.trans h.symm
  . exact gF w ⟨b,i,none⟩ v k e
 cases w;simp only[World.setCell]at a ⊢;rw[a]
def RB.DU{x y:cW}{vs:Ah}(b:RB w g n K x us)(d:RB w g N K' y vs):n=N:=by
 have e:=b.blk.blk;have a:=d.blk.blk;unfold SB at e a;rw[e]at a;have f:=aD a;injection f with h _
 have hl:=congrArg Array.size h;rw[lH,lH,xz (c:=FE.cells) (sz:=3) (fun _=>rfl),xz (c:=FE.cells) (sz:=3) (fun _=>rfl),b.len,d.len]at hl;omega
def RB.again{x:cW}{t:FE}(h:RB w g n K x us)(c:us[k]?=some t):((w.setCell ⟨g,k*3,none⟩ t.x).setCell ⟨g,k*3+1,none⟩ t.y).setCell ⟨g,k*3+2,none⟩ t.z=w:=by obtain⟨b,c1,c2⟩:=h.cells c;have a:=h.blk.blk;rw[a.cell]at b c1 c2;rw[Lt a b,Lt a c1,Lt a c2]
def BG(w:Vz)(N K:Nat)(at_:Vy)(M:Aj)(s:AL)(h0:cW)(e:As)(w':Vz):Prop:=
 ((e=.returned (.tuple #[.slice none 0 0,.int .i64 8])/\∀x,¬sH at_.length M s x)∨
  (e=.returned (.tuple #[.slice none 0 0,.int .i64 9])/\∃x y,sH at_.length M s x/\sH at_.length M s y/\∃c,c<at_.length/\x c≠y c)∨
  (∃(g:Nat)(us:Ah)(m:cW),e=.returned (.tuple #[.slice (some ⟨g,0,none⟩) N N,.int .i64 0])/\w.heap.size<=g/\RB w' g N K m us/\(∀r,¬r∈ at_->m r=h0 r)/\∀y,sH at_.length M s y↔∀i,i<at_.length->y i=m (at_.getD i 0)))/\Below w.heap.size w w'
def WV(a1 a2 a3:Vx)(c1 c2 c3 N ga KA G KS KP KQ KT:Nat)(js:Ad)(v:Ap)(s:Ak)(vb:Aa)(vh:Vy)(cv ev W a p:cW)(b1:Ah)(w:Vz)(h:pG w a1 a2 a3 c1 c2 c3 N js v s vb vh cv ev W)(ha:RB w ga N KA a b1)(b:Vy)(be:b=Giv.frs (hO vh) N)(hp:p=Giv.putF v.length (dP vb v.length vh) (fun i=>cv i*(fV vb (jC vh W s.length) i - ev i)))(b2:KS=2*(8388611+(2*4194305+1))+1)(b3:KP=4194305+(KS+4194305+1))(b4:KQ=24*(8388611+KP+1)+1)(b5:KT=1+24*20971528)(k1:KQ+KA+1<=G)(k2:KT<=G)(b6:4*G+1<68719476000)(I:Aq)(hI:pF G I)(h0:I 0 (List.zipWith (iz b.length) (mY b b.length (Giv.stf v.length (dP vb v.length vh) cv)) (mD b b.length p a)) [] [])(a8:∀L S s,I (b.length+1) L S s->ot 0 (b.length+1) S s/\(∀x,jH (b.length+1) (List.zipWith (iz b.length) (mY b b.length (Giv.stf v.length (dP vb v.length vh) cv)) (mD b b.length p a)) x↔jH (b.length+1) S x)/\jT G S s):
 Calls prog 43 #[.agg #[.slice a1 js.length c1,.slice a2 v.length c2,.slice a3 s.length c3],.slice (some ⟨ga,0,none⟩) N N] w (BG w N G b (mY b b.length (Giv.stf v.length (dP vb v.length vh) cv)) (mD b b.length p a) (jC vh W s.length)):=by
 obtain⟨V,hV⟩:=nm (w.alloc (.cells #[.slice a1 js.length c1,.slice a2 v.length c2,.slice a3 s.length c3] 26));have av:Bl w V:=by rw[<-hV];exact(ac _ _).alloc lZ _
 have bf:SB V w.heap.size 26 #[.slice a1 js.length c1,.slice a2 v.length c2,.slice a3 s.length c3]:=by rw[<-hV];exact cK w _ _
 obtain⟨HG,HA,C,HP,X,ad,HI,H0,eb⟩:=Ih h ha be hp (cZ b2 (cZ b3 (cZ b4 b5))) (cZ k1 (cZ k2 b6)) hI h0 a8;obtain⟨fo,b7⟩:=Ia av hV;obtain⟨n,hn⟩:=nm b.length;have f:=Hi hn;have b8:N<=20:=oC h.n h.fv.j;have fm:n<=20:=by rw[<-hn,be];exact aE (Giv.frs_len _ _) b8
 have a9:O (1<=KQ):=Hi oO;have b9:O (KP<=2500000000):=Hi oO;have cb:O (0<G):=Hi oO;obtain⟨Y,hY⟩:=nm V.drew;have bh:Bl V Y:=by rw[<-hY];exact(ac _ _).drew
 have Z:=bf.below bh bf.lt;obtain⟨H,J,M⟩:=Ib (Z.cell 0) (Z.cell 1) (Z.cell 2);simp only[aK,aI,aM]at H J M;obtain⟨D,cc,cd,aw⟩:=Ic Z.lt Z (av.trans (bh.mono av.size)) hY;have ax:=Hi cd.o.size;clear h ha be hp b2 b3 b4 b5 k1 k2 b6 hI h0 a8 av hV bf hY bh Z hn;go_enter func43,ntmps43;go_wp2_with fail;rw[b7.o];generalize hB0:w.heap.size=B0 at*;have ae:=Hi hB0;clear hB0 b7;have bi:O (∀u,Below Y.heap.size Y u->Below w.heap.size w u):=Hi (fun u hb=>by rw[ae.o];exact cd.o.trans (hb.mono ax.o));have ec:O (∀u,Below Y.heap.size Y u->Calls prog 91 #[.agg #[.slice a1 js.length c1,.slice a2 v.length c2,.slice a3 s.length c3]] u (cS u (uR B0 b))):=Hi (fun u hb=>by rw[C.o];exact(HG.o.below (bi.o u hb)).free B0 (aE ax.o hb.size));refine ou 5 (fun j=>some (bif j == 4 then 6 else 16+j)) ?_;rw[aw.o];refine gJ (c:=?_) [] (fun w hb=>?_) ?_;rotate_left
 . intro K d;obtain⟨e0,e1,e2⟩:=Jb hb D.o H.o J.o M.o;go_simp;exact d
 refine fP (φ:=qh B0 N 4194305 (jC vh W s.length)) [0] (qh.eL _ _ _ _) (fun w hb=>?_) ?_
 . intro K d;go_simp;exact fB ((HG.o.below (bi.o w hb)).held B0 (aE ax.o hb.size)) d
 refine gJ (c:=?_) [] (fun w hb=>?_) ?_;rotate_left
 . intro K d;obtain⟨e0,e1,e2⟩:=Jb hb D.o H.o J.o M.o;go_simp;exact d
 refine fP (φ:=uR B0 b) [2] (uR.eL _ _) (fun w hb=>?_) ?_
 . intro K d;go_simp;exact fB (ec.o w hb) d
 refine fP (φ:=qh B0 N 4194305 (jC vh W s.length)) [1] (qh.eL _ _ _ _) (fun w hb=>?_) ?_
 . intro v1 h1 K d;go_simp;exact d _ _ bR h1
 refine qr aL (by rfl) (by rfl) kK (fun x2 hb=>?_);simp only[nE,cH,bO,sR,Act.put,aU,cN,bX,Nat.reduceAdd,Nat.reduceBEq,gO,fS];intro fp _ fq bj v6 h6 K d;obtain⟨gm,ms,rfl,cf,cg⟩:=h6;obtain⟨fa,fc,ed,ch⟩:=IG.slice bj;subst ed;rw[f.o]at bj d ⊢;obtain⟨ci,cj,af,ck⟩:=Ic cg ch cf hb;clear bj cf cg ch hb;go_simp;refine d _ _ ?_;clear d;go_wp2_with fail;obtain⟨Y2,bk⟩:=nm x2.drew;have hz2:Bl x2 Y2:=by rw[<-bk];exact(ac _ _).drew
 have aa:=ck.o.trans (hz2.mono ck.o.size);obtain⟨cl,g,E,ag,cm,bl⟩:=Ie (ce aa D.o H.o) (ce aa D.o J.o) (ce aa D.o M.o) (ci.o.below hz2) (cj.o.below hz2) aa;have ah:=cc.o.below aa cc.o.lt;clear aw H J M D ci cj;have aw:=Hi bk;have H:=cl;have J:=g;have M:=E;obtain⟨D,ai⟩:=Ia ah.lt ah;have aj:O (∀u,Below Y2.heap.size Y2 u->Below w.heap.size w u):=Hi (fun u hb=>bi.o u (bl.o.trans (hb.mono bl.o.size)));have ba:=Hi (aE ax.o bl.o.size);obtain⟨ay,bb⟩:∃S,Y2.heap.size=S:=⟨_,rfl⟩;have ak:=Hi bb;have ee:O (∀u,Below Y2.heap.size Y2 u->qh B0 N 4194305 (jC vh W s.length) (.slice (some ⟨gm,0,none⟩) N N) u):=Hi (fun u hb=>⟨gm,ms,rfl,af.o,ag.o.below hb⟩);clear cl g E bk hz2 aa ah bb;refine ou 9 (fun j=>some (bif j == 8 then 8 else 20+j)) ?_;rw[aw.o];refine gJ (c:=?_) [] (fun w hb=>?_) ?_;rotate_left
 . intro K d;obtain⟨e0,e1,e2⟩:=Jb hb D.o H.o J.o M.o;go_simp;exact d
 refine gJ (c:=?_) [] (fun w hb=>?_) ?_;rotate_left
 . intro K d;obtain⟨e0,e1,e2⟩:=Jb hb D.o H.o J.o M.o;go_simp;exact d
 refine cV [] ?_;refine fP (φ:=qh B0 v.length KP (fun i=>cv i*(fV vb (jC vh W s.length) i - ev i))) [1,2] (qh.eL _ _ _ _) (fun w hb=>?_) ?_
 . intro K d;go_simp;exact fB ((HG.o.below (aj.o w hb)).Da B0 (aE ba.o hb.size) (ee.o w hb) X.o.1 dD X.o.2.1) d
 refine fP (φ:=qh ay N KQ (Giv.putF v.length (dP vb v.length vh) (fun i=>cv i*(fV vb (jC vh W s.length) i - ev i)))) [0,3] (qh.eL _ _ _ _) (fun w hb=>?_) ?_
 . intro v3 h3;intro K d;go_simp;exact fB ((HG.o.below (aj.o w hb)).C9 ay (aE (cO ak.o.symm) hb.size) h3 X.o.2.2.1 b9.o) d
 refine cV [] ?_;refine cV [5] ?_;refine fP (φ:=CI ay n G) [6] (CI.eL _ _ _) (fun w hb=>?_) ?_
 . intro K' d;have ef:=B3 n oO w;obtain⟨MC,cn⟩:=nm (((List.replicate n FE.zero).flatMap FE.cells).toArray);rw[cn]at ef;go_simp;exact d _ _ (bR.alloc lZ _) ⟨_,rfl,aE (cO ak.o.symm) hb.size,RB.new w n G MC cn.symm cb.o⟩
 refine fP (φ:=qh ay N KQ (Giv.putF v.length (dP vb v.length vh) (fun i=>cv i*(fV vb (jC vh W s.length) i - ev i)))) [4] (qh.eL _ _ _ _) (fun w hb=>?_) ?_
 . intro v1 h1 K d;go_simp;exact d _ _ bR h1
 refine qr aL (by rfl) (by rfl) kK (fun x3 hb=>?_);simp only[nE,cH,bO,sR,Act.put,aU,cN,bX,Nat.reduceAdd,Nat.reduceBEq,gO,fS];intro v3 _ v4 _ v7 h7 v8 h8 K d;obtain⟨gs,rfl,cp,m⟩:=h7;obtain⟨gp,ps,rfl,eg,az⟩:=h8;rw[<-HP.o]at az;obtain⟨eh,ei,fn,fr,cq,cr,cs,ct⟩:=Ig m az cp hb (ag.o.below hb) (cm.o.below hb) (ai.o.below hb ai.o.lt) (aj.o x3 hb);have ej:O (gs=gp->n=N/\(∀r,r<N->p r=0)/\b=List.range N):=Hi (fun e=>by
  subst e;obtain⟨e1,e2⟩:=m.Gg az;refine⟨e1,e2,?_⟩;rw[C.o]
  exact PT (by rw[<-C.o,f.o,e1]))
 have a0:O (gs≠gm/\B0<gs/\ga<gs):=Hi (by
  have h1:=ag.o.blk.blk.lt;have h2:=ak.o;have h3:=ai.o.lt;have h4:=HA.o.blk.blk.lt;have h5:=ba.o;rw[ae.o]at h4
  omega)
 clear cp eg m az hb;go_simp;refine d _ _ ?_;clear d;go_wp2_with fail;go_loopw [30] (fun iv wr=>∃(i:Nat)(ss:Ah),i<=n/\iv=.int .i64 i/\RB wr gs n G (i9 (tU b p a) i) ss/\(gs≠gp->RB wr gp N KQ p ps)/\RB wr ga N KA a b1/\RB wr gm N 4194305 (jC vh W s.length) ms/\mA wr fa (b.map (fun n:Nat=>Value.int .i64 n))/\SB wr B0 26 #[.slice a1 js.length c1,.slice a2 v.length c2,.slice a3 s.length c3]/\Below w.heap.size w wr) (fun iv _=>n - (intOf iv).toNat)
 case atStart=>
  refine⟨0,List.replicate n FE.zero,oO,rfl,?_,fun _=>ei.o,HA.o.below ct.o,cq.o,cr.o,cs.o,ct.o⟩;have e:i9 (tU b p a) 0=fun _=>0:=funext fun i=>by unfold i9;rw[aH oO]
  rw[e];exact eh.o
 case round=>
  obtain⟨i,ss,hi,rfl,al,am,an,ap,cu,cw,cx⟩:=hrel;obtain⟨bm,cy,bn,cz,a4,aq,ar⟩:=If al am an ap cu cw cx;clear al am an ap cu cw cx;by_cases c4:i<n
  .
   obtain⟨r,A⟩:∃r,b[i]?=some r:=⟨b[i]'(oB f.o),gE _⟩;obtain⟨ab,ao,rfl,ek,t0⟩:=Ij a4.o A;have Q:r<N:=by have h1:=mO A;rw[C.o]at h1;exact(Giv.frs_mem.1 h1).1
   obtain⟨ta,c5⟩:=bn.o.get Q;have em:∃x1 x2 x3,wr.cell? ⟨gp,r*3,none⟩=some x1/\wr.cell? ⟨gp,r*3+1,none⟩=some x2/\wr.cell? ⟨gp,r*3+2,none⟩=some x3/\FF (p r) KQ (.agg #[x1,x2,x3]) wr:=by
    by_cases e:gs=gp
    . obtain⟨e1,e2,e3⟩:=ej.o e;have fs:r=i:=by rw[e3,gM oO]at A;exact(aD A).symm
      obtain⟨x1,x2,x3,g1,g2,g3,g4⟩:=bm.o.at (k:=r) oO;rw[e]at g1 g2 g3;have e5:i9 (tU b p a) i r=p r:=by unfold i9;rw[aH oO,e2 r Q]
      rw[e5]at g4;refine⟨x1,x2,x3,g1,g2,g3,g4.1,?_,a9.o⟩;rw[e2 r Q];exact nr.mono a9.o
    . exact(cy.o e).at Q
   obtain⟨px,py,pz,g1,g2,g3,c6⟩:=em;obtain⟨Y6,bo⟩:=nm wr.drew;have F:Bl wr Y6:=by rw[<-bo];exact(ac _ _).drew
   have P:=bI _ _ g1;obtain⟨c7,c8,c9⟩:=Ib (ce F P g1) (ce F P g2) (ce F P g3);have en:O (gp<Y6.heap.size):=Hi (aF P F.size);obtain⟨eo,da,db,ep,eq,dc,dd⟩:=If (c6.below F) (bn.o.below F) c5 (bm.o.below F) A bo F;have q1:((i:Int)<(n:Int)):=oO;have q2:((r:Int)<(N:Int)):=oO;have er:O (KQ+KA<68719476000):=Hi (oB ad.o);clear A c5 c6 bo F P g1 g2 g3;go_wp2_with fail;clear t0;refine ou 12 (fun j=>some (35+j)) ?_;rw[dc.o];refine cV [] ?_;refine cV [] ?_;refine cV [] ?_;refine cV [] ?_;refine cV [2,3] ?_;refine gJ (c:=?_) [4] (fun w hb=>?_) ?_;rotate_left
   . intro K d;obtain⟨e0,e1,e2⟩:=Jb hb en.o c7.o c8.o c9.o;go_simp;exact d
   refine cV [] ?_;refine cV [] ?_;refine cV [6,7] ?_;refine gJ (c:=?_) [8] (fun w hb=>?_) ?_;rotate_left
   . intro K d;obtain⟨e0,e1,e2⟩:=(da.o.below hb).cells db.o;go_simp;exact d
   refine fP (φ:=FF (p r - a r) (KQ+KA+1)) [5,9] (od _ _) (fun w hb=>?_) ?_
   . intro K d;go_simp;exact fB (FF.qW (eo.o.below hb) ((da.o.below hb).fe db.o) er.o) d
   refine cV [0,1] ?_;refine qr aL (by rfl) (by rfl) kK (fun x4 hb=>?_);simp only[nE,cH,bO,sR,Act.put,aU,cN,bX,Nat.reduceAdd,Nat.reduceBEq,gO,fS];intro ft de K d;have U:=de.mono (k':=G) ad.o.1;obtain⟨x',y',z',rfl⟩:=U.oe;obtain⟨o1,o2,o3⟩:=U.1.one;have df:=ns prog o1;have dg:=ns prog o2;have dh:=ns prog o3;have B:=ep.o.below hb;obtain⟨y0,y1,y2,d0,d1,d2,_⟩:=B.at c4;have f0:=B.blk.blk.free (i*3);have f1:=B.blk.blk.free (i*3+1);have f2:=B.blk.blk.free (i*3+2);have ho:=(((cX gs x4).setCell (i*3) x').setCell (i*3+1) y').setCell (i*3+2) z';have R:=dd.o.trans (hb.mono dd.o.size);have es:=Hi (B.set c4 U (i9 (tU b p a) (i+1)) (fun l=>by
    unfold i9;by_cases e:l=i
    . subst e;rw[aN oO,aN rfl];unfold tU;rw[show b.getD l 0=r by rw[aC,eq.o];rfl]
    . rw[aH e];by_cases e2:l<i
      . rw[aN oO,aN e2]
      . rw[aH oO,aH e2]))
   obtain⟨et,eu,ew,ex,ey,ez⟩:=Ie (fun e=>((cy.o e).below R).only B ho (fun h=>e h.symm)) ((bn.o.below R).only B ho (oB a0.o)) ((cz.o.below R).only B ho (oB a0.o)) ((a4.o.below R).F7 B ho) ((aq.o.below R aq.o.lt).only ho (oB a0.o)) (fU (ar.o.trans (R.mono ar.o.size)) ho (by rw[ae.o];have:=a0.o;omega));clear o1 o2 o3 B de U hb ho R;go_simp;refine d _ _ ?_;clear d d0 d1 d2 f0 f1 f2 df dg dh;go_wp2;go_roundw
   case rel=>exact⟨i+1,_,oO,by go_num,es.o,et.o,eu.o,ew.o,ex.o,ey.o,ez.o⟩
   case measure=>exact mI
  .
   obtain rfl:i=n:=oO;have x0:=aq.o.cell 0;have x1:=aq.o.cell 1;have di:=aq.o.cell 2;simp only[aK,aI,aM]at x0 x1 di;have dj:=Hi ((HG.o.below ar.o).FU X.o.2.2.2);go_wp2_with fail;refine fB dj.o ?_;intro v5 w5 bp h5;obtain⟨e4,dk,dl⟩:=Ib h5 (WY (ca:=fc) h5 (a4.o.below bp) f.o (fun r A=>by rw[C.o]at A;exact⟨(Giv.frs_mem.1 A).1,(Giv.frs_mem.1 A).1⟩) oO (oB X.o.2.2.2)) bp;clear h5 bp x0 x1 di;go_wp2_with fail;refine fB dk.o ?_;rintro _ w6 dm ⟨G6,g6,rfl,bc,bd⟩;have au:=dl.o.trans (dm.mono dl.o.size);obtain⟨rs,r1,r2,r3,r4,r5⟩:=bd.gm.rows (fun r c hc=>by unfold nt;rw[aH oO]);rw[bc]at r1 r2 r5;have m:=bm.o.below au;have a5:ss.map (·.q)=mD b i p a:=by
    apply fK;intro l;unfold mD;rw[aP,aP];rcases bB l i with h|h
    . obtain⟨t,T⟩:=m.get h;rw[T,gM h];have:=(m.val l t T).1;unfold i9 at this;rw[aN h]at this;simp[this]
    . rw[aO (by rw[m.len];exact h),aO (sU h)]
      rfl
   have hq:=m.blk.row;rw[m.len]at hq;have bq:=H0.o;have br:=eb.o;rw[f.o]at bq br;have bt:=Ru (some ⟨G6,0,none⟩) (some ⟨gs,0,none⟩) i i i G rs ss w6 I HI.o r2 (fun r A t T=>aE (r4 r A t T) ad.o.2.1) hq (fun t T=>by obtain⟨l,hl⟩:=dM T;exact(m.val l t hl).2) (by rw[m.len,r1]) oO oO cb.o ad.o.2.2 (by rw[r5,a5];exact bq) (by rw[r5,a5];exact br);rw[r5,a5,r1]at bt;obtain⟨dn,dp,e6,e7⟩:=Ic bt (ar.o.trans (au.mono ar.o.size)) (cz.o.below au) (a4.o.below au);clear bc bd dm au r1 r2 r3 r4 r5 m a5 hq bq br bt dj dk e4;go_wp2_with fail;go_fit dn.o;rintro e w7 ⟨bu,a6⟩;obtain⟨bw,dq,e8⟩:=Ib (dp.o.trans (a6.mono dp.o.size)) (e6.o.below a6) (e7.o.below a6);clear a6 dn;rcases bu with ⟨rfl,dr⟩|⟨rfl,ds⟩|⟨gx,xs,rfl,dt,du,dv,dw⟩
   . have bx:=Hi dr;clear dr;go_wp2;go_ret2;refine⟨.inl ⟨rfl,?_⟩,bw.o⟩;rw[f.o];exact bx.o
   . have bx:=Hi ds;clear ds;go_wp2;go_ret2;refine⟨.inr (.inl ⟨rfl,?_⟩),bw.o⟩;rw[f.o];exact bx.o
   .
    have e9:O (RB w7 gx i G (qAt xs) xs):=Hi ⟨dt,du,fun l t T=>⟨(CL T).symm,dv t (mO T)⟩⟩;have fb:O (∀y,sH i (mY b i (Giv.stf v.length (dP vb v.length vh) cv)) (mD b i p a) y↔∀l,l<i->y l=qAt xs l):=Hi (fun y=>(dw y).trans ⟨fun h l hl=>by
     obtain⟨t,T⟩:∃t,xs[l]?=some t:=⟨xs[l]' oO,gE _⟩;rw[CL T];exact h l t T,fun h l t T=>by
     rw[<-CL T]
     exact h l (oB ((gZ T).1))⟩)
    have dx:O b.Nodup:=Hi (by rw[C.o];exact sL.filter _);have fd:=Hi (dq.o.mono (K':=G) (by have h1:=ad.o.2.1;have h2:=X.o.2.2.2;omega));clear dt du dv dw dq;go_wp2_with fail;go_loopw [64] (fun jv wl=>∃(j:Nat)(us:Ah),j<=i/\jv=.int .i64 j/\RB wl gm N G (rM b (qAt xs) (jC vh W s.length) j) us/\RB wl gx i G (qAt xs) xs/\mA wl fa (b.map (fun n:Nat=>Value.int .i64 n))/\Below w.heap.size w wl) (fun jv _=>i - (intOf jv).toNat)
    case atStart=>exact⟨0,ms,oO,rfl,fd.o,e9.o,e8.o,bw.o⟩
    case round=>
     obtain⟨j,us,hj,rfl,al,am,an,ap⟩:=hrel;obtain⟨g,E,dy,dz⟩:=Ic al am an ap;clear al am an ap;by_cases ff:j<i
     .
      obtain⟨r,A⟩:∃r,b[j]?=some r:=⟨b[j]'(oB f.o),gE _⟩;obtain⟨ab,ao,rfl,ek,t0⟩:=Ij dy.o A;have Q:r<N:=by have h1:=mO A;rw[C.o]at h1;exact(Giv.frs_mem.1 h1).1
      obtain⟨tx,a7⟩:=E.o.get ff;obtain⟨d0,d1,d2⟩:=E.o.cells a7;have bz:=E.o.fe a7;obtain⟨o1,o2,o3⟩:=bz.1.one;have df:=ns prog o1;have dg:=ns prog o2;have dh:=ns prog o3;obtain⟨y0,y1,y2,c0,c1,c2,_⟩:=g.o.at Q;have f0:=g.o.blk.blk.free (r*3);have f1:=g.o.blk.blk.free (r*3+1);have f2:=g.o.blk.blk.free (r*3+2);have ho:=(((cX gm wr).setCell (r*3) tx.x).setCell (r*3+1) tx.y).setCell (r*3+2) tx.z;have fg:=Hi (g.o.set Q bz (rM b (qAt xs) (jC vh W s.length) (j+1)) (fun l=>by
       show (if l=b.getD j 0 then qAt xs j else rM b (qAt xs) (jC vh W s.length) j l)=_
       rw[show b.getD j 0=r by rw[aC,A];rfl]))
      have fh:O (RB (((wr.setCell ⟨gm,r*3,none⟩ tx.x).setCell ⟨gm,r*3+1,none⟩ tx.y).setCell ⟨gm,r*3+2,none⟩ tx.z) gx i G (qAt xs) xs):=Hi (by
       by_cases e:gx=gm
       . have b0:=E.o;rw[e]at b0;have fi:=b0.DU g.o;have ea:b=List.range N:=by rw[C.o];exact PT (by rw[<-C.o,f.o,fi])
         have fj:r=j:=by rw[ea,gM oO]at A;exact(aD A).symm
         rw[fj,b0.again a7];exact E.o
       . exact E.o.only g.o ho e)
      obtain⟨fk,fl⟩:=Ia (dy.o.F7 g.o ho) (fU dz.o ho (by rw[ae.o];exact af.o));have q1:((j:Int)<(i:Int)):=oO;have q2:((r:Int)<(N:Int)):=oO;clear A a7 bz o1 o2 o3 ho;go_wp2;go_roundw
      case rel=>exact⟨j+1,_,oO,by go_num,fg.o,fh.o,fk.o,fl.o⟩
      case measure=>exact mI
     . obtain rfl:j=i:=oO;go_wp2;go_ret2;refine⟨.inr (.inr ⟨gm,us,_,rfl,by rw[ae.o];exact af.o,g.o,fun r A=>Lh A _ (cO f.o.symm),fun y=>?_⟩),dz.o⟩;rw[f.o];refine(fb.o y).trans ⟨fun h l hl=>?_,fun h l hl=>?_⟩
       . rw[Fz dx.o _ (cO f.o.symm) hl]
         exact h l hl
       . have:=h l hl
         rwa [Fz dx.o _ (cO f.o.symm) hl]at this
end Go.Proofs.YtfgclhpgdanmfaaGreatDoor
