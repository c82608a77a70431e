import Derived.Test.YtfgclhpgdanmfaaGreatDoorS36GivD
namespace Go.Proofs.YtfgclhpgdanmfaaGreatDoor
set_option linter.defProp false
open Go.RowKit
open Go.Proofs.Tryz
set_option linter.unusedSimpArgs false
set_option linter.unusedVariables false
set_option maxHeartbeats 8000000
set_option maxRecDepth 1000000
variable{a u w:Vz}{B G K W g i j n:Nat}{b:Vy}{M:Ae}{us:Ah}
def yN(c s e:cW)(k:Nat):cW:=fun i=>if i<k then c i*(s i - e i) else s i
def Xa(W Y a3:Vx)(c1 c2 c3 nh gm N Km B KP:Nat)(C:Ad)(d:Ap)(hs:Ak)(D:Aa)(x U E:cW)(ms:Ah)(w:Vz)(hg:jq w)(hj:eO S2.cells w W c1 C)(hf:eO B6.cells w Y c2 d)(n1:C.length<=10)(n2:d.length<=24)(hl:D.length=d.length)(hv:∀(i:Nat)(b:B6)(p:Al),d[i]?=some b->D[i]?=some p->wL 1048576 C b p)(Z:∀(i:Nat)(b:B6),d[i]?=some b->il b.c.data.toList (U i)/\il b.e.data.toList (E i)/\b.c.size<=1048576/\b.e.size<=1048576)(hm:RB w gm N Km x ms)(hN:2*C.length=N)(f:B=2*(8388611+(2*Km+1))+1)(aa:Km<=1000000000)(ab:KP=4194305+(B+4194305+1)):
 Calls prog 44 #[.agg #[.slice W C.length c1,.slice Y d.length c2,.slice a3 nh c3],.slice (some ⟨gm,0,none⟩) N N] w fun e w'=>∃g us,e=.returned (.slice (some ⟨g,0,none⟩) d.length d.length)/\w.heap.size<=g/\RB w' g d.length KP (fun i=>U i*(fV D x i - E i)) us/\Below w.heap.size w w':=by
 obtain⟨V,hV⟩:=nm (w.alloc (.cells #[.slice W C.length c1,.slice Y d.length c2,.slice a3 nh c3] 26));have h:Bl w V:=by rw[<-hV];exact(ac _ _).alloc lZ _
 have ad:SB V w.heap.size 26 #[.slice W C.length c1,.slice Y d.length c2,.slice a3 nh c3]:=by rw[<-hV];exact cK w _ _
 obtain⟨ae,af,HG,HF,ar,F,ag,HK⟩:=Ig (Xb W Y a3 c1 c2 c3 nh gm N Km B C d D x ms V (hg.below h) (hj.below h) (hf.below h) n1 n2 hl hv (hm.below h) hN f aa) ad (hg.below h) (hf.below h) Z h hV (cZ ab (cZ f aa));clear h hV ad hg hj hf hl hv hm hN f Z ab;go_enter func44,ntmps44;go_wp2_with fail;rw[ag.o];go_fit ae.o;rintro e w1 ⟨G,au,rfl,ah,n,H⟩;have k1:=(af.o.below H af.o.lt).cell 1;simp only[aK,aI,aM]at k1;obtain⟨av,aw,ax,ai⟩:=Ic (n.mono (K':=KP) (oB HK.o)) (fun i t u=>(n.val i t u).2) H ah;clear ah n H ae ag;go_wp2_with fail;go_loopw [14] (fun iv wr=>∃(k:Nat)(us:Ah),k<=d.length/\iv=.int .i64 k/\RB wr G d.length KP (yN U (fV D x) E k) us/\(∀(i:Nat)(t:FE),k<=i->us[i]?=some t->t.k<=B)/\Below V.heap.size V wr) (fun iv _=>d.length - (intOf iv).toNat)
 case atStart=>exact⟨0,au,oO,rfl,av.o.eq (fun i hi=>by unfold i9 yN;rw[aN hi,aH oO]),fun i t _ u=>aw.o i t u,ax.o⟩
 case round=>
  obtain⟨k,us,hk,rfl,n,aj,ak⟩:=hrel;obtain⟨I,al,HB⟩:=Ib n aj ak;clear n ak aj;by_cases J:k<d.length
  .
   obtain⟨b,L⟩:∃b,d[k]?=some b:=⟨d[k],gE J⟩;obtain⟨bb,bo,rfl,be,d0,d1,d2,d3,d4,d5⟩:=(HF.o.below HB.o).bar L;have v:=Hi (ar.o k b L);obtain⟨X,hX⟩:=nm (wr.alloc (.cells #[.int .i64 b.a,.int .i64 b.b,.string b.c,.string b.e,.string b.l,.string b.m] 72));have M:Bl wr X:=by rw[<-hX];exact(ac _ _).alloc lZ _
   have P:SB X wr.heap.size 72 #[.int .i64 b.a,.int .i64 b.b,.string b.c,.string b.e,.string b.l,.string b.m]:=by rw[<-hX];exact cK wr _ _
   have ay:=Hi hX;have Q:Bl X X.drew:=bR.drew;have y:=P.below Q P.lt;obtain⟨R,S⟩:=Ia (y.cell 2) (y.cell 3);simp only[aK,aI,aM]at R S;have am:=Hi y.lt;have T:=M.trans (Q.mono M.size);obtain⟨q,z⟩:=Ia (HB.o.trans (T.mono HB.o.size)) (I.o.below T);obtain⟨t,u⟩:=I.o.get J;have an:=Hi u;have az:=Hi (by
    have h1:=z.o.val k t u;have h2:=h1.1.trans (by unfold yN;rw[aH oO]);have h3:=zF (z.o.blk.row.get u) (al.o k t lZ u);rw[h2]at h3
    exact h3)
   have ao:O (B+4194305<68719476000/\4194305+(B+4194305+1)<68719476000):=Hi (oB HK.o);have a0:=Hi HK.o.1.symm;have q5:((k:Int)<(d.length:Int)):=oO;clear L hX M P Q y T u;go_wp2_with fail;rw[ay.o];clear d0 d1 d2 d3 d4 d5;generalize A:wr.heap.size=R0 at*;have ap:=Hi A;clear A;refine ou 15 (fun j=>some (19+j)) ?_;refine cV [] ?_;refine cV [] ?_;refine cV [] ?_;refine gJ (c:=?_) [2] (fun w hb=>?_) ?_;rotate_left
   . intro K f;obtain⟨e0,e1⟩:=Ja hb am.o R.o S.o;go_simp;exact f
   refine fP (φ:=FF (U k) 4194305) [3] (od _ _) (fun w hb=>?_) ?_
   . intro K f;go_simp;exact fB (Mb (HG.o.below (q.o.trans (hb.mono q.o.size))) v.o.1 v.o.2.2.1 dD dD) f
   refine cV [] ?_;refine cV [] ?_;refine cV [5,6] ?_;refine gJ (c:=?_) [7] (fun w hb=>?_) ?_;rotate_left
   . intro K f;obtain⟨d0,d1,d2⟩:=(z.o.below hb).cells an.o;go_simp;exact f
   refine cV [] ?_;refine gJ (c:=?_) [9] (fun w hb=>?_) ?_;rotate_left
   . intro K f;obtain⟨e0,e1⟩:=Ja hb am.o R.o S.o;go_simp;exact f
   refine fP (φ:=FF (E k) 4194305) [10] (od _ _) (fun w hb=>?_) ?_
   . intro K f;go_simp;exact fB (Mb (HG.o.below (q.o.trans (hb.mono q.o.size))) v.o.2.1 v.o.2.2.2 dD dD) f
   refine fP (φ:=FF (fV D x k - E k) (B+4194305+1)) [8,11] (od _ _) (fun w hb=>?_) ?_
   . intro a4 a5;intro K f;go_simp;exact fB ((az.o.below hb).qW a5 ao.o.1) f
   refine fP (φ:=FF (U k*(fV D x k - E k)) (4194305+(B+4194305+1))) [4,12] (od _ _) (fun w hb=>?_) ?_
   . intro v4 h4 a6 a7;intro K f;go_simp;exact fB (h4.tC a7 ao.o.2) f
   refine cV [0,1] ?_;refine qr aL (by rfl) (by rfl) kK (fun x3 hb=>?_);simp only[nE,cH,bO,sR,Act.put,aU,cN,bX,Nat.reduceAdd,Nat.reduceBEq,gO,fS];intro v4 _ a4 _ a6 _ bf s K f;rw[a0.o]at s;obtain⟨x',y',z',rfl⟩:=s.oe;obtain⟨o1,o2,o3⟩:=s.1.one;have a8:=ns prog o1;have a9:=ns prog o2;have ba:=ns prog o3;have r:=z.o.below hb;obtain⟨c0,c1,c2⟩:=r.cells an.o;have f0:=r.blk.blk.free (k*3);have f1:=r.blk.blk.free (k*3+1);have f2:=r.blk.blk.free (k*3+2);have ho:=(((cX G x3).setCell (k*3) x').setCell (k*3+1) y').setCell (k*3+2) z';have bc:=Hi (r.set J s (yN U (fV D x) E (k+1)) (fun i=>by
    unfold yN;by_cases e:i=k
    . subst e
      rw[aN oO,aN rfl]
    . rw[aH e];by_cases e2:i<k
      . rw[aN oO,aN e2]
      . rw[aH oO,aH e2]))
   obtain⟨bd,HO⟩:=Ia (q.o.trans (hb.mono q.o.size)) ho;clear o1 o2 o3 r s hb ho;go_simp;refine f _ _ ?_;clear f c0 c1 c2 f0 f1 f2 a8 a9 ba;have A:=ap.o;subst A;go_wp2;go_roundw
   case rel=> refine⟨k+1,_,oO,by go_num,bc.o,fun i t' hi aq=>?_,fU bd.o HO.o ai.o⟩;rw[bN oO]at aq;exact al.o i t' oO aq
   case measure=>exact mI
  . obtain rfl:k=d.length:=oO;go_wp2;go_ret;exact⟨G,us,rfl,aE F.o.size ai.o,I.o.eq (fun i hi=>by unfold yN;rw[aN hi]),F.o.trans (HB.o.mono F.o.size)⟩
def GM.on(h:GM w u B G W K b M)(hb:Bl u a):GM a a B G W K b M:=by have:=h.below hb;exact⟨ac _ _,this.o,this.row,this.nd,this.ne,this.lo,this.los⟩
structure GA (u:Vz) (B G W K:Nat) (gs:Vy) (M:Ae):Prop where
 gm:GM u u B G W K gs M
 hi:G<u.heap.size
def GM.ga{a:Vy}(h:GM w u B G W K a M):GA u B G W K a M:=⟨h.on bR,h.o.lt⟩
def GA.below(h:GA u B G W K b M)(hb:Bl u a):GA a B G W K b M:=⟨h.gm.on hb,aF h.hi hb.size⟩
def nt(at_:Vy)(n:Nat)(M:Ae)(i0 k0:Nat):Nat->Nat->Rat:=fun i k=>if k<n/\(i<i0∨(i=i0/\k<k0)) then M (at_.getD i 0) (at_.getD k 0) else 0
def Ij{a:Vx}{l:Vy}{x:Nat}(h:mA w a (l.map (fun n:Nat=>Value.int .i64 n)))(d:l[i]?=some x):∃b c,a=some ⟨b,c,none⟩/\b<w.heap.size/\w.cell? ⟨b,c+i,none⟩=some (.int .i64 x):=h.cell i _ (by rw[aP,d];rfl)
def T7(GI B0 W K n m:Nat)(U:Vy)(M:Ae)(ai:Vx)(ca:Nat)(a:Vy)(w:Vz)(h:GA w B0 GI W K U M)(hm:U.length=m)(ha:mA w ai (a.map (fun n:Nat=>Value.int .i64 n)))(hn:a.length=n)(E:∀r,r∈ a->r<m/\r<W)(hl:n<=1000)(Y:0<K):
 Calls prog 93 #[.slice (some ⟨GI,0,none⟩) m m,.slice ai n ca] w fun e w'=>∃(G:Nat)(d:Vy),e=.returned (.slice (some ⟨G,0,none⟩) n n)/\d.length=n/\GM w w' w.heap.size G n K d (nt a n M n 0):=by
 obtain⟨HQ,HA,F,H,HN,HM⟩:=Ie h ha E (IT n n w hl hl) hn hm;clear h hn ha E hm;go_enter func93,ntmps93;go_wp2_with fail;go_fit H.o;rintro e v ⟨⟨G,d,rfl,I,q,s,b,J⟩,hb⟩;have Z:O (GM w v w.heap.size G n K d (nt a n M 0 0)):=Hi (by
  refine⟨hb,s,fun r g l=>⟨_,(b r g l).1,sS,fun c t ht=>?_⟩,J,fun r g l=>by have:=(b r g l).2;omega,q,fun r g l=>by have:=(b r g l).2;omega⟩;obtain⟨_,rfl⟩:=fM.1 (mO ht)
  exact⟨by simp[nt,FE.zero],by simp[FE.zero];omega⟩)
 have L:=Hi I;clear I q s b J hb H;go_wp2_with fail;go_loopw [17] (fun iv wr=>∃k:Nat,k<=n/\iv=.int .i64 k/\GM w wr w.heap.size G n K d (nt a n M k 0)) (fun iv _=>n - (intOf iv).toNat)
 case atStart=>exact⟨0,cJ _,rfl,Z.o⟩
 case round=>
  obtain⟨k,hk,rfl,f⟩:=hrel;have HG:=Hi f;clear f;by_cases ah:k<n
  .
   obtain⟨N,l⟩:∃r,a[k]?=some r:=⟨a[k]'(oB HN.o),gE _⟩;obtain⟨ab,ao,rfl,P,d0⟩:=Ij (HA.o.below HG.o.base) l;have q1:((k:Int)<(n:Int)):=oO;obtain⟨HR,Q⟩:=Ia l (F.o N (mO l));clear l;go_wp2_with fail;clear d0 P;go_loopw [24] (fun jv wi=>∃j:Nat,j<=n/\jv=.int .i64 j/\GM w wi w.heap.size G n K d (nt a n M k j)) (fun jv _=>n - (intOf jv).toNat)
   case atStart=>exact⟨0,cJ _,rfl,HG.o⟩
   case round=>
    obtain⟨j,hj,rfl,f⟩:=hrel;have u:=Hi f;clear f;by_cases A:j<n
    .
     obtain⟨g,hg⟩:∃g,d[k]?=some g:=⟨d[k]'(oB L.o),gE _⟩;obtain⟨R,V⟩:∃r,a[j]?=some r:=⟨a[j]'(oB HN.o),gE _⟩;obtain⟨aj,ak,aa,P,t0⟩:=Ij (HA.o.below u.o.base) V;cases aa;have ad:=F.o R (mO V);obtain⟨gr,B⟩:∃r,U[N]?=some r:=⟨U[N]'(oC HM.o Q.o),gE _⟩;have r0:=(HQ.o.below u.o.base).gm.cell B;obtain⟨us,C,ae,S⟩:=(HQ.o.below u.o.base).gm.row N gr B;obtain⟨e,X⟩:∃e,us[R]?=some e:=⟨us[R]' oO,gE _⟩;obtain⟨rb,ro,af,al,d0,d1,d2⟩:=C.row.at X;cases af;simp only[cC]at d0 d1 d2;have p:=C.row.get X;have D:=S R e X;have s0:=u.o.cell hg;obtain⟨x,y,z,c0,c1,c2,f0,f1,f2⟩:=u.o.at hg A;have ag:O (GM w (rC wr g j e.x e.y e.z) w.heap.size G n K d (nt a n M k (j+1))):=Hi (by
      refine(u.o.put lZ hg A p.1 (p.2.1.mono D.2) Y).congr (fun c i=>?_);simp only[qC,nt];by_cases h1:c=k/\i=j
      . obtain⟨rfl,rfl⟩:=h1;rw[aN ⟨rfl,rfl⟩,aN ⟨A,.inr ⟨rfl,oO⟩⟩,D.1];simp only[aC,HR.o,V,pM]
      . rw[aH h1];by_cases T:i<n/\(c<k∨(c=k/\i<j))
        . rw[aN T,aN oO]
        . rw[aH T,aH oO])
     obtain⟨o1,o2,o3⟩:=p.1.one;have am:=ns prog o1;have an:=ns prog o2;have ap:=ns prog o3;have q2:((j:Int)<(n:Int)):=oO;have q3:((R:Int)<(W:Int)):=oO;have q4:((N:Int)<(m:Int)):=oB Q.o;clear C ae S X p D o1 o2 o3 V ad B;go_wp2_with fail;go_region;go_wp2;go_roundw
     case rel=>exact⟨j+1,oO,by go_num,ag.o.below bR.drew⟩
     case measure=>exact mI
    .
     obtain rfl:j=n:=oO;have HE:O (GM w wr w.heap.size G j K d (nt a j M (k+1) 0)):=Hi (by
      refine u.o.congr (fun c i=>?_);simp only[nt];by_cases T:i<j/\(c<k∨(c=k/\i<j))
      . rw[aN T,aN oO]
      . rw[aH T,aH oO])
     go_wp2;go_roundw
     case rel=>exact⟨k+1,oO,by go_num,HE.o⟩
     case measure=>exact mI
  . obtain rfl:k=n:=oO;go_wp2;go_ret;exact⟨G,d,rfl,L.o,HG.o⟩
def W9(a:Ah)(n i:Nat)(h:i<n):qAt (a.take n) i=qAt a i:=by unfold qAt;simp only[aC,aP,aW h]
def RB.qAt{x:cW}(h:RB w g n K x us)(b:i<n):qAt us i=x i:=by obtain⟨t,a⟩:=h.get b;rw[CL a];exact(h.val i t a).1
def GM.JC{b:Vz}{K':Nat}{c:Vy}{x:cW}(h:GM w u B G W K c M)(f:RB u g n K' x us)(d:cE g u b)(k:g<B):GM b b B G W K c M:=by refine⟨ac _ _,h.o.only d (oB h.lo),fun r e a=>?_,h.nd,h.ne,h.lo,h.los⟩;obtain⟨vs,i,j⟩:=h.row r e a;exact⟨vs,i.other f.blk d (oB (h.los r e a)),j⟩
def W6(P Q R:Vx)(c1 c2 c3 gb N p S:Nat)(q:Ad)(a:Ap)(C:Ak)(z:Aa)(vh:Vy)(t:cW)(us:Ah)(w:Vz)(hg:jq w)(hf:ja w P Q R c1 c2 c3 q a C)(d:rZ 1048576 q a C z vh)(hb:RB w gb a.length p t us)(hN:2*q.length=N)(hK:S=24*(8388611+p+1)+1)(ap:p<=2500000000):
 Calls prog 45 #[.agg #[.slice P q.length c1,.slice Q a.length c2,.slice R C.length c3],.slice (some ⟨gb,0,none⟩) a.length a.length] w fun e w'=>∃g aq,e=.returned (.slice (some ⟨g,0,none⟩) N N)/\w.heap.size<=g/\RB w' g N S (Giv.putF a.length (dP z a.length vh) t) aq/\Below w.heap.size w w':=by
 obtain⟨V,hV⟩:=nm (w.alloc (.cells #[.slice P q.length c1,.slice Q a.length c2,.slice R C.length c3] 26));have l:Bl w V:=by rw[<-hV];exact(ac _ _).alloc lZ _
 have T:SB V w.heap.size 26 #[.slice P q.length c1,.slice Q a.length c2,.slice R C.length c3]:=by rw[<-hV];exact cK w _ _
 obtain⟨U,W,HG,HF,HR,ar,HV,D,X⟩:=Ih (Fv P Q R c1 c2 c3 q.length a.length C.length V d.j) T (hg.below l) (hf.below l) (hb.below l) (aF hb.blk.blk.lt l.size) d l hV;obtain⟨HN,HK⟩:=Ia hN (cZ hK ap);have n1:=d.j;have n2:=d.b;have n3:=d.h;have a9:N<=20:=oO;clear l hV T hg hf hb d hK;go_enter func45,ntmps45;go_wp2_with fail;rw[X.o];go_fit U.o;rintro e w1 ⟨rfl,r⟩;have eN:2*(q.length:Int)=(N:Int):=oB HN.o;rw[eN];have E:=B3 N oO w1;obtain⟨MC,F⟩:=nm (((List.replicate N FE.zero).flatMap FE.cells).toArray);rw[F]at E;obtain⟨V1,s⟩:=nm (w1.alloc (.cells MC 99));have Y:Bl w1 V1:=by rw[<-s];exact(ac _ _).alloc lZ _
 have H:O (RB V1 w1.heap.size N S (fun _=>0) (List.replicate N FE.zero)):=Hi (by rw[<-s];exact RB.new w1 N S MC F.symm (oB HK.o));have f:=Hi (r.trans (Y.mono r.size));have kf:=W.o.below f.o W.o.lt;have k0:=kf.cell 0;have k1:=kf.cell 1;have k2:=kf.cell 2;simp only[aK,aI,aM]at k0 k1 k2;obtain⟨G,hG⟩:=nm w1.heap.size;have I:O (V.heap.size<=G):=Hi (by rw[<-hG];exact r.size);rw[hG]at H E;rw[s]at E;have d:=HV.o;obtain⟨Z,au⟩:=Ia (Qb P Q R c1 c2 c3 1048576 8388611 q a C z vh V1 (HG.o.below f.o) (HF.o.below f.o) d.j d.b d.h d.lb d.lh d.vb d.vh d.n dD) H.o.blk.blk.lt;clear r Y s U X hG eN F kf d;go_wp2_with fail;go_fit Z.o;rintro e w2 ⟨A,Wd,GR,gs,av,aa,rfl,ab,ad⟩;obtain rfl:A=N:=oB HN.o;obtain⟨Bd,ae⟩:=nm (V1.heap.size+1);have v:=ad.toGM;rw[ae]at v;have x:=v.base;obtain⟨aw,af,ax⟩:=Ib (v.on bR) ab aa;have ag:O (G<Bd):=Hi (oB au.o);obtain⟨ay,az,a0⟩:=Ib (HR.o.below (f.o.trans (x.mono f.o.size))) (H.o.below x) (f.o.trans (x.mono f.o.size));clear v ab ad x av aa ae Z k0 k1 k2;go_wp2_with fail;go_loopw [14] (fun iv wr=>∃(k:Nat)(vs:Ah),k<=A/\iv=.int .i64 k/\RB wr G A S (i9 (Giv.putF a.length (dP z a.length vh) t) k) vs/\GM wr wr Bd GR Wd 8388611 gs (dP z a.length vh)/\RB wr gb a.length p t us/\Below V.heap.size V wr) (fun iv _=>A - (intOf iv).toNat)
 case atStart=>
  refine⟨0,List.replicate A FE.zero,oO,rfl,?_,aw.o,ay.o,a0.o⟩;have e:i9 (Giv.putF a.length (dP z a.length vh) t) 0=fun _=>0:=funext fun i=>by unfold i9;rw[aH oO]
  rw[e];exact az.o
 case round=>
  obtain⟨k,vs,hk,rfl,ah,ai,aj,ak⟩:=hrel;obtain⟨al,HQ,m,HB⟩:=Ic ah ai aj ak;clear ah ai aj ak;by_cases am:k<A
  .
   obtain⟨gr,hr⟩:∃g,gs[k]?=some g:=⟨gs[k]'(oB af.o),gE (oB af.o)⟩;have c0:=HQ.o.o.cell k;rw[aK,aP,hr,lu,jR]at c0;obtain⟨rs,an,J,K⟩:=HQ.o.row k gr hr;have hW:=ax.o;have L:=an.row;rw[J]at L;have M:=XU (some ⟨gr,0,none⟩) (some ⟨gb,0,none⟩) Wd a.length a.length a.length 8388611 p (rs.take a.length) us wr (L.take a.length) (by have:=m.o.blk.row;rw[m.o.len]at this;exact this) (by rw[cI,J];omega) m.o.len lZ oO (fun t ht=>by obtain⟨i,B⟩:=dM (dR ht);exact(K i t B).2) (fun u hu=>by obtain⟨i,B⟩:=dM hu;exact(m.o.val i u B).2) (by have:=HK.o;have h2:a.length*(8388611+p+1)<=24*(8388611+p+1):=cD _ oO;omega);have e:dot a.length (qAt (rs.take a.length)) (qAt us)=Giv.putF a.length (dP z a.length vh) t k:=by unfold Giv.putF;refine rG _ _ _ _ _ (fun i B=>?_);obtain⟨t',ao⟩:∃t',rs[i]?=some t':=⟨rs[i]' oO,gE oO⟩;rw[W9 _ _ _ B,CL ao,(K i t' ao).1,m.o.qAt B]
   rw[e]at M;have a4:=Hi M;have q1:((k:Int)<(A:Int)):=oO;have q2:((a.length:Int)<=(Wd:Int)):=oO;clear hr L an J K M e hW;go_wp2_with fail;refine fB a4.o ?_;intro v5 w5 hb h5;have y:=h5.mono (k':=S) (by
    have h1:=HK.o.1;have h2:a.length*(8388611+p+1)<=24*(8388611+p+1):=cD _ n2
    omega)
   obtain⟨x',y',z',rfl⟩:=y.oe;obtain⟨o1,o2,o3⟩:=y.1.one;have ba:=ns prog o1;have bb:=ns prog o2;have bc:=ns prog o3;have c:=al.o.below hb;obtain⟨y0,y1,y2,d0,d1,d2,_⟩:=c.at am;have f0:=c.blk.blk.free (k*3);have f1:=c.blk.blk.free (k*3+1);have f2:=c.blk.blk.free (k*3+2);have ho:=(((cX G w5).setCell (k*3) x').setCell (k*3+1) y').setCell (k*3+2) z';have a5:=Hi (c.set am y (i9 (Giv.putF a.length (dP z a.length vh) t) (k+1)) (fun i=>by
    unfold i9;by_cases e:i=k
    . subst e
      rw[aN oO,aN rfl]
    . rw[aH e];by_cases e2:i<k
      . rw[aN oO,aN e2]
      . rw[aH oO,aH e2]))
   obtain⟨a6,a7,a8,HO⟩:=Ic (HB.o.trans (hb.mono HB.o.size)) ((m.o.below hb).only c ho (oC ar.o I.o)) ((HQ.o.on hb).JC c ho ag.o) ho;clear o1 o2 o3 c h5 y hb ho c0;go_wp2;go_roundw
   case rel=>exact⟨k+1,_,oO,by go_num,a5.o,a8.o,a7.o,fU a6.o HO.o I.o⟩
   case measure=>exact mI
  . obtain rfl:k=A:=oO;go_wp2;go_ret;exact⟨G,vs,rfl,aE D.o.size I.o,al.o.eq (fun i B=>by unfold i9;rw[aN B]),D.o.trans (HB.o.mono D.o.size)⟩
def oG(V:Nat)(M:Ae)(k j:Nat):Nat->Nat->Rat:=fun c i=>if c<V/\(i<k∨(i=k/\c<j)) then M i c else 0
def W5(Z B0 W V K n:Nat)(I:Vy)(M:Ae)(w:Vz)(h:GA w B0 Z W K I M)(hn:I.length=n)(hl:n<=1000)(hW:W<=1000)(hV:V<=W)(L:0<K):
 Calls prog 147 #[.slice (some ⟨Z,0,none⟩) n n,.int .i64 V] w fun e w'=>∃(G:Nat)(b:Vy),e=.returned (.slice (some ⟨G,0,none⟩) V V)/\b.length=V/\GM w w' w.heap.size G n K b (oG V M n 0):=by
 obtain⟨HQ,u,HN⟩:=Ib h (IT V n w oO oO) hn;clear h hn;go_enter func147,ntmps147;go_wp2_with fail;go_fit u.o;rintro e v ⟨⟨G,b,rfl,A,m,p,a,B⟩,hb⟩;have N:O (GM w v w.heap.size G n K b (oG V M 0 0)):=Hi (by
  refine⟨hb,p,fun r g f=>⟨_,(a r g f).1,sS,fun c t ht=>?_⟩,B,fun r g f=>by have:=(a r g f).2;omega,m,fun r g f=>by have:=(a r g f).2;omega⟩;obtain⟨_,rfl⟩:=fM.1 (mO ht)
  exact⟨by simp[oG,FE.zero],by simp[FE.zero];omega⟩)
 have C:=Hi A;clear A m p a B hb u;go_wp2_with fail;go_loopw [15] (fun P wr=>∃k:Nat,k<=n/\P=.int .i64 k/\GM w wr w.heap.size G n K b (oG V M k 0)) (fun P _=>n - (intOf P).toNat)
 case atStart=>exact⟨0,cJ _,rfl,N.o⟩
 case round=>
  obtain⟨k,hk,rfl,d⟩:=hrel;have Q:=Hi d;clear d;by_cases D:k<n
  .
   obtain⟨gr,f⟩:∃r,I[k]?=some r:=⟨I[k]'(oB HN.o),gE _⟩;have d0:=(HQ.o.below Q.o.base).gm.cell f;have q1:((k:Int)<(n:Int)):=oO;have HR:=Hi f;clear f;go_wp2_with fail;clear d0;go_loopw [21] (fun R wi=>∃j:Nat,j<=V/\R=.int .i64 j/\GM w wi w.heap.size G n K b (oG V M k j)) (fun R _=>V - (intOf R).toNat)
   case atStart=>exact⟨0,cJ _,rfl,Q.o⟩
   case round=>
    obtain⟨j,hj,rfl,d⟩:=hrel;have E:=Hi d;clear d;by_cases S:j<V
    .
     obtain⟨g,T⟩:∃g,b[j]?=some g:=⟨b[j]'(oB C.o),gE _⟩;obtain⟨us,q,U,F⟩:=(HQ.o.below E.o.base).gm.row k gr HR.o;obtain⟨e,J⟩:∃e,us[j]?=some e:=⟨us[j]' oO,gE _⟩;obtain⟨rb,ro,X,aa,d0,d1,d2⟩:=q.row.at J;cases X;simp only[cC]at d0 d1 d2;have l:=q.row.get J;have s:=F j e J;have s0:=E.o.cell T;obtain⟨x,y,z,c0,c1,c2,f0,f1,f2⟩:=E.o.at T D;have Y:O (GM w (rC wr g k e.x e.y e.z) w.heap.size G n K b (oG V M k (j+1))):=Hi (by
      refine(E.o.put lZ T D l.1 (l.2.1.mono s.2) L).congr (fun c i=>?_);simp only[qC,oG];by_cases h1:c=j/\i=k
      . obtain⟨rfl,rfl⟩:=h1
        rw[aN ⟨rfl,rfl⟩,aN ⟨S,.inr ⟨rfl,oO⟩⟩,s.1]
      . rw[aH h1];by_cases H:c<V/\(i<k∨(i=k/\c<j))
        . rw[aN H,aN oO]
        . rw[aH H,aH oO])
     obtain⟨o1,o2,o3⟩:=l.1.one;have ab:=ns prog o1;have ad:=ns prog o2;have ae:=ns prog o3;have q2:((j:Int)<(V:Int)):=oO;have q3:((j:Int)<(W:Int)):=oO;clear q U F J l s o1 o2 o3;go_wp2_with fail;go_region;go_wp2;go_roundw
     case rel=>exact⟨j+1,oO,by go_num,Y.o.below bR.drew⟩
     case measure=>exact mI
    .
     obtain rfl:j=V:=oO;have HE:O (GM w wr w.heap.size G n K b (oG j M (k+1) 0)):=Hi (by
      refine E.o.congr (fun c i=>?_);simp only[oG];by_cases H:c<j/\(i<k∨(i=k/\c<j))
      . rw[aN H,aN oO]
      . rw[aH H,aH oO])
     go_wp2;go_roundw
     case rel=>exact⟨k+1,oO,by go_num,HE.o⟩
     case measure=>exact mI
  . obtain rfl:k=n:=oO;go_wp2;go_ret;exact⟨G,b,rfl,C.o,Q.o⟩
def FF.neg{u:Ac}{p:Rat}(h:FF p j u w):Calls prog 98 #[u] w (cS w (FF (-p) j)):=
 (GQ h.1).mono fun e w' a=>a.qw h.2.1.neg h.2.2
structure GK (u:Vz) (B G W:Nat) (gs:Vy) (kf:AR) (M:Ae):Prop where
 o:SB u G 90 (gs.map (jR W)).toArray
 row:∀(r g:Nat),gs[r]?=some g->∃us,iQ u g us/\us.length=W/\∀(c:Nat)(t:FE),us[c]?=some t->t.q=M r c/\t.k<=kf r
 nd:∀(r r' g:Nat),gs[r]?=some g->gs[r']?=some g->r=r'
 ne:∀(r g:Nat),gs[r]?=some g->g≠G
 lo:B<=G
 los:∀(r g:Nat),gs[r]?=some g->B<=g
section
variable {u u':Vz} {B G W:Nat} {gs:Vy} {kf:AR} {M:Ae}
def GK.below(h:GK u B G W gs kf M)(hb:Bl u u'):GK u' B G W gs kf M:=by refine⟨h.o.below hb h.o.lt,fun r g a=>?_,h.nd,h.ne,h.lo,h.los⟩;obtain⟨us,b,c⟩:=h.row r g a;exact⟨us,b.below hb,c⟩
def GK.cell{r g:Nat}(h:GK u B G W gs kf M)(a:gs[r]?=some g):u.cell? ⟨G,r,none⟩=some (.slice (some ⟨g,0,none⟩) W W):=by rw[h.o.cell];simp[a,jR]
def GK.mono{a:AR}{d:Ae}(h:GK u B G W gs kf M)(hk:∀r,kf r<=a r)(i:∀r c,r<gs.length->c<W->M r c=d r c):GK u B G W gs a d:=by refine⟨h.o,fun r g e=>?_,h.nd,h.ne,h.lo,h.los⟩;obtain⟨us,j,k,f⟩:=h.row r g e;exact⟨us,j,k,fun c t b=>⟨(f c t b).1.trans (i r c (gZ e).1 (oB ((gZ b).1))),aE (f c t b).2 (hk r)⟩⟩
def GK.Jp{r l:Nat}{us:Ah}{y:cW}{x:Nat}(h:GK u B G W gs kf M)(K:r<gs.length)(z:∀(i g:Nat),gs[i]?=some g->g≠l)(hG:l≠G)(hB:B<=l)(s:iQ u l us)(hl:us.length=W)(D:∀(c:Nat)(t:FE),us[c]?=some t->t.q=y c/\t.k<=x):
 GK (u.setCell ⟨G,r,none⟩ (jR W l)) B G W (gs.set r l) (fun i=>if i=r then x else kf i) (fun i c=>if i=r then y c else M i c):=by
 have w:pX (gs.map (jR W)).toArray:=fun i n=>by rw[aK,aP];cases gs[i]?<;>simp[jR]
 have A:cE G u (u.setCell ⟨G,r,none⟩ (jR W l)):=(cX G u).setCell r _;have m:∀{g:Nat} {vs:Ah},iQ u g vs->g≠G->iQ (u.setCell ⟨G,r,none⟩ (jR W l)) g vs:=fun s d=>⟨s.blk.only A d,fun t p=>⟨(s.ts t p).1.only A h.o w,(s.ts t p).2⟩⟩
 have b:∀(i g:Nat),(gs.set r l)[i]?=some g->(i=r/\g=l)∨(i≠r/\gs[i]?=some g):=fun i g f=>by
  rw[yM]at f
  split at f
  . rename_i e
    exact .inl ⟨e.symm,(aD f).symm⟩
  . rename_i e
    exact .inr ⟨fun E=>e E.symm,f⟩
 refine⟨?_,fun i g f=>?_,fun i j g f F=>?_,fun i g f=>?_,h.lo,fun i g f=>?_⟩
 . have:=h.o.set r (jR W l);rw[aU]at this;rw[iT];exact this
 .
  rcases b i g f with ⟨rfl,rfl⟩|⟨d,a⟩
  . exact⟨us,m s hG,hl,fun c t p=>by simpa using D c t p⟩
  . obtain⟨vs,H,I,J⟩:=h.row i g a
    exact⟨vs,m H (h.ne i g a),I,fun c t p=>by rw[aH d,aH d];exact J c t p⟩
 .
  rcases b i g f with ⟨rfl,rfl⟩|⟨d,a⟩<;>rcases b j _ F with ⟨rfl,e⟩|⟨C,v⟩
  . rfl
  . exact absurd rfl (z j _ v)
  . subst e
    exact absurd rfl (z i _ a)
  . exact h.nd i j g a v
 .
  rcases b i g f with ⟨rfl,rfl⟩|⟨d,a⟩
  . exact hG
  . exact h.ne i g a
 .
  rcases b i g f with ⟨rfl,rfl⟩|⟨d,a⟩
  . exact hB
  . exact h.los i g a
end
def oh(Bm:Ae)(c:cW)(i j:Nat):Nat->Nat->Rat:=fun w v=>dot i (Bm w) (fun a=>c a*Bm v a)+if w<j then Bm w i*(c i*Bm v i) else 0
def uO(B W kr:Nat)(y:cW):Fact:=fun v w=>∃(g:Nat)(us:Ah),v=jR W g/\B<=g/\iQ w g us/\us.length=W/\∀(c:Nat)(t:FE),us[c]?=some t->t.q=y c/\t.k<=kr
def uO.eL(B W a:Nat)(y:cW):mP (uO B W a y):=fun _ _ _ hb ⟨g,us,e,b,c,d⟩=>⟨g,us,e,b,c.below hb,d⟩
def W4{m k1 k2 d:Nat}{a b:Ah}{v:Ac}{q:Rat}{x:cW}(F:iQ w m a)(f:a.length=W)(y:∀(c:Nat)(t:FE),a[c]?=some t->t.q=x c/\t.k<=k1)(H:iQ w n b)(I:b.length=W)(J:∀t,t∈ b->t.k<=k2)(h:FF q j v w)(hW:W<=1000)(hk:k1+k2+j+1=d)(o:d<68719476000):
 Calls prog 148 #[.slice (some ⟨m,0,none⟩) W W,.slice (some ⟨n,0,none⟩) W W,v] w (cS w (uO w.heap.size W d (fun c=>x c - qAt b c*q))):=by
 obtain⟨b1,b2,K,rfl⟩:=h.oe;have z:=F.row;have A:=H.row;rw[f]at z;rw[I]at A;have:=Hu (some ⟨m,0,none⟩) (some ⟨n,0,none⟩) W W d j a b b1 b2 K q w z A oO oO h.1 h.2.1 h.2.2 (fun t l s L=>by
  obtain⟨i,N⟩:=dM l;have:=(y i t N).2;have:=J s L
  omega) o
 rw[f]at this;refine this.mono ?_;rintro e w' ⟨⟨g,us,rfl,O,p,r⟩,hb⟩;refine⟨_,rfl,hb,g,us,rfl,O,p,r.1.trans f,fun c t l=>?_⟩;have C:=(gZ l).1;rw[r.1,f]at C;obtain⟨e,D⟩:∃e,a[c]?=some e:=⟨a[c]' oO,gE _⟩;obtain⟨u,E,P,Q⟩:=r.2 c e C D;rw[l]at E;cases E;exact⟨by rw[P,(y c e D).1],Q⟩
end Go.Proofs.YtfgclhpgdanmfaaGreatDoor
