import Derived.Test.YtfgclhpgdanmfaaGreatDoorS30PlnB
namespace Go.Proofs.YtfgclhpgdanmfaaGreatDoor
set_option linter.defProp false
open Go.RowKit
open Go.Proofs.Tryz
set_option linter.unusedSimpArgs false
set_option linter.unusedVariables false
set_option maxHeartbeats 8000000
set_option maxRecDepth 1000000
variable{a:Am}{B K W b c d g i k n:Nat}{v x y:Ac}{r s t:PR}{f rs:AF}{w w':Vz}
def Kz:lJ (Rat.num 0)=0:=dD
def Ky{q:Rat}(h:q≠0):(lJ q.num != 0)=true/\(lJ q.num == 0)=false:=by
 have a:q.num≠0:=fun e=>h (jA.1 e)
 have:lJ q.num≠0:=by
  unfold lJ
  split
  . decide
  . first|decide|(split<;>first|decide|omega)
 exact⟨by rw[jk];exact this,by rw[aJ];exact this⟩
def Ff(a b:Addr)(x y:Ac)(v:Vz):Prop:=v.cell? a=some x/\v.cell? b=some y
def JM{a b:Addr}(v:Vz)(c:v.cell? a=some x)(d:v.cell? b=some y):Ff a b x y v:=⟨c,d⟩
def Fc(a b c d:Addr)(x y z t:Ac)(v:Vz):Prop:=v.cell? a=some x/\v.cell? b=some y/\v.cell? c=some z/\v.cell? d=some t
def Fm{a b c d:Addr}{z t:Ac}(v:Vz)(e:v.cell? a=some x)(f:v.cell? b=some y)(g:v.cell? c=some z)(h:v.cell? d=some t):Fc a b c d x y z t v:=⟨e,f,g,h⟩
def CV(rs:AF)(c k i:Nat)(bv:Ac):Prop:=
 (bv=.int .i64 (-1)/\∀(j:Nat)(r:PR),k<=j->j<i->rs[j]?=some r->r.q c=0)∨∃(b:Nat)(r:PR),bv=.int .i64 (b:Nat)/\k<=b/\b<i/\rs[b]?=some r/\r.q c≠0
def CV.F2{f:Ac}(h:CV rs c k i f)(l:rs[i]?=some r)(m:r.q c=0):CV rs c k (i+1) f:=by
 rcases h with ⟨a,d⟩|⟨b,n,a,d,u,o,p⟩
 .
  refine .inl ⟨a,fun j x s t g=>?_⟩;by_cases e:j=i
  . subst e;obtain rfl:=aD (l.symm.trans g);exact m
  . exact d j x s oO g
 . exact .inr ⟨b,n,a,d,oO,o,p⟩
def T5(hb:rs[b]?=some s)(hk:rs[k]?=some t):((rs.set k s).set b t)[k]?=some s:=by
 by_cases e:k=b
 . subst e;obtain rfl:=aD (hb.symm.trans hk);exact bP (sU ((gZ hk).1))
 . rw[bN (gH e)]
   exact bP (gZ hk).1
def Kx(rs:AF)(k b:Nat)(s t:PR):((rs.set k s).set b t).length=rs.length:=sS
def vp(rs1 ra:AF)(c k i:Nat)(p:cW):Prop:=ra.length=rs1.length/\∀(m:Nat)(r r1:PR),ra[m]?=some r->rs1[m]?=some r1->r.q=if m=k then p else if m<i then down c p r1.q else r1.q
def vp.start{a g:AF}{v p:cW}(h:Part a g k W v p)(i:∀d,W<=d->v d=p d):vp a g c k 0 p:=by
 refine⟨h.len,fun m r n b f=>?_⟩;by_cases e:m=k
 . subst e;rw[aN rfl];obtain⟨o,j,l⟩:=h.done i;obtain rfl:=aD (b.symm.trans j);exact l
 . rw[aH e,aH oO];rw[h.other m e,f]at b;rw[aD b]
def vp.next{a j:AF}{p:cW}(h:vp a j c k i p)(hl:f.length=j.length)(o:∀m,m≠i->f[m]?=j[m]?)(s:∀(r b:PR),f[i]?=some r->a[i]?=some b->r.q=if i=k then p else down c p b.q):vp a f c k (i+1) p:=by
 refine⟨hl.trans h.1,fun m r b l d=>?_⟩;by_cases e:m=i
 . subst e
   rw[s r b l d,aN (nJ _)]
 .
  rw[o m e]at l;rw[h.2 m r b l d];by_cases g:m=k
  . rw[aN g,aN g]
  . rw[aH g,aH g];by_cases n:m<i
    . rw[aN n,aN oO]
    . rw[aH n,aH oO]
def vp.all{R:Nat}(h:vp ((rs.set k s).set b t) f c k R (jn c s.q))(l:rs.length=R):f.map PR.q=mu c k b s.q t.q (rs.map PR.q):=by
 have hl:=h.1.trans (Kx _ _ _ _ _);apply fK;intro m;rcases bB m rs.length with i|i
 .
  obtain⟨r,j⟩:∃r,f[m]?=some r:=⟨_,gE oO⟩;obtain⟨g,a⟩:∃g,((rs.set k s).set b t)[m]?=some g:=⟨_,gE (by rw[Kx];exact i)⟩;have e:((List.map PR.q rs).set k s.q).set b t.q=((rs.set k s).set b t).map PR.q:=by rw[iT,iT]
  rw[mu,nv,e,aP,aP,j,a];simp only[lu];rw[h.2 m r g j a];by_cases d:m=k
  . rw[aN d,aN d]
  . rw[aH d,aH d,aN oO]
 . rw[aO (by rw[bF];omega),aO (by rw[H9,bF];omega)]
def Bq(h:r.ts.length=W)(a:W<=d):r.q d=0:=ND oO
def T4(h:r.ts.length=W)(a:W<=d):jn c r.q d=0:=by simp only[jn];rw[Bq h a];grind
def T3{p v:cW}(h:p d=0):v d=down c p v d:=by simp only[down];rw[h];grind
def T2{p v:cW}(h:v c=0):down c p v=v:=by funext d;simp only[down];rw[h];grind
def T1(B g n W N K R cp:Nat)(zs:Vv)(rs:AF)(M:Aj)(w:Vz)(T:∃m,w.cell? ⟨4,0,none⟩=some (.int .i64 m))(ax:4<B)(be:∀c L hs,Pl W N M c L hs->∀(j:Nat)(v:cW),L[j]?=some v->∀i,Fits (v i) K)(U:0<K)(P:4*K<100000000000)(hq:PQ w w B g W K zs rs [] (.slice none 0 0))(h0:Pl W N M 0 (rs.map PR.q) [])(hn:n<=W)(hW:W<=1000)(hR:rs.length=R)(dx:R<=1000)(dy:R<=cp):
 Calls prog 83 #[.slice (some ⟨g,0,none⟩) R cp,.int .i64 n] w fun e w'=>∃(bq:AF)(hs:Vy)(tv:Ac),e=.returned tv/\PQ w w' B g W K zs bq hs tv/\Pl W N M n (bq.map PR.q) hs/\bq.length=R:=by
 obtain⟨ay,bf,HQ,H0,HR⟩:=Id T be hq h0 hR;clear T be hq h0 hR;go_enter func83,ntmps83;go_wp2_with fail;go_loopw [5,6] (fun tv cv wr=>∃(c:Nat)(rs:AF)(hs:Vy),c<=n/\cv=.int .i64 c/\PQ w wr B g W K zs rs hs tv/\Pl W N M c (rs.map PR.q) hs/\rs.length=R) (fun _ cv _=>n - (intOf cv).toNat)
 case atStart=>exact⟨0,rs,[],cJ _,rfl,HQ.o,H0.o,HR.o⟩
 case round=>
  obtain⟨c,rs,hs,hc,rfl,hq,cd,bg⟩:=hrel;clear HQ H0 HR;obtain⟨HQ,az,l⟩:=Ib hq cd bg;clear hq cd bg;by_cases dz:c<n
  .
   have q1:(c:Int)<(n:Int):=oO;obtain⟨ta,tc,br,_⟩:=HQ.o.told.slice;obtain⟨k,hk⟩:=nm hs.length;rw[hk]at br;obtain⟨HK,c7⟩:=Ia hk br;have c8:k<=R:=by have:=az.o.le;rw[bF]at this;have:=l.o;omega
   subst br;clear hk c7;go_wp2_with fail;go_loopw [8,9] (fun bv iv c9=>∃i:Nat,k<=i/\i<=R/\iv=.int .i64 i/\c9=wr/\CV rs c k i bv) (fun _ iv _=>R - (intOf iv).toNat)
   case atStart=>exact⟨k,aV _,c8,rfl,rfl,.inl ⟨rfl,fun j r h1 h2=>oO⟩⟩
   case round=>
    obtain⟨i,da,db,rfl,rfl,al⟩:=hrel;have a0:=Hi al;clear al;by_cases ea:i<R
    .
     obtain⟨r,X,G,cf,bs⟩:=HQ.o.at (i:=i) (oB l.o);obtain⟨pb,x1,hv,hf,_⟩:=HQ.o.num X (j:=c) oO;obtain⟨HS,aj⟩:=Ia (eT.yE (((HQ.o.glob ay.o ax)).put hv hf U) (bM _)) X;have q2:(i:Int)<(R:Int):=oO;have q3:(c:Int)<(W:Int):=oO;clear hv hf X;by_cases hz:r.q c=0
     . have HZ:=Hi hz;rw[hz,Kz]at HS;clear hz;go_wp2_with fail;go_fit HS.o;rintro e wn ⟨rfl,rfl⟩;go_wp2;go_roundw
       case rel=>exact⟨i+1,oO,oO,by go_num,by first|rfl|trivial,a0.o.F2 aj.o HZ.o⟩
       case measure=>exact mI
     . have HZ:=Hi hz;have sz:=(Ky hz).1;obtain⟨S,hS⟩:=nm (lJ (r.q c).num);rw[hS]at HS sz;clear hz hS;go_wp2_with fail;go_fit HS.o;rintro e wn ⟨rfl,rfl⟩;go_wp2;go_roundw
       case rel=>exact⟨i+1,oO,oO,by go_num,by first|rfl|trivial,.inr ⟨i,r,rfl,da,oO,aj.o,HZ.o⟩⟩
       case measure=>exact mI
    .
     obtain rfl:R=i:=oO;rcases a0.o with ⟨rfl,cg⟩|⟨b,sr,rfl,dc,eb,ch,ci⟩
     . have dd:=Hi cg;clear cg a0;go_wp2;go_roundw
       case rel=> refine⟨c+1,rs,hs,oO,by go_num,HQ.o,az.o.skip (fun j v hj de=>?_),l.o⟩;rw[aP]at hj;obtain⟨r,X,rfl⟩:=aZ.1 hj;exact dd.o j r (by rw[<-HK.o];exact de) (oC ((gZ X).1) l.o) X
       case measure=>exact mI
     .
      obtain⟨am,cj⟩:=Ia ch ci;clear ch ci a0;have q2:¬((b:Int)<0):=oO;obtain⟨df,aa,G,ck,cl⟩:=HQ.o.at (i:=b) (oB l.o);obtain rfl:=aD (am.o.symm.trans aa);obtain⟨tr,a1,x1,dt,du⟩:=HQ.o.at (i:=k) (oB l.o);have cm:=Hi a1;have q3:(b:Int)<(R:Int):=oO;have q4:(k:Int)<(R:Int):=oO;have f:=(HQ.o.below bR.drew).yD am.o a1;have an:=az.o.step (b:=b) (s:=sr.q) (t:=tr.q) (by rw[HK.o];exact dc) (by rw[aP,am.o];rfl) (by rw[aP,HK.o,a1];rfl) cj.o;rw[HK.o]at an;have ao:=Hi an;have f0:=(HQ.o.below bR.drew).mat.blk.free k;obtain⟨Z1,a2⟩:=nm ((wr.setCell ⟨g,k,none⟩ (.slice (some ⟨sr.b,0,none⟩) W sr.cap)).drew);have bt:SB Z1 g 81 ((rs.map PR.val++zs).toArray.setIfInBounds k (.slice (some ⟨sr.b,0,none⟩) W sr.cap)):=by rw[<-a2];exact(HQ.o.mat.blk.set k _).drew
      have f1:=bt.free b;obtain⟨y1,dg⟩:∃y,Z1.cell? ⟨g,b,none⟩=some y:=by rw[bt.cell];exact⟨_,iG (by simp;have:=l.o;omega)⟩
      obtain⟨Z,hZ⟩:=nm (Z1.setCell ⟨g,b,none⟩ (.slice (some ⟨tr.b,0,none⟩) W tr.cap));replace f:PQ w Z B g W K zs ((rs.set k sr).set b tr) hs (.slice ta k tc):=by rw[<-hZ,<-a2];exact f
      obtain⟨ap,cn,cq⟩:=Ib f a2 hZ;clear aa a1 f an a2 hZ bt;go_wp2_with fail;have a:=JM wr.drew G x1;refine eM.BQ (D:=[13,15]) kK a ?_;refine xG [0,1,2,3,4,5,6,7,8,9,10,11,12] ?_
      iterate 13
       first
        |(
         refine eM.pp (v:=?_) (by rfl) kK kK kK kK iZ (fun _=>a) (fT ⟨by rfl,?_⟩) ?_
         rotate_left
         (focus(intro wq E;clear E;first|(go_simp;done)|(go_simp;with_reducible rfl))))
        |(
         refine eM.sp (v:=?_) (by rfl) kK kK kK kK kK iZ a (fT ⟨by rfl,?_⟩) ?_
         rotate_left
         (focus(intro wq E;obtain⟨f,a3⟩:=E;first|(go_simp;done)|(go_simp;with_reducible rfl))))
       (try simp only[Act.put,sA,sB,sC])
      refine qT ?_;clear a;refine kB (rs:=[13]) kK sS ?_;refine kT (by rfl) ?_ nT;intro KK P;go_simp;(try dsimp only);refine P.out _ _ (fun h=>absurd dD h) ?_;clear P KK;(try simp only[Act.put,sA,sB,sC]);rw[cn.o];refine zV (i:=14) (v:=?_) rfl kK kK kK kK (fun _ _ _ h=>h) (fT ⟨by rfl,?_⟩) (fun h=>absurd h (FD (d:=13) (by rfl) (by rfl))) ?_
      rotate_left
      . intro wq E;clear E
        first|(go_simp;done)|(go_simp;with_reducible rfl)
      (try simp only[Act.put,sA,sB,sC]);refine kB (rs:=[15]) kK sS ?_;refine kT (by rfl) ?_ nT;intro KK P;go_simp;(try dsimp only);refine P.out _ _ (fun h=>absurd dD h) ?_;clear P KK;(try simp only[Act.put,sA,sB,sC]);refine Mc kK ?_ _;rw[cq.o];clear G x1 f0 f1 dg cn cq;obtain⟨af,ab⟩:=nm ((rs.set k sr).set b tr);have aq:af[k]?=some sr:=by rw[<-ab];exact T5 am.o cm.o
      have a4:O (af.length=R):=Hi (by rw[<-ab,Kx];exact l.o);have f:=ap.o;rw[ab]at f;obtain⟨bu,bh⟩:=Ia aq ab;have bw:=f.wide sr (mO aq);obtain⟨p,hp⟩:=nm (jn c sr.q);have HP:=Hi hp;have dh:O (∀d,Fits (p d) K):=Hi (fun d=>by
       rw[<-hp]
       exact bf.o _ _ _ ao.o k _ (H8 (by rw[aP,am.o];rfl) (by rw[aP,cm.o];rfl)) d)
      have bi:O (∀d,W<=d->sr.q d=p d):=Hi (fun d hd=>by rw[<-hp,Bq bw hd,T4 bw hd]);obtain⟨df,aa,G,ck,cl⟩:=f.at (i:=k) (oB a4.o);obtain rfl:=aD (aq.symm.trans aa);obtain⟨pk,x1,H,cr,_⟩:=f.num aq (j:=c) oO;obtain⟨cs,ct⟩:=Ia H cr;clear ap;have ap:=Hi f;have q5:(c:Int)<(W:Int):=oO;clear aq ab f hp aa H cr bw;go_wp2_with fail;clear G x1;go_loopw [67] (fun jv J=>∃(j:Nat)(ra:AF),j<=W/\jv=.int .i64 j/\PQ w J B g W K zs ra hs (.slice ta k tc)/\Part af ra k j sr.q p/\cQ J pk (sr.q c)) (fun jv _=>W - (intOf jv).toNat)
      case atStart=>exact⟨0,af,cJ _,rfl,ap.o,Part.start _ bu.o,cs.o⟩
      case round=>
       obtain⟨j,ra,hj,rfl,F,ak,H⟩:=hrel;obtain⟨J,rfl⟩:∃J,J=wr:=⟨wr,rfl⟩;by_cases ad:j<W
       .
        obtain⟨r,X,ar,V⟩:=ak.row;obtain⟨r',cu,G,cf,bs⟩:=F.at (i:=k) (oC ak.len a4.o);obtain rfl:=aD (X.symm.trans cu);obtain⟨b1,x1,ag,ah,_⟩:=F.num X ad;have cw:=V j lZ;rw[cw]at ag ah;have q6:(j:Int)<(W:Int):=oO;have T:=F.mat.blk.lt;have f0:=fun (u:Vz) (hb:Bl J u)=>(F.below hb).mat.free (j:=j) X
        obtain⟨bx,a5,a6,Q,C,di,bz,au⟩:=Ig f0 G x1 (((F.glob ay.o ax).put H ct.o U).put ag ah U) F ak X H;have b0:O (j<r.ts.length):=Hi (by rw[F.wide r (mO X)];exact ad);clear X ar V cu ag ah cw F ak H f0;go_wp2_with fail;have a:=JM J.drew G x1;refine dK.BQ (k:=15) kK a ?_;refine xG [0,1,2,3,4,5,6,7,8,9,10,11,12] ?_
        iterate 13
         refine xH (v:=?_) (by rfl) kK kK kK kK iZ a (fT ⟨by rfl,?_⟩) ?_
         rotate_left 1
         (focus(intro wq E;obtain⟨f,a3⟩:=E;first|(go_simp;done)|(go_simp;with_reducible rfl)));(try simp only[Act.put,sA,sB,sC])
        refine qT ?_;clear a;refine rh (i:=13) kK rfl (fun KK P=>?_);go_simp;apply cM;apply eT.DO (w0:=J);exact Q.o.drew;exact bM _;exact cU _ (bM _);omega;exact cj.o;rintro e wn ⟨nb,rfl,z⟩;have A:=Hi z.base;have b4:=Hi (z.ts _ (bM _)).1;clear G x1 z;have G:=ce A.o T a5.o;have x1:=ce A.o bs a6.o;have f0:=bx.o wn A.o;refine P.out _ _ (fun _=>⟨G,x1⟩) ?_;clear P KK;(try simp only[Act.put,sA,sB,sC]);have a:=JM wn G x1;refine DN (i:=14) (v:=?_) rfl kK kK kK kK (fun _ _ _ h=>h) (fT ⟨by rfl,?_⟩) a ?_
        rotate_left 1
        . intro wq E;obtain⟨f,a3⟩:=E
          first|(go_simp;done)|(go_simp;with_reducible rfl)
        (try simp only[Act.put,sA,sB,sC]);clear a;refine rh (i:=15) kK rfl (fun KK P=>?_);go_simp;refine P.out _ _ (fun h=>absurd rfl h) ?_;clear P KK;(try simp only[Act.put,sA,sB,sC]);refine vD kK ?_ _;clear G x1 f0;have b5:O (cQ wn nb (p j)):=Hi (by rw[<-HP.o];exact b4.o);go_wp2;go_roundw
        case rel=>exact⟨j+1,_,oO,by go_num,(C.o.below A.o).put bz.o ad b5.o (dh.o j) U,di.o.step bz.o b0.o,(C.o.below A.o).xJ bz.o (au.o.below A.o)⟩
        case measure=>exact mI
       .
        obtain rfl:W=j:=oO;obtain⟨HD,C⟩:=Ia (vp.start (c:=c) ak bi.o) F;clear F ak H cs;go_wp2_with fail;go_loopw [88] (fun iv J=>∃(i:Nat)(ra:AF),i<=R/\iv=.int .i64 i/\PQ w J B g W K zs ra hs (.slice ta k tc)/\vp af ra c k i p) (fun iv _=>R - (intOf iv).toNat)
        case atStart=>exact⟨0,ra,cJ _,rfl,C.o,HD.o⟩
        case round=>
         clear HD C;obtain⟨i,ra,hi,rfl,F,b6⟩:=hrel;obtain⟨J,rfl⟩:∃J,J=wr:=⟨wr,rfl⟩;obtain⟨C,ai,a7⟩:=Ib F b6 (b6.1.trans a4.o);clear F b6;by_cases db:i<R
         .
          have q6:(i:Int)<(R:Int):=oO;by_cases a8:i=k
          . subst a8;have e1:((i:Int) == (i:Int))=true:=sS;go_wp2;go_roundw
            case rel=>exact⟨i+1,ra,oO,by go_num,C.o,ai.o.next rfl (fun _ _=>rfl) (fun r r1 h1 h2=>by rw[ai.o.2 i r r1 h1 h2,aN rfl,aN rfl])⟩
            case measure=>exact mI
          .
           have e1:((i:Int) == (k:Int))=false:=by rw[aJ];omega
           obtain⟨r,X,G,cf,bs⟩:=C.o.at (i:=i) (oB a7.o);obtain⟨pb,x1,hv,hf,_⟩:=C.o.num X (j:=c) oO;obtain⟨r1,ar⟩:∃r1,af[i]?=some r1:=⟨_,gE (oB a4.o)⟩;have cx:r.q=r1.q:=by rw[ai.o.2 i r r1 X ar,aH a8,aH (sk _)]
           obtain⟨HS,aj,b7,b8,a9,ba,bb⟩:=If (eT.yE (((C.o.glob ay.o ax)).put hv hf U) (bM _)) X ar cx hv hf a8;clear hv hf X ar cx a8;by_cases hz:r.q c=0
           . have HZ:=Hi hz;rw[hz,Kz]at HS;clear hz;go_wp2_with fail;go_fit HS.o;rintro e wn ⟨rfl,rfl⟩;go_wp2;go_roundw
             case rel=> refine⟨i+1,ra,oO,by go_num,C.o,ai.o.next rfl (fun _ _=>rfl) (fun r' dj h1 h2=>?_)⟩;obtain rfl:=aD (aj.o.symm.trans h1);obtain rfl:=aD (b7.o.symm.trans h2);rw[aH bb.o,<-b8.o,T2 HZ.o]
             case measure=>exact mI
           .
            have sz:=(Ky hz).2;obtain⟨S,hS⟩:=nm (lJ (r.q c).num);rw[hS]at HS sz;obtain⟨v,hv⟩:=nm r.q;obtain⟨u,hu⟩:=nm (down c p v);obtain⟨HU,cy⟩:=Ia hu hv;have dk:=Hi (fun d=>by
             have hh:=ao.o;have hd:∃x,(mu c k b sr.q tr.q (rs.map PR.q))[i]?=some x/\x=u:=by
              rw[<-hu,<-HP.o,<-hv,b8.o];refine⟨_,?_,rfl⟩;have e:((List.map PR.q rs).set k sr.q).set b tr.q=af.map PR.q:=by rw[<-bh.o,iT,iT]
              rw[mu,nv,e,aP,b7.o];simp only[lu,aH bb.o]
             obtain⟨x,hx,rfl⟩:=hd
             exact bf.o _ _ _ hh i _ hx d)
            have dl:=C.o.wide r (mO aj.o);have dm:O (∀d,W<=d->v d=u d):=Hi (fun d hd=>by
             have h1:p d=0:=by rw[<-bi.o d hd];exact Bq (ap.o.wide sr (mO bu.o)) hd
             rw[<-hu]
             exact T3 h1)
            have b9:=a9.o;have ca:=ba.o;rw[hv]at b9 ca;clear a9 ba;obtain⟨a9,ba,dn⟩:=Ib b9 ca (Part.start (rs:=ra) u aj.o);clear hz hS hu hv dl b9 ca;go_wp2_with fail;go_fit HS.o;rintro e wn ⟨rfl,rfl⟩;go_wp2_with fail;clear G x1;go_loopw [117] (fun jv J=>∃(j:Nat)(rb:AF),j<=W/\jv=.int .i64 j/\PQ w J B g W K zs rb hs (.slice ta k tc)/\Part ra rb i j v u/\cQ J pb (v c)) (fun jv _=>W - (intOf jv).toNat)
            case atStart=>exact⟨0,ra,cJ _,rfl,C.o,by rw[<-cy.o];exact dn.o,a9.o⟩
            case round=>
             obtain⟨j,rb,hj,rfl,I,ae,H⟩:=hrel;obtain⟨wy,rfl⟩:∃wy,wy=wr:=⟨wr,rfl⟩;by_cases ad:j<W
             . obtain⟨r2,V,cz,bj⟩:=ae.row;obtain⟨ec,bk,G,dv,bl⟩:=I.at (i:=i) (oC ae.len a7.o);obtain rfl:=aD (V.symm.trans bk);obtain⟨b1,x1,ag,ah,_⟩:=I.num V ad;rw[bj j lZ]at ag ah;obtain⟨rk,bc,x2,dw,bm⟩:=I.at (i:=k) (oC ae.len a7.o);obtain⟨b2,x3,hv2,cb,_⟩:=I.num bc ad;have bn:rk.q=p:=by rw[ae.other k (gH bb.o)]at bc;rw[ai.o.2 k rk sr bc bu.o,aN rfl]
               rw[bn]at hv2 cb;have q7:(j:Int)<(W:Int):=oO;have T:=I.mat.blk.lt;obtain⟨bx,a5,a6,c0,c1,Q,bd,av,cc⟩:=Ih (fun (u:Vz) (hb:Bl wy u)=>(I.below hb).mat.free (j:=j) V) G x1 x2 x3 ((((I.glob ay.o ax).put H ba.o U).put hv2 cb U).put ag ah U) I ae V;have au:=Hi H;have b0:O (j<r2.ts.length):=Hi (by rw[I.wide r2 (mO V)];exact ad);clear V cz bj bk ag ah hv2 cb bc bn I ae H;go_wp2_with fail;have a:=Fm wy.drew G x1 x2 x3;refine dK.BQ (k:=23) kK a ?_;refine xG [0,1,2,3,4,5,6,7,8,9,10,11,12,13,14,15,16,17,18,19] ?_
               iterate 20
                refine xH (v:=?_) (by rfl) kK kK kK kK iZ a (fT ⟨by rfl,?_⟩) ?_
                rotate_left 1
                (focus(intro wq E;obtain⟨f,a3,dp,dq⟩:=E;first|(go_simp;done)|(go_simp;with_reducible rfl)));(try simp only[Act.put,sA,sB,sC])
               refine qT ?_;clear a;refine rh (i:=20) kK rfl (fun KK P=>?_);go_simp;apply cM;apply zR (w0:=wy);exact Q.o.drew;exact cU _ (cU _ (bM _));exact cU _ (bM _);omega;rintro e wm ⟨b3,rfl,z⟩;clear Q;have Q:=Hi z;clear G x1 x2 x3 z;have G:=ce Q.o.base T a5.o;have x1:=ce Q.o.base bl a6.o;have x2:=ce Q.o.base T c0.o;have x3:=ce Q.o.base bm c1.o;refine P.out _ _ (fun _=>⟨G,x1,x2,x3⟩) ?_;clear P KK;(try simp only[Act.put,sA,sB,sC]);refine rh (i:=21) kK rfl (fun KK P=>?_);go_simp;apply cM;apply zP (w0:=wy);exact Q.o;exact cU _ (bM _);exact bM _;omega;rintro e wn ⟨nb,rfl,z⟩;have A:=Hi z.base;have b4:=Hi (z.ts _ (bM _)).1;clear G x1 x2 x3 z;have G:=ce A.o T a5.o;have x1:=ce A.o bl a6.o;have x2:=ce A.o T c0.o;have x3:=ce A.o bm c1.o;have f0:=bx.o wn A.o;refine P.out _ _ (fun _=>⟨G,x1,x2,x3⟩) ?_;clear P KK;(try simp only[Act.put,sA,sB,sC]);have a:=Fm wn G x1 x2 x3;refine DN (i:=22) (v:=?_) rfl kK kK kK kK (fun _ _ _ h=>h) (fT ⟨by rfl,?_⟩) a ?_
               rotate_left 1
               . intro wq E;obtain⟨f,a3,dp,dq⟩:=E
                 first|(go_simp;done)|(go_simp;with_reducible rfl)
               (try simp only[Act.put,sA,sB,sC]);clear a;refine rh (i:=23) kK rfl (fun KK P=>?_);go_simp;refine P.out _ _ (fun h=>absurd rfl h) ?_;clear P KK;(try simp only[Act.put,sA,sB,sC]);refine vD kK ?_ _;clear G x1 x2 x3 f0;have b5:O (cQ wn nb (u j)):=Hi (by rw[<-HU.o];exact b4.o);go_wp2;go_roundw
               case rel=>exact⟨j+1,_,oO,by go_num,(bd.o.below A.o).put cc.o ad b5.o (dk.o j) U,av.o.step cc.o b0.o,(bd.o.below A.o).xJ cc.o (au.o.below A.o)⟩
               case measure=>exact mI
             . obtain rfl:W=j:=oO;obtain⟨bd,av⟩:=Ia I ae;clear I ae H;go_wp2;go_roundw
               case rel=> refine⟨i+1,rb,oO,by go_num,bd.o,ai.o.next av.o.len av.o.other (fun r' dj h1 h2=>?_)⟩;obtain⟨r3,h3,h4⟩:=av.o.done dm.o;obtain rfl:=aD (h1.symm.trans h3);obtain rfl:=aD (b7.o.symm.trans h2);rw[aH bb.o,h4,<-HU.o,<-cy.o,b8.o]
               case measure=>exact mI
         . obtain rfl:R=i:=oO;have aw:=ai.o;rw[<-bh.o,<-HP.o]at aw;have bo:=aw.all l.o;have dr:O (Pl W N M (c+1) (ra.map PR.q) (hs++ [c])):=Hi (by rw[bo];exact ao.o);obtain⟨Y,hY⟩:=nm (J.alloc (.cells #[.int .i64 (c:Nat)] 3));have c2:Bl J Y:=by rw[<-hY];exact(ac _ _).alloc lZ _
           have c3:Y.cell? ⟨J.heap.size,0,none⟩=some (.int .i64 (c:Nat)):=by rw[<-hY];exact yA J _ _
           obtain⟨ed,w',c4,c5⟩:=(C.o.below c2).app (k:=c) (nb:=J.heap.size) (c:=1) c3 (oB HK.o) 133;rw[<-hY]at c4;have ds:=Hi c5;clear aw bo hY c2 c3 c5;go_wp2;go_roundw
           case rel=>exact⟨c+1,ra,hs++ [c],oO,by go_num,ds.o,dr.o,a7.o⟩
           case measure=>exact mI
  . have c6:=Hi (cZ HQ.o az.o);obtain rfl:c=n:=oO;go_wp2;go_ret;exact⟨rs,hs,_,rfl,c6.o.1,c6.o.2,l.o⟩
def wJ(n:Nat)(M:Aj)(x:cW):Prop:=∀r,r∈ M->dot n r x=r n
def uK(n K B:Nat)(M:Aj)(w:Vz)(e:As)(w':Vz):Prop:=Below B w w'/\
 ((e=.returned (.tuple #[.slice none 0 0,.int .i64 8])/\∀x:cW,¬wJ n M x)∨
  (e=.returned (.tuple #[.slice none 0 0,.int .i64 9])/\∃x y:cW,wJ n M x/\wJ n M y/\∃c,c<n/\x c≠y c)∨
  (∃(v:Ac)(ts:Am),e=.returned (.tuple #[v,.int .i64 0])/\jD w' w.heap.size v ts/\ts.length=n/\(∀t,t∈ ts->t.2.2=K)/\∀y:cW,wJ n M y↔∀(i:Nat)(t:RT),ts[i]?=some t->y i=t.2.1))
def jD.low{B':Nat}{c:Am}(h:jD w B v c)(hB:B'<=B):jD w B' v c:=by
 refine⟨⟨⟨h.list.own.1,?_⟩,h.list.all⟩,h.vs⟩;rcases h.list.own.2 with a|⟨g,cap,b,a,hb,d⟩
 . exact .inl a
 . exact .inr ⟨g,cap,b,a,aE hB hb,d⟩
def TZ(B g n N K R cp:Nat)(zs:Vv)(rs:AF)(M:Aj)(w:Vz)(J:∃m,w.cell? ⟨4,0,none⟩=some (.int .i64 m))(ab:4<B)(G:∀c L hs,Pl (n+1) N M c L hs->∀(j:Nat)(v:cW),L[j]?=some v->∀i,Fits (v i) K)(P:0<K)(hK:4*K<100000000000)(Q:PQ w w B g (n+1) K zs rs [] (.slice none 0 0))(h0:Pl (n+1) N M 0 (rs.map PR.q) [])(hW:n+1<=1000)(hR:rs.length=R)(av:R<=1000)(aw:R<=cp):
 Calls prog 38 #[.slice (some ⟨g,0,none⟩) R cp,.int .i64 n] w (uK n K B M w):=by
 obtain⟨ad,ax⟩:=Ia (T1 B g n (n+1) N K R cp zs rs M w J ab G P hK Q h0 (dU _) hW hR av aw) J;clear J G Q h0 hR;obtain⟨W,ay⟩:=nm (n+1);go_enter func38,ntmps38;go_wp2_with fail;go_fit ad.o;rintro e w1 ⟨A,hs,tv,rfl,Q,C,H⟩;rw[ay]at Q;obtain⟨ta,tc,ae,_⟩:=Q.told.slice;obtain⟨k,hk⟩:=nm hs.length;rw[hk]at ae;subst ae;have az:k<=R:=by have:=C.le;rw[bF]at this;omega
 have a8:k<=n:=by have:=C.cln.ech.xR;omega
 obtain⟨z,T,f,HK⟩:=Ic Q C H hk;clear Q C H hk ad;go_wp2_with fail;go_loopw [7] (fun U wr=>∃i:Nat,k<=i/\i<=R/\U=.int .i64 i/\wr=w1/\∀(j:Nat)(r:PR),k<=j->j<i->A[j]?=some r->r.q n=0) (fun U _=>R - (intOf U).toNat)
 case atStart=>exact⟨k,aV _,az,rfl,rfl,fun j r h1 h2=>oO⟩
 case round=>
  obtain⟨i,a0,a9,rfl,a1,af⟩:=hrel;subst a1;obtain⟨w1,rfl⟩:∃w1,w1=wr:=⟨wr,rfl⟩;have V:=Hi af;clear af;by_cases ba:i<R
  .
   obtain⟨r,b,x0,a2,a3⟩:=z.o.at (i:=i) (oB f.o);obtain⟨pb,x1,l,hf,_⟩:=z.o.num b (j:=n) oO;obtain⟨HS,D⟩:=Ia (eT.yE (((z.o.glob ax.o ab)).put l hf P) (bM _)) b;have q2:(i:Int)<(R:Int):=oO;have q3:(n:Int)<(W:Int):=oO;clear l hf b;by_cases hz:r.q n=0
   .
    have HZ:=Hi hz;rw[hz,Kz]at HS;clear hz;go_wp2_with fail;go_fit HS.o;rintro e wn ⟨rfl,rfl⟩;go_wp2;go_roundw
    case rel=>
     refine⟨i+1,oO,oO,by go_num,by first|rfl|trivial,fun j r' h1 h2 h3=>?_⟩;by_cases e:j=i
     . subst e;obtain rfl:=aD (D.o.symm.trans h3);exact HZ.o
     . exact V.o j r' h1 oO h3
    case measure=>exact mI
   . have HZ:=Hi hz;have sz:=(Ky hz).1;obtain⟨S,hS⟩:=nm (lJ (r.q n).num);rw[hS]at HS sz;clear hz hS;go_wp2_with fail;go_fit HS.o;rintro e wn ⟨rfl,rfl⟩;go_wp2;go_ret2;exact⟨z.o.base,.inl ⟨rfl,fun x=>T.o.none (by rw[HK.o];exact a0) (by rw[aP,D.o];rfl) HZ.o x⟩⟩
  .
   obtain rfl:R=i:=oO;have ag:O (∀(i:Nat)(v:cW),hs.length<=i->(A.map PR.q)[i]?=some v->v n=0):=Hi (fun i v hi l=>by
    rw[aP]at l;obtain⟨r,b,rfl⟩:=aZ.1 l
    exact V.o i r (by rw[<-HK.o];exact hi) (oC ((gZ b).1) f.o) b)
   clear V;by_cases a4:k<n
   . have q2:(k:Int)<(n:Int):=oO;go_wp2;go_ret2;exact⟨z.o.base,.inr (.inl ⟨rfl,T.o.free ag.o (by rw[HK.o];exact a4)⟩)⟩
   .
    have q2:¬((k:Int)<(n:Int)):=oO;have a5:O (hs.length=n):=Hi (oB HK.o);go_wp2_with fail;go_loopw [8,9] (fun xv U wr=>∃(i:Nat)(I:Am),i<=n/\U=.int .i64 i/\jD wr w1.heap.size xv I/\I.length=i/\(∀t,t∈ I->t.2.2=K)/\(∀(m:Nat)(t:RT)(r:PR),I[m]?=some t->A[m]?=some r->t.2.1=r.q n)/\Below w1.heap.size w1 wr) (fun _ U _=>n - (intOf U).toNat)
    case atStart=>exact⟨0,[],cJ _,rfl,jD.nil _ _,rfl,(fun t d=>by cases d),(fun m t r X=>by cases X),ac _ _⟩
    case round=>
     obtain⟨i,I,hi,rfl,ah,ai,aj,ak,al⟩:=hrel;obtain⟨E,a,am,Z,p⟩:=Id ah ai aj ak al;clear ah ai aj ak al;by_cases bb:i<n
     .
      have aa:=z.o.below p.o;obtain⟨r,b,x0,a2,a3⟩:=aa.at (i:=i) (oB f.o);obtain⟨pb,x1,l,hf,_⟩:=aa.num b (j:=n) oO;obtain⟨Y,hY⟩:=nm (wr.alloc (.cells #[.pointer (some ⟨pb,0,none⟩)] 63));have s:Bl wr Y:=by rw[<-hY];exact(ac _ _).alloc lZ _
      have an:Y.cell? ⟨wr.heap.size,0,none⟩=some (.pointer (some ⟨pb,0,none⟩)):=by rw[<-hY];exact yA wr _ _
      obtain⟨v',w',ao,ap,aq,_⟩:=(E.o.below s).app (us:=[(pb,r.q n,K)]) (nb:=wr.heap.size) (c:=1) (m:=1) (fun t d=>by
       obtain rfl:=bE.1 d
       exact⟨l.below s,hf,P⟩) rfl (fun j u hj=>by
       match j,hj with
       |0,hj=>
        obtain rfl:Value.pointer (some ⟨pb,0,none⟩)=u:=by simpa [lS] using hj
        rw[xA]
        exact an) (oB a.o) (aE p.o.size s.size) 38
      rw[<-hY]at ao;obtain⟨a6,a7,D⟩:=Ib ap ((p.o.trans (s.mono p.o.size)).trans aq) b;obtain⟨xa,xc,F,_⟩:=E.o.row;have q4:(i:Int)<(n:Int):=oO;have q5:(n:Int)<(W:Int):=oO;have q6:(i:Int)<(R:Int):=oO;subst F;clear l hf b hY s an ap aq aa;go_wp2;go_roundw
      case rel=>
       refine⟨i+1,I++ [(pb,r.q n,K)],oO,by go_num,a6.o,by simp[a.o],fun t d=>?_,fun m t r' X ar=>?_,a7.o⟩
       . rcases bD.1 d with d|d
         . exact am.o t d
         . rw[bE.1 d]
       . rcases bB m i with h|h
         . rw[aR (oB a.o)]at X
           exact Z.o m t r' X ar
         . have au:=(gZ X).1;have e:m=i:=by rw[aS,a.o]at au;simp at au;omega
           subst e;rw[aX (oB a.o),a.o,fA]at X;obtain rfl:=aD X;obtain rfl:=aD (D.o.symm.trans ar);rfl
      case measure=>exact mI
     . obtain rfl:n=i:=oO;obtain⟨xa,xc,F,_⟩:=E.o.row;have bc:=Hi F;subst F;go_wp2;go_ret2;refine⟨z.o.base.trans (p.o.mono (aE z.o.low z.o.base.size)),.inr (.inr ⟨_,I,rfl,E.o.low z.o.base.size,a.o,am.o,fun y=>?_⟩)⟩;refine(T.o.one ag.o a5.o y).trans ?_;constructor
       . intro h i t d;have bd:=(gZ d).1;obtain⟨r,b⟩:∃r,A[i]?=some r:=⟨_,gE (oC a.o f.o)⟩;rw[Z.o i t r d b];exact h i r.q (oB a.o) (by rw[aP,b];rfl)
       . intro h i v hi l;rw[aP]at l;obtain⟨r,b,rfl⟩:=aZ.1 l;obtain⟨t,d⟩:∃t,I[i]?=some t:=⟨_,gE (oB a.o)⟩;rw[<-Z.o i t r d b];exact h i t d
def eT.unit{w0:Vz}{L:An}(h:eT w0 w L):
 Calls prog 33 #[.int .i64 1] w (wj w0 L 1 1):=
 (Bp 1 w dD).mono fun e w' a=>h.new a Fits.one dD
structure PV (w:Vz) (B g n K:Nat) (x:cW) (ts:Am):Prop where
 blk:rE w g ts
 low:B<=g
 len:ts.length=n
 q:∀(i:Nat)(t:RT),ts[i]?=some t->t.2.1=x i/\t.2.2<=K
def PV.below{x:cW}(h:PV w B g n K x a)(hb:Bl w w'):PV w' B g n K x a:=⟨h.blk.below hb,h.low,h.len,h.q⟩
def PV.get{x:cW}{c:Am}(h:PV w B g n K x c)(m:i<n):∃b k:Nat,c[i]?=some (b,x i,k)/\w.cell? ⟨g,i,none⟩=some (.pointer (some ⟨b,0,none⟩))/\cQ w b (x i)/\Fits (x i) K/\0<K:=by obtain⟨⟨b,q,k⟩,a⟩:∃t,c[i]?=some t:=⟨_,gE (by rw[h.len];exact m)⟩;obtain⟨e,d⟩:=h.q i _ a;obtain⟨f,j,l⟩:=h.blk.vs _ (mO a);simp only at e d f j l;subst e;exact⟨b,k,a,h.blk.cell a,f,j.mono d,aF l d⟩
def PV.set{x:cW}{q:Rat}{d:Am}(h:PV w B g n K x d)(f:i<n)(l:cQ w b q)(m:Fits q k)(hk:0<k)(c:k<=K):PV (w.setCell ⟨g,i,none⟩ (.pointer (some ⟨b,0,none⟩))) B g n K (qQ x i q) (d.set i (b,q,k)):=by
 refine⟨h.blk.set l m hk,h.low,by simpa using h.len,fun j t a=>?_⟩;by_cases e:j=i
 . rw[e,bP (by rw[h.len];exact f)]at a;obtain rfl:=aD a;rw[e,yC];exact⟨rfl,c⟩
 . rw[bN (gH e)]at a;rw[sT _ _ e];exact h.q j t a
def PV.mono{K':Nat}{x:cW}(h:PV w B g n K x a)(hk:K<=K'):PV w B g n K' x a:=⟨h.blk,h.low,h.len,fun i t b=>⟨(h.q i t b).1,aE (h.q i t b).2 hk⟩⟩
def PV.of(h:jg w g n n a)(hB:B<=g):PV w B g n 1 (fun _=>0) a:=by
 refine⟨⟨?_,h.vs⟩,hB,h.len,fun i t b=>?_⟩
 . have:=h.blk;rw[fA]at this
   simpa using this
 . obtain⟨c,d⟩:=h.zero t (mO b)
   exact⟨c,by rw[d];exact aV _⟩
def TY(k:Nat):qQ (fun _=>0) k 1=mM k:=by funext i;simp only[qQ,mM]
def NA(n k:Nat)(w:Vz)(J:∃m,w.cell? ⟨4,0,none⟩=some (.int .i64 m))(hk:k<n)(N:n<=1000):
 Calls prog 70 #[.int .i64 n,.int .i64 k] w fun e w'=>∃(g:Nat)(v:Am),e=.returned (.slice (some ⟨g,0,none⟩) n n)/\PV w' w.heap.size g n 1 (mM k) v/\Below w.heap.size w w':=by
 have K:=Hi (lM J);have x:=LN n oO w;obtain⟨L,j⟩:=nm ((List.replicate n (Value.pointer none)).toArray);rw[j]at x;obtain⟨g,l⟩:=nm w.heap.size;obtain⟨V,C⟩:=nm (w.alloc (.cells L 63));have D:=Ua C;have E:O (jg V g n 0 []):=Hi ⟨by rw[<-C,<-l,<-j];exact cK w _ _,(fun t F=>by cases F),rfl,(fun t F=>by cases F)⟩;obtain⟨M,f⟩:=Ia C l;have P:(k:Int)<(n:Int):=oO;clear J j C l;go_enter func70,ntmps70;go_wp2_with fail;rw[M.o];rw[f.o];clear x;go_loopw [11] (fun G wr=>∃(i:Nat)(v:Am),i<=n/\G=.int .i64 i/\jg wr g n i v/\Below w.heap.size w wr) (fun G _=>n - (intOf G).toNat)
 case atStart=>exact⟨0,[],cJ _,rfl,E.o,D.o⟩
 case round=>
  obtain⟨i,v,Q,rfl,y,z⟩:=hrel;obtain⟨A,d⟩:=Ia y z;clear y z;by_cases H:i<n
  .
   have R:(i:Int)<(n:Int):=oO;have q:=Hi (eT.tG ((K.o.below d.o).lg));go_wp2_with fail;go_fit q.o;rintro e w2 ⟨b,rfl,a⟩;have r:=Hi a.base;have s:=Hi (a.ts _ (bM _)).1;have c:=A.o.below a.base;have f0:=c.blk.free i;have t0:w2.cell? ⟨g,i,none⟩=some (.pointer none):=by rw[c.blk.cell];have e:(v.map lS++List.replicate (n - i) (Value.pointer none)).toArray[i]?=(v.map lS++List.replicate (n - i) (Value.pointer none))[i]?:=sS;rw[e,aX (by rw[bF,c.len];exact aV _),bF,c.len,fA,fW,aN oO]
   have u:=Hi c;clear a c;go_wp2;go_roundw
   case rel=>exact⟨i+1,_,oO,by go_num,u.o.step H s.o,(d.o.trans (r.o.mono d.o.size)).setCell (p:=⟨g,i,none⟩) (cO f.o) _⟩
   case measure=>exact mI
  . obtain rfl:n=i:=oO;obtain⟨I,q⟩:=Ia (PV.of (B:=w.heap.size) A.o (cO f.o)) (eT.unit ((K.o.below d.o).lg));go_wp2_with fail;go_fit q.o;rintro e w2 ⟨b,rfl,a⟩;have r:=Hi a.base;have s:=Hi (a.ts _ (bM _)).1;have c:=I.o.below a.base;obtain⟨S,k',_,t0,_⟩:=c.get hk;have f0:=c.blk.blk.free k;have u:=Hi c;clear a c;go_wp2;go_ret;have h:=u.o.set hk s.o Fits.one Nat.one_pos lZ;rw[TY]at h;exact⟨g,_,rfl,h,(d.o.trans (r.o.mono d.o.size)).setCell (p:=⟨g,k,none⟩) (cO f.o) _⟩
def Fs.grown{e:Vr}{xs:Vv}(c:Grow w B e 1 jy v n xs)(h:w.grownBy w' v.ownBlock):Fs w w':=by refine⟨h.size,fun b i u a hk=>h.block b (bI _ _ a) (fun e=>?_)⟩;obtain⟨C,hC,d⟩:=c.sb e.symm;rw[hC.cell]at a;exact hk (d u (mO (by rw[dF];exact a)))
structure KR where
 g:Nat
 ts:List RT
def KR.val(n:Nat)(r:KR):Value:=.slice (some ⟨r.g,0,none⟩) n n
end Go.Proofs.YtfgclhpgdanmfaaGreatDoor
