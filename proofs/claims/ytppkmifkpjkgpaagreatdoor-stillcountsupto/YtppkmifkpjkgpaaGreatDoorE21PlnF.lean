import Derived.Test.YtppkmifkpjkgpaaGreatDoorE20PlnB
namespace Go.Proofs.YtppkmifkpjkgpaaGreatDoor
open Go.RowKit
open Go.Proofs.Tryz
set_option linter.unusedSimpArgs false
set_option linter.unusedVariables false
set_option maxHeartbeats 8000000
set_option maxRecDepth 1000000
theorem Qkh:sgn3 (Rat.num 0)=0:=by decide
theorem Qki{q:Rat}(h:q≠0):(sgn3 q.num != 0)=true/\(sgn3 q.num == 0)=false:=by
 have a:q.num≠0:=fun e=>h (Rat.num_eq_zero.1 e)
 have:sgn3 q.num≠0:=by
  unfold sgn3
  split
  . decide
  . first|decide|(split<;>first|decide|omega)
 exact⟨by rw[bne_iff_ne];exact this,by rw[beq_eq_false_iff_ne];exact this⟩
def Cells2(a b:Addr)(x y:Value)(v:Vz):Prop:=v.cell? a=some x/\v.cell? b=some y
theorem cq2{a b:Addr}{x y:Value}(v:Vz)(c:v.cell? a=some x)(d:v.cell? b=some y):Cells2 a b x y v:=⟨c,d⟩
def Cells4(a b c d:Addr)(x y z t:Value)(v:Vz):Prop:=v.cell? a=some x/\v.cell? b=some y/\v.cell? c=some z/\v.cell? d=some t
theorem cq4{a b c d:Addr}{x y z t:Value}(v:Vz)(e:v.cell? a=some x)(f:v.cell? b=some y)(g:v.cell? c=some z)(h:v.cell? d=some t):Cells4 a b c d x y z t v:=⟨e,f,g,h⟩
def Best(rs:List PR)(c k i:Nat)(bv:Value):Prop:=
 (bv=.int .i64 (-1)/\∀(j:Nat) (r:PR),k<=j->j<i->rs[j]?=some r->r.q c=0)∨∃(b:Nat) (r:PR),bv=.int .i64 (b:Nat)/\k<=b/\b<i/\rs[b]?=some r/\r.q c≠0
theorem Best.next0{rs:List PR}{c k i:Nat}{f:Value}{r:PR}(h:Best rs c k i f)(l:rs[i]?=some r)(m:r.q c=0):Best rs c k (i+1) f:=by
 rcases h with ⟨a,d⟩|⟨b,n,a,d,u,o,p⟩
 .
  refine .inl ⟨a,fun j x s t g=>?_⟩;by_cases e:j=i
  .
   subst e;obtain rfl:=Option.some.inj (l.symm.trans g);exact m
  . exact d j x s (by omega) g
 . exact .inr ⟨b,n,a,d,by omega,o,p⟩
theorem Qsn{rs:List PR}{k b:Nat}{s t:PR}(a:rs[b]?=some s)(hk:rs[k]?=some t):((rs.set k s).set b t)[k]?=some s:=by
 by_cases e:k=b
 .
  subst e;obtain rfl:=Option.some.inj (a.symm.trans hk);exact List.getElem?_set_self (by simpa using (gZ hk).1)
 . rw[List.getElem?_set_ne (Ne.symm e)]
   exact List.getElem?_set_self (gZ hk).1
theorem Qgl(rs:List PR)(k b:Nat)(s t:PR):((rs.set k s).set b t).length=rs.length:=by simp
def Done(rs1 ra:List PR)(c k i:Nat)(p:Vec):Prop:=ra.length=rs1.length/\∀(m:Nat) (r r1:PR),ra[m]?=some r->rs1[m]?=some r1->r.q=if m=k then p else if m<i then down c p r1.q else r1.q
theorem Done.start{a g:List PR}{c k W:Nat}{v p:Vec}(h:Part a g k W v p)(i:∀d,W<=d->v d=p d):Done a g c k 0 p:=by
 refine⟨h.len,fun m r n b f=>?_⟩;by_cases e:m=k
 .
  subst e;rw[if_pos rfl];obtain⟨o,j,l⟩:=h.done i;obtain rfl:=Option.some.inj (b.symm.trans j);exact l
 .
  rw[if_neg e,if_neg (by omega)];rw[h.other m e,f] at b;rw[Option.some.inj b]
theorem Done.next{a j f:List PR}{c k i:Nat}{p:Vec}(h:Done a j c k i p)(hl:f.length=j.length)(o:∀m,m≠i->f[m]?=j[m]?)(s:∀(r b:PR),f[i]?=some r->a[i]?=some b->r.q=if i=k then p else down c p b.q):Done a f c k (i+1) p:=by
 refine⟨hl.trans h.1,fun m r b l d=>?_⟩;by_cases e:m=i
 . subst e
   rw[s r b l d,if_pos (Nat.lt_succ_self _)]
 .
  rw[o m e] at l;rw[h.2 m r b l d];by_cases g:m=k
  . rw[if_pos g,if_pos g]
  .
   rw[if_neg g,if_neg g];by_cases n:m<i
   . rw[if_pos n,if_pos (by omega)]
   . rw[if_neg n,if_neg (by omega)]
theorem Done.all{rs d:List PR}{c k b R:Nat}{s t:PR}(h:Done ((rs.set k s).set b t) d c k R (overAt c s.q))(l:rs.length=R):d.map PR.q=plStep c k b s.q t.q (rs.map PR.q):=by
 have hl:d.length=rs.length:=h.1.trans (Qgl _ _ _ _ _);apply List.ext_getElem?;intro m;rcases Nat.lt_or_ge m rs.length with i|i
 .
  obtain⟨r,j⟩:∃r,d[m]?=some r:=⟨_,gE (by omega)⟩;obtain⟨g,a⟩:∃g,((rs.set k s).set b t)[m]?=some g:=⟨_,gE (by rw[Qgl];exact i)⟩;have e:((List.map PR.q rs).set k s.q).set b t.q=((rs.set k s).set b t).map PR.q:=by rw[List.map_set,List.map_set]
  rw[plStep,List.getElem?_mapIdx,e,List.getElem?_map,List.getElem?_map,j,a];simp only[Option.map_some];rw[h.2 m r g j a];by_cases f:m=k
  . rw[if_pos f,if_pos f]
  . rw[if_neg f,if_neg f,if_pos (by omega)]
 . rw[List.getElem?_eq_none (by rw[List.length_map];omega),List.getElem?_eq_none (by rw[Qef,List.length_map];omega)]
theorem q_far{r:PR}{W d:Nat}(h:r.ts.length=W)(a:W<=d):r.q d=0:=Qke (by omega)
theorem Qso{r:PR}{W c d:Nat}(h:r.ts.length=W)(a:W<=d):overAt c r.q d=0:=by
 simp only[overAt];rw[q_far h a];grind
theorem Qsp{c d:Nat}{p v:Vec}(h:p d=0):v d=down c p v d:=by
 simp only[down];rw[h];grind
theorem Qsq{c:Nat}{p v:Vec}(h:v c=0):down c p v=v:=by
 funext d;simp only[down];rw[h];grind
theorem Qsr(B g n W N K R cp:Nat)(zs:Vv)(rs:List PR)(M:List Vec)(w:Vz)
 (T:∃m,w.cell? ⟨4,0,none⟩=some (.int .i64 m)) (ax:4<B)
 (be:∀c L hs,Pl W N M c L hs->∀(j:Nat) (v:Vec),L[j]?=some v->∀i,Fits (v i) K) (U:0<K) (P:4*K<100000000000)
 (hq:PQ w w B g W K zs rs [] (.slice none 0 0)) (h0:Pl W N M 0 (rs.map PR.q) []) (hn:n<=W) (hW:W<=1000) (hR:rs.length=R) (dx:R<=1000) (dy:R<=cp):
 Calls prog 48 #[.slice (some ⟨g,0,none⟩) R cp,.int .i64 n] w fun e w'=>∃(bq:List PR) (hs:Vy) (tv:Value),e=.returned tv/\PQ w w' B g W K zs bq hs tv/\Pl W N M n (bq.map PR.q) hs/\bq.length=R:=by
 obtain⟨ay,bf,HQ,H0,HR⟩:=Id T be hq h0 hR;clear T be hq h0 hR;go_enter func48,ntmps48;go_wp2_with fail;go_loopw [5,6] (fun tv cv wr=>∃(c:Nat) (rs:List PR) (hs:Vy),c<=n/\cv=.int .i64 c/\PQ w wr B g W K zs rs hs tv/\Pl W N M c (rs.map PR.q) hs/\rs.length=R) (fun _ cv _=>n - (intOf cv).toNat)
 case atStart=>exact⟨0,rs,[],Nat.zero_le _,rfl,HQ.o,H0.o,HR.o⟩
 case round=>
  obtain⟨c,rs,hs,hc,rfl,hq,cd,bg⟩:=hrel;clear HQ H0 HR;obtain⟨HQ,az,l⟩:=Ib hq cd bg;clear hq cd bg;by_cases dz:c<n
  .
   have q1:(c:Int)<(n:Int):=by omega
   obtain⟨ta,tc,br,_⟩:=HQ.o.told.slice;obtain⟨k,hk⟩:=nm hs.length;rw[hk] at br;obtain⟨HK,c7⟩:=Ia hk br;have c8:k<=R:=by
    have:=az.o.le;rw[List.length_map] at this;have:=l.o;omega
   subst br;clear hk c7;go_wp2_with fail;go_loopw [8,9] (fun bv iv c9=>∃i:Nat,k<=i/\i<=R/\iv=.int .i64 i/\c9=wr/\Best rs c k i bv) (fun _ iv _=>R - (intOf iv).toNat)
   case atStart=>exact⟨k,Nat.le_refl _,c8,rfl,rfl,.inl ⟨rfl,fun j r h1 h2=>by omega⟩⟩
   case round=>
    obtain⟨i,da,db,rfl,rfl,al⟩:=hrel;have a0:=Hi al;clear al;by_cases ea:i<R
    .
     obtain⟨r,hr,G,cf,bs⟩:=HQ.o.at (i:=i) (by have:=l.o;omega);obtain⟨pb,x1,hv,hf,_⟩:=HQ.o.num hr (j:=c) (by omega);obtain⟨HS,aj⟩:=Ia (RBag.sign (((HQ.o.glob ay.o ax)).put hv hf U) (List.Mem.head _)) hr;have q2:(i:Int)<(R:Int):=by omega
     have q3:(c:Int)<(W:Int):=by omega
     clear hv hf hr;by_cases hz:r.q c=0
     .
      have HZ:=Hi hz;rw[hz,Qkh] at HS;clear hz;go_wp2_with fail;go_fit HS.o;rintro e wn ⟨rfl,rfl⟩;go_wp2;go_roundw
      case rel=>exact⟨i+1,by omega,by omega,by go_num,by first|rfl|trivial,a0.o.next0 aj.o HZ.o⟩
      case measure=>simp[intOf];omega
     .
      have HZ:=Hi hz;have sz:=(Qki hz).1;obtain⟨S,hS⟩:=nm (sgn3 (r.q c).num);rw[hS] at HS sz;clear hz hS;go_wp2_with fail;go_fit HS.o;rintro e wn ⟨rfl,rfl⟩;go_wp2;go_roundw
      case rel=>exact⟨i+1,by omega,by omega,by go_num,by first|rfl|trivial,.inr ⟨i,r,rfl,da,by omega,aj.o,HZ.o⟩⟩
      case measure=>simp[intOf];omega
    .
     obtain rfl:R=i:=by omega
     rcases a0.o with ⟨rfl,cg⟩|⟨b,V,rfl,dc,eb,ch,ci⟩
     .
      have dd:=Hi cg;clear cg a0;go_wp2;go_roundw
      case rel=>
       refine⟨c+1,rs,hs,by omega,by go_num,HQ.o,az.o.skip (fun j v hj de=>?_),l.o⟩;rw[List.getElem?_map] at hj;obtain⟨r,hr,rfl⟩:=Option.map_eq_some_iff.1 hj;exact dd.o j r (by rw[<-HK.o];exact de) (by have:=(gZ hr).1;have:=l.o;omega) hr
      case measure=>simp[intOf];omega
     .
      obtain⟨am,cj⟩:=Ia ch ci;clear ch ci a0;have q2:¬((b:Int)<0):=by omega
      obtain⟨df,aa,G,ck,cl⟩:=HQ.o.at (i:=b) (by have:=l.o;omega);obtain rfl:=Option.some.inj (am.o.symm.trans aa);obtain⟨tr,a1,x1,dt,du⟩:=HQ.o.at (i:=k) (by have:=l.o;omega);have cm:=Hi a1;have q3:(b:Int)<(R:Int):=by omega
      have q4:(k:Int)<(R:Int):=by omega
      have f:=(HQ.o.below bR.drew).swap am.o a1;have an:=az.o.step (b:=b) (s:=V.q) (t:=tr.q) (by rw[HK.o];exact dc) (by rw[List.getElem?_map,am.o];rfl) (by rw[List.getElem?_map,HK.o,a1];rfl) cj.o;rw[HK.o] at an;have ao:=Hi an;have f0:=(HQ.o.below bR.drew).mat.blk.free k;obtain⟨Z1,a2⟩:=nm ((wr.setCell ⟨g,k,none⟩ (.slice (some ⟨V.b,0,none⟩) W V.cap)).drew);have bt:SB Z1 g 103 ((rs.map PR.val++zs).toArray.setIfInBounds k (.slice (some ⟨V.b,0,none⟩) W V.cap)):=by
       rw[<-a2];exact(HQ.o.mat.blk.set k _).drew
      have f1:=bt.free b;obtain⟨y1,dg⟩:∃y,Z1.cell? ⟨g,b,none⟩=some y:=by
       rw[bt.cell];exact⟨_,Array.getElem?_eq_getElem (by simp;have:=l.o;omega)⟩
      obtain⟨Z,hZ⟩:=nm (Z1.setCell ⟨g,b,none⟩ (.slice (some ⟨tr.b,0,none⟩) W tr.cap));replace f:PQ w Z B g W K zs ((rs.set k V).set b tr) hs (.slice ta k tc):=by
       rw[<-hZ,<-a2];exact f
      obtain⟨ap,cn,cq⟩:=Ib f a2 hZ;clear aa a1 f an a2 hZ bt;go_wp2_with fail;have a:=cq2 wr.drew G x1;refine AnyDs.beg (D:=[13,15]) (by kernel_rfl) a ?_;refine Plan.of [0,1,2,3,4,5,6,7,8,9,10,11,12] ?_
      iterate 13
       first
        |(
         refine AnyDs.pp (v:=?_) (by rfl) (by kernel_rfl) (by kernel_rfl) (by kernel_rfl) (by kernel_rfl) (by exact fun _ _ _ h=>h) (fun _=>a) (Or.inl ⟨by rfl,?_⟩) ?_
         rotate_left
         (focus(intro wq E;clear E;first|(go_simp;done)|(go_simp;with_reducible rfl))))
        |(
         refine AnyDs.sp (v:=?_) (by rfl) (by kernel_rfl) (by kernel_rfl) (by kernel_rfl) (by kernel_rfl) (by kernel_rfl) (by exact fun _ _ _ h=>h) a (Or.inl ⟨by rfl,?_⟩) ?_
         rotate_left
         (focus(intro wq E;obtain⟨f,a3⟩:=E;first|(go_simp;done)|(go_simp;with_reducible rfl))))
       (try simp only[Act.put,sA,sB,sC])
      refine Plan.done ?_;clear a;refine AnyDs.ready (rs:=[13]) (by kernel_rfl) (by simp) ?_;refine AllDs.cons (by rfl) ?_ AllDs.nil;intro KK P;go_simp;(try dsimp only);refine P.out _ _ (fun h=>absurd (by decide) h) ?_;clear P KK;(try simp only[Act.put,sA,sB,sC]);rw[cn.o];refine AnyDs.takeP (i:=14) (v:=?_) rfl (by kernel_rfl) (by kernel_rfl) (by kernel_rfl) (by kernel_rfl) (fun _ _ _ h=>h) (Or.inl ⟨by rfl,?_⟩) (fun h=>absurd h (Qcl (d:=13) (by rfl) (by rfl))) ?_
      rotate_left
      .
       intro wq E;clear E
       first|(go_simp;done)|(go_simp;with_reducible rfl)
      (try simp only[Act.put,sA,sB,sC]);refine AnyDs.ready (rs:=[15]) (by kernel_rfl) (by simp) ?_;refine AllDs.cons (by rfl) ?_ AllDs.nil;intro KK P;go_simp;(try dsimp only);refine P.out _ _ (fun h=>absurd (by decide) h) ?_;clear P KK;(try simp only[Act.put,sA,sB,sC]);refine AnyDs.done (by kernel_rfl) ?_ _;rw[cq.o];clear G x1 f0 f1 dg cn cq;obtain⟨af,ab⟩:=nm ((rs.set k V).set b tr);have aq:af[k]?=some V:=by rw[<-ab];exact Qsn am.o cm.o
      have a4:O (af.length=R):=Hi (by rw[<-ab,Qgl];exact l.o);have f:=ap.o;rw[ab] at f;obtain⟨bu,bh⟩:=Ia aq ab;have bw:=f.wide V (mO aq);obtain⟨p,hp⟩:=nm (overAt c V.q);have HP:=Hi hp;have dh:O (∀d,Fits (p d) K):=Hi (fun d=>by
       rw[<-hp]
       exact bf.o _ _ _ ao.o k _ (Qeg (by rw[List.getElem?_map,am.o];rfl) (by rw[List.getElem?_map,cm.o];rfl)) d)
      have bi:O (∀d,W<=d->V.q d=p d):=Hi (fun d hd=>by rw[<-hp,q_far bw hd,Qso bw hd]);obtain⟨df,aa,G,ck,cl⟩:=f.at (i:=k) (by have:=a4.o;omega);obtain rfl:=Option.some.inj (aq.symm.trans aa);obtain⟨pk,x1,H,cr,_⟩:=f.num aq (j:=c) (by omega);obtain⟨cs,ct⟩:=Ia H cr;clear ap;have ap:=Hi f;have q5:(c:Int)<(W:Int):=by omega
      clear aq ab f hp aa H cr bw;go_wp2_with fail;clear G x1;go_loopw [67] (fun jv I=>∃(j:Nat) (ra:List PR),j<=W/\jv=.int .i64 j/\PQ w I B g W K zs ra hs (.slice ta k tc)/\Part af ra k j V.q p/\RatVal I pk (V.q c)) (fun jv _=>W - (intOf jv).toNat)
      case atStart=>exact⟨0,af,Nat.zero_le _,rfl,ap.o,Part.start _ bu.o,cs.o⟩
      case round=>
       obtain⟨j,ra,hj,rfl,F,ak,H⟩:=hrel;obtain⟨I,rfl⟩:∃I,I=wr:=⟨wr,rfl⟩;by_cases ad:j<W
       .
        obtain⟨r,hr,ar,X⟩:=ak.row;obtain⟨r',cu,G,cf,bs⟩:=F.at (i:=k) (by have:=ak.len;have:=a4.o;omega);obtain rfl:=Option.some.inj (hr.symm.trans cu);obtain⟨b1,x1,ag,ah,_⟩:=F.num hr ad;have cw:=X j lZ;rw[cw] at ag ah;have q6:(j:Int)<(W:Int):=by omega
        have T:=F.mat.blk.lt;have f0:=fun (u:Vz) (hb:Bl I u)=>(F.below hb).mat.free (j:=j) hr
        obtain⟨bx,a5,a6⟩:=Ib f0 G x1;have Q:O (RBag I I [(b1,V.q j,K),(pk,V.q c,K)]):=Hi (((F.glob ay.o ax).put H ct.o U).put ag ah U);obtain⟨C,di,bz,au⟩:=Ic F ak hr H;have b0:O (j<r.ts.length):=Hi (by rw[F.wide r (mO hr)];exact ad);clear hr ar X cu ag ah cw F ak H f0;go_wp2_with fail;have a:=cq2 I.drew G x1;refine AnyBut.beg (k:=15) (by kernel_rfl) a ?_;refine Plan.of [0,1,2,3,4,5,6,7,8,9,10,11,12] ?_
        iterate 13
         refine AnyBut.bp (v:=?_) (by rfl) (by kernel_rfl) (by kernel_rfl) (by kernel_rfl) (by kernel_rfl) (by exact fun _ _ _ h=>h) a (Or.inl ⟨by rfl,?_⟩) ?_
         rotate_left 1
         (focus(intro wq E;obtain⟨f,a3⟩:=E;first|(go_simp;done)|(go_simp;with_reducible rfl)));(try simp only[Act.put,sA,sB,sC])
        refine Plan.done ?_;clear a;refine AnyBut.one (i:=13) (by kernel_rfl) rfl (fun KK P=>?_);go_simp;apply cM;apply RBag.quoA (w0:=I);exact Q.o.drew;exact List.Mem.head _;exact List.Mem.tail _ (List.Mem.head _);omega;exact cj.o;rintro e wn ⟨nb,rfl,z⟩;have A:=Hi z.base;have b4:=Hi (z.ts _ (List.Mem.head _)).1;clear G x1 z;have G:=ce A.o T a5.o;have x1:=ce A.o bs a6.o;have f0:=bx.o wn A.o;refine P.out _ _ (fun _=>⟨G,x1⟩) ?_;clear P KK;(try simp only[Act.put,sA,sB,sC]);have a:=cq2 wn G x1;refine AnyBut.take (i:=14) (v:=?_) rfl (by kernel_rfl) (by kernel_rfl) (by kernel_rfl) (by kernel_rfl) (fun _ _ _ h=>h) (Or.inl ⟨by rfl,?_⟩) a ?_
        rotate_left 1
        .
         intro wq E;obtain⟨f,a3⟩:=E
         first|(go_simp;done)|(go_simp;with_reducible rfl)
        (try simp only[Act.put,sA,sB,sC]);clear a;refine AnyBut.one (i:=15) (by kernel_rfl) rfl (fun KK P=>?_);go_simp;refine P.out _ _ (fun h=>absurd rfl h) ?_;clear P KK;(try simp only[Act.put,sA,sB,sC]);refine AnyBut.done (by kernel_rfl) ?_ _;clear G x1 f0;have b5:O (RatVal wn nb (p j)):=Hi (by rw[<-HP.o];exact b4.o);go_wp2;go_roundw
        case rel=>exact⟨j+1,_,by omega,by go_num,(C.o.below A.o).put bz.o ad b5.o (dh.o j) U,di.o.step bz.o b0.o,(C.o.below A.o).val_put bz.o (au.o.below A.o)⟩
        case measure=>simp[intOf];omega
       .
        obtain rfl:W=j:=by omega
        obtain⟨HD,C⟩:=Ia (Done.start (c:=c) ak bi.o) F;clear F ak H cs;go_wp2_with fail;go_loopw [88] (fun iv I=>∃(i:Nat) (ra:List PR),i<=R/\iv=.int .i64 i/\PQ w I B g W K zs ra hs (.slice ta k tc)/\Done af ra c k i p) (fun iv _=>R - (intOf iv).toNat)
        case atStart=>exact⟨0,ra,Nat.zero_le _,rfl,C.o,HD.o⟩
        case round=>
         clear HD C;obtain⟨i,ra,hi,rfl,F,b6⟩:=hrel;obtain⟨I,rfl⟩:∃I,I=wr:=⟨wr,rfl⟩;obtain⟨C,ai⟩:=Ia F b6;have a7:O (ra.length=R):=Hi (b6.1.trans a4.o);clear F b6;by_cases db:i<R
         .
          have q6:(i:Int)<(R:Int):=by omega
          by_cases a8:i=k
          .
           subst a8;have e1:((i:Int) == (i:Int))=true:=by simp
           go_wp2;go_roundw
           case rel=>exact⟨i+1,ra,by omega,by go_num,C.o,ai.o.next rfl (fun _ _=>rfl) (fun r r1 h1 h2=>by rw[ai.o.2 i r r1 h1 h2,if_pos rfl,if_pos rfl])⟩
           case measure=>simp[intOf];omega
          .
           have e1:((i:Int) == (k:Int))=false:=by rw[beq_eq_false_iff_ne];omega
           obtain⟨r,hr,G,cf,bs⟩:=C.o.at (i:=i) (by have:=a7.o;omega);obtain⟨pb,x1,hv,hf,_⟩:=C.o.num hr (j:=c) (by omega);obtain⟨r1,ar⟩:∃r1,af[i]?=some r1:=⟨_,gE (by have:=a4.o;omega)⟩;have cx:r.q=r1.q:=by rw[ai.o.2 i r r1 hr ar,if_neg a8,if_neg (Nat.lt_irrefl _)]
           obtain⟨HS,aj,b7,b8,a9,ba,bb⟩:=If (RBag.sign (((C.o.glob ay.o ax)).put hv hf U) (List.Mem.head _)) hr ar cx hv hf a8;clear hv hf hr ar cx a8;by_cases hz:r.q c=0
           .
            have HZ:=Hi hz;rw[hz,Qkh] at HS;clear hz;go_wp2_with fail;go_fit HS.o;rintro e wn ⟨rfl,rfl⟩;go_wp2;go_roundw
            case rel=>
             refine⟨i+1,ra,by omega,by go_num,C.o,ai.o.next rfl (fun _ _=>rfl) (fun r' dj h1 h2=>?_)⟩;obtain rfl:=Option.some.inj (aj.o.symm.trans h1);obtain rfl:=Option.some.inj (b7.o.symm.trans h2);rw[if_neg bb.o,<-b8.o,Qsq HZ.o]
            case measure=>simp[intOf];omega
           .
            have sz:=(Qki hz).2;obtain⟨S,hS⟩:=nm (sgn3 (r.q c).num);rw[hS] at HS sz;obtain⟨v,hv⟩:=nm r.q;obtain⟨u,hu⟩:=nm (down c p v);obtain⟨HU,cy⟩:=Ia hu hv;have dk:O (∀d,Fits (u d) K):=Hi (fun d=>by
             have hh:=ao.o;have hd:∃x,(plStep c k b V.q tr.q (rs.map PR.q))[i]?=some x/\x=u:=by
              rw[<-hu,<-HP.o,<-hv,b8.o];refine⟨_,?_,rfl⟩;have e:((List.map PR.q rs).set k V.q).set b tr.q=af.map PR.q:=by rw[<-bh.o,List.map_set,List.map_set]
              rw[plStep,List.getElem?_mapIdx,e,List.getElem?_map,b7.o];simp only[Option.map_some,if_neg bb.o]
             obtain⟨x,hx,rfl⟩:=hd
             exact bf.o _ _ _ hh i _ hx d)
            have dl:=C.o.wide r (mO aj.o);have dm:O (∀d,W<=d->v d=u d):=Hi (fun d hd=>by
             have h1:p d=0:=by rw[<-bi.o d hd];exact q_far (ap.o.wide V (mO bu.o)) hd
             rw[<-hu]
             exact Qsp h1)
            have b9:=a9.o;have ca:=ba.o;rw[hv] at b9 ca;clear a9 ba;obtain⟨a9,ba,dn⟩:=Ib b9 ca (Part.start (rs:=ra) u aj.o);clear hz hS hu hv dl b9 ca;go_wp2_with fail;go_fit HS.o;rintro e wn ⟨rfl,rfl⟩;go_wp2_with fail;clear G x1;go_loopw [117] (fun jv I=>∃(j:Nat) (rb:List PR),j<=W/\jv=.int .i64 j/\PQ w I B g W K zs rb hs (.slice ta k tc)/\Part ra rb i j v u/\RatVal I pb (v c)) (fun jv _=>W - (intOf jv).toNat)
            case atStart=>exact⟨0,ra,Nat.zero_le _,rfl,C.o,by rw[<-cy.o];exact dn.o,a9.o⟩
            case round=>
             obtain⟨j,rb,hj,rfl,J,ae,H⟩:=hrel;obtain⟨wy,rfl⟩:∃wy,wy=wr:=⟨wr,rfl⟩;by_cases ad:j<W
             .
              obtain⟨r2,X,cz,bj⟩:=ae.row;obtain⟨ec,bk,G,dv,bl⟩:=J.at (i:=i) (by have:=ae.len;have:=a7.o;omega);obtain rfl:=Option.some.inj (X.symm.trans bk);obtain⟨b1,x1,ag,ah,_⟩:=J.num X ad;rw[bj j lZ] at ag ah;obtain⟨rk,bc,x2,dw,bm⟩:=J.at (i:=k) (by have:=ae.len;have:=a7.o;omega);obtain⟨b2,x3,hv2,cb,_⟩:=J.num bc ad;have bn:rk.q=p:=by
               rw[ae.other k (Ne.symm bb.o)] at bc;rw[ai.o.2 k rk V bc bu.o,if_pos rfl]
              rw[bn] at hv2 cb;have q7:(j:Int)<(W:Int):=by omega
              have T:=J.mat.blk.lt;obtain⟨bx,a5,a6,c0,c1⟩:=Id (fun (u:Vz) (hb:Bl wy u)=>(J.below hb).mat.free (j:=j) X) G x1 x2 x3;have Q:O (RBag wy wy [(b1,v j,K),(b2,p j,K),(pb,v c,K)]):=Hi ((((J.glob ay.o ax).put H ba.o U).put hv2 cb U).put ag ah U);obtain⟨bd,av,cc,au⟩:=Ic J ae X H;have b0:O (j<r2.ts.length):=Hi (by rw[J.wide r2 (mO X)];exact ad);clear X cz bj bk ag ah hv2 cb bc bn J ae H;go_wp2_with fail;have a:=cq4 wy.drew G x1 x2 x3;refine AnyBut.beg (k:=23) (by kernel_rfl) a ?_;refine Plan.of [0,1,2,3,4,5,6,7,8,9,10,11,12,13,14,15,16,17,18,19] ?_
              iterate 20
               refine AnyBut.bp (v:=?_) (by rfl) (by kernel_rfl) (by kernel_rfl) (by kernel_rfl) (by kernel_rfl) (by exact fun _ _ _ h=>h) a (Or.inl ⟨by rfl,?_⟩) ?_
               rotate_left 1
               (focus(intro wq E;obtain⟨f,a3,dp,dq⟩:=E;first|(go_simp;done)|(go_simp;with_reducible rfl)));(try simp only[Act.put,sA,sB,sC])
              refine Plan.done ?_;clear a;refine AnyBut.one (i:=20) (by kernel_rfl) rfl (fun KK P=>?_);go_simp;apply cM;apply RBag.mul (w0:=wy);exact Q.o.drew;exact List.Mem.tail _ (List.Mem.tail _ (List.Mem.head _));exact List.Mem.tail _ (List.Mem.head _);omega;rintro e wm ⟨b3,rfl,z⟩;clear Q;have Q:=Hi z;clear G x1 x2 x3 z;have G:=ce Q.o.base T a5.o;have x1:=ce Q.o.base bl a6.o;have x2:=ce Q.o.base T c0.o;have x3:=ce Q.o.base bm c1.o;refine P.out _ _ (fun _=>⟨G,x1,x2,x3⟩) ?_;clear P KK;(try simp only[Act.put,sA,sB,sC]);refine AnyBut.one (i:=21) (by kernel_rfl) rfl (fun KK P=>?_);go_simp;apply cM;apply RBag.sub (w0:=wy);exact Q.o
              exact List.Mem.tail _ (List.Mem.head _);exact List.Mem.head _;omega;rintro e wn ⟨nb,rfl,z⟩;have A:=Hi z.base;have b4:=Hi (z.ts _ (List.Mem.head _)).1;clear G x1 x2 x3 z;have G:=ce A.o T a5.o;have x1:=ce A.o bl a6.o;have x2:=ce A.o T c0.o;have x3:=ce A.o bm c1.o;have f0:=bx.o wn A.o;refine P.out _ _ (fun _=>⟨G,x1,x2,x3⟩) ?_;clear P KK;(try simp only[Act.put,sA,sB,sC]);have a:=cq4 wn G x1 x2 x3;refine AnyBut.take (i:=22) (v:=?_) rfl (by kernel_rfl) (by kernel_rfl) (by kernel_rfl) (by kernel_rfl) (fun _ _ _ h=>h) (Or.inl ⟨by rfl,?_⟩) a ?_
              rotate_left 1
              .
               intro wq E;obtain⟨f,a3,dp,dq⟩:=E
               first|(go_simp;done)|(go_simp;with_reducible rfl)
              (try simp only[Act.put,sA,sB,sC]);clear a;refine AnyBut.one (i:=23) (by kernel_rfl) rfl (fun KK P=>?_);go_simp;refine P.out _ _ (fun h=>absurd rfl h) ?_;clear P KK;(try simp only[Act.put,sA,sB,sC]);refine AnyBut.done (by kernel_rfl) ?_ _;clear G x1 x2 x3 f0;have b5:O (RatVal wn nb (u j)):=Hi (by rw[<-HU.o];exact b4.o);go_wp2;go_roundw
              case rel=>exact⟨j+1,_,by omega,by go_num,(bd.o.below A.o).put cc.o ad b5.o (dk.o j) U,av.o.step cc.o b0.o,(bd.o.below A.o).val_put cc.o (au.o.below A.o)⟩
              case measure=>simp[intOf];omega
             .
              obtain rfl:W=j:=by omega
              obtain⟨bd,av⟩:=Ia J ae;clear J ae H;go_wp2;go_roundw
              case rel=>
               refine⟨i+1,rb,by omega,by go_num,bd.o,ai.o.next av.o.len av.o.other (fun r' dj h1 h2=>?_)⟩;obtain⟨r3,h3,h4⟩:=av.o.done dm.o;obtain rfl:=Option.some.inj (h1.symm.trans h3);obtain rfl:=Option.some.inj (b7.o.symm.trans h2);rw[if_neg bb.o,h4,<-HU.o,<-cy.o,b8.o]
              case measure=>simp[intOf];omega
         .
          obtain rfl:R=i:=by omega
          have aw:=ai.o;rw[<-bh.o,<-HP.o] at aw;have bo:=aw.all l.o;have dr:O (Pl W N M (c+1) (ra.map PR.q) (hs++ [c])):=Hi (by rw[bo];exact ao.o);obtain⟨Y,hY⟩:=nm (I.alloc (.cells #[.int .i64 (c:Nat)] 3));have c2:Bl I Y:=by rw[<-hY];exact(Below.refl _ _).alloc lZ _
          have c3:Y.cell? ⟨I.heap.size,0,none⟩=some (.int .i64 (c:Nat)):=by rw[<-hY];exact Qa0 I _ _
          obtain⟨ed,w',c4,c5⟩:=(C.o.below c2).app (k:=c) (nb:=I.heap.size) (c:=1) c3 (by have:=HK.o;omega) 99;rw[<-hY] at c4;have ds:=Hi c5;clear aw bo hY c2 c3 c5;go_wp2;go_roundw
          case rel=>exact⟨c+1,ra,hs++ [c],by omega,by go_num,ds.o,dr.o,a7.o⟩
          case measure=>simp[intOf];omega
  .
   have c6:=Hi (And.intro HQ.o az.o);obtain rfl:c=n:=by omega
   go_wp2;go_ret;exact⟨rs,hs,_,rfl,c6.o.1,c6.o.2,l.o⟩
theorem PGrow.low{w:Vz}{B c:Nat}{v:Value}{d:List RT}(h:PGrow w B v d)(hB:c<=B):PGrow w c v d:=by
 refine⟨⟨⟨h.list.own.1,?_⟩,h.list.all⟩,h.vs⟩;rcases h.list.own.2 with a|⟨g,cap,b,a,e,f⟩
 . exact .inl a
 . exact .inr ⟨g,cap,b,a,Nat.le_trans hB e,f⟩
theorem RBag.unit{w0 w:Vz}{L:List (Nat × Rat × Nat)}(h:RBag w0 w L):
 Calls prog 92 #[.int .i64 1] w (RNew w0 L 1 1):=
 (ref_N 1 w (by decide)).mono fun e w' a=>h.new a Fits.one (by decide)
structure PV (w:Vz) (B g n K:Nat) (x:Vec) (ts:List RT):Prop where
 blk:PBlk w g ts
 low:B<=g
 len:ts.length=n
 q:∀(i:Nat) (t:RT),ts[i]?=some t->t.2.1=x i/\t.2.2<=K
theorem PV.below{w w':Vz}{B g n K:Nat}{x:Vec}{a:List RT}(h:PV w B g n K x a)(b:Bl w w'):PV w' B g n K x a:=⟨h.blk.below b,h.low,h.len,h.q⟩
theorem PV.get{w:Vz}{B g n K i:Nat}{x:Vec}{c:List RT}(h:PV w B g n K x c)(m:i<n):∃b k:Nat,c[i]?=some (b,x i,k)/\w.cell? ⟨g,i,none⟩=some (.pointer (some ⟨b,0,none⟩))/\RatVal w b (x i)/\Fits (x i) K/\0<K:=by
 obtain⟨⟨b,q,k⟩,a⟩:∃t,c[i]?=some t:=⟨_,gE (by rw[h.len];exact m)⟩;obtain⟨e,d⟩:=h.q i _ a;obtain⟨f,j,l⟩:=h.blk.vs _ (mO a);simp only at e d f j l;subst e;exact⟨b,k,a,h.blk.cell a,f,j.mono d,Nat.lt_of_lt_of_le l d⟩
theorem PV.set{w:Vz}{B g n K i b k:Nat}{x:Vec}{q:Rat}{d:List RT}(h:PV w B g n K x d)(f:i<n)(l:RatVal w b q)(m:Fits q k)(hk:0<k)(c:k<=K):PV (w.setCell ⟨g,i,none⟩ (.pointer (some ⟨b,0,none⟩))) B g n K (upd x i q) (d.set i (b,q,k)):=by
 refine⟨h.blk.set l m hk,h.low,by simpa using h.len,fun j t a=>?_⟩;by_cases e:j=i
 .
  rw[e,List.getElem?_set_self (by rw[h.len];exact f)] at a;obtain rfl:=Option.some.inj a;rw[e,Qan];exact⟨rfl,c⟩
 .
  rw[List.getElem?_set_ne (Ne.symm e)] at a;rw[Qad _ _ e];exact h.q j t a
theorem PV.mono{w:Vz}{B g n K K':Nat}{x:Vec}{a:List RT}(h:PV w B g n K x a)(hk:K<=K'):PV w B g n K' x a:=⟨h.blk,h.low,h.len,fun i t b=>⟨(h.q i t b).1,Nat.le_trans (h.q i t b).2 hk⟩⟩
theorem PV.of{w:Vz}{B g n:Nat}{a:List RT}(h:Noughts w g n n a)(hB:B<=g):PV w B g n 1 (fun _=>0) a:=by
 refine⟨⟨?_,h.vs⟩,hB,h.len,fun i t b=>?_⟩
 .
  have:=h.blk;rw[Nat.sub_self] at this
  simpa using this
 . obtain⟨c,d⟩:=h.zero t (mO b)
   exact⟨c,by rw[d];exact Nat.le_refl _⟩
theorem Qss(k:Nat):upd (fun _=>0) k 1=unitV k:=by
 funext i;simp only[upd,unitV]
theorem Qgm(n k:Nat)(w:Vz)(J:∃m,w.cell? ⟨4,0,none⟩=some (.int .i64 m))(hk:k<n)(P:n<=1000):
 Calls prog 49 #[.int .i64 n,.int .i64 k] w fun e w'=>∃(g:Nat) (v:List RT),e=.returned (.slice (some ⟨g,0,none⟩) n n)/\PV w' w.heap.size g n 1 (unitV k) v/\Bl w w':=by
 have K:=Hi (RBag.start J);have x:=Qjg n (by omega) w;obtain⟨M,j⟩:=nm ((List.replicate n (Value.pointer none)).toArray);rw[j] at x;obtain⟨g,l⟩:=nm w.heap.size;obtain⟨V,C⟩:=nm (w.alloc (.cells M 84));have D:=Ua C;have E:O (Noughts V g n 0 []):=Hi ⟨by rw[<-C,<-l,<-j];exact SB.new w _ _,(fun t F=>by cases F),rfl,(fun t F=>by cases F)⟩;obtain⟨N,f⟩:=Ia C l;have Q:(k:Int)<(n:Int):=by omega
 clear J j C l;go_enter func49,ntmps49;go_wp2_with fail;rw[N.o];rw[f.o];clear x;go_loopw [11] (fun G wr=>∃(i:Nat) (v:List RT),i<=n/\G=.int .i64 i/\Noughts wr g n i v/\Bl w wr) (fun G _=>n - (intOf G).toNat)
 case atStart=>exact⟨0,[],Nat.zero_le _,rfl,E.o,D.o⟩
 case round=>
  obtain⟨i,v,R,rfl,y,z⟩:=hrel;obtain⟨A,d⟩:=Ia y z;clear y z;by_cases H:i<n
  .
   have S:(i:Int)<(n:Int):=by omega
   have q:=Hi (RBag.nought ((K.o.below d.o).rebase));go_wp2_with fail;go_fit q.o;rintro e L ⟨b,rfl,a⟩;have r:=Hi a.base;have s:=Hi (a.ts _ (List.Mem.head _)).1;have c:=A.o.below a.base;have f0:=c.blk.free i;have t0:L.cell? ⟨g,i,none⟩=some (.pointer none):=by
    rw[c.blk.cell];have e:(v.map ptrV++List.replicate (n - i) (Value.pointer none)).toArray[i]?=(v.map ptrV++List.replicate (n - i) (Value.pointer none))[i]?:=by simp
    rw[e,List.getElem?_append_right (by rw[List.length_map,c.len];exact Nat.le_refl _),List.length_map,c.len,Nat.sub_self,List.getElem?_replicate,if_pos (by omega)]
   have u:=Hi c;clear a c;go_wp2;go_roundw
   case rel=>exact⟨i+1,_,by omega,by go_num,u.o.step H s.o,(d.o.trans (r.o.mono d.o.size)).setCell (p:=⟨g,i,none⟩) (Nat.le_of_eq f.o) _⟩
   case measure=>simp[intOf];omega
  .
   obtain rfl:n=i:=by omega
   obtain⟨I,q⟩:=Ia (PV.of (B:=w.heap.size) A.o (Nat.le_of_eq f.o)) (RBag.unit ((K.o.below d.o).rebase));go_wp2_with fail;go_fit q.o;rintro e L ⟨b,rfl,a⟩;have r:=Hi a.base;have s:=Hi (a.ts _ (List.Mem.head _)).1;have c:=I.o.below a.base;obtain⟨T,U,_,t0,_⟩:=c.get hk;have f0:=c.blk.blk.free k;have u:=Hi c;clear a c;go_wp2;go_ret;have h:=u.o.set hk s.o Fits.one Nat.one_pos lZ;rw[Qss] at h;exact⟨g,_,rfl,h,(d.o.trans (r.o.mono d.o.size)).setCell (p:=⟨g,k,none⟩) (Nat.le_of_eq f.o) _⟩
theorem Fs.grown{w w':Vz}{B n:Nat}{e:Vr}{v:Value}{xs:Vv}(c:Grow w B e 1 IsSl v n xs)(h:w.grownBy w' v.ownBlock):Fs w w':=by
 refine⟨h.size,fun b i u a hk=>h.block b (World.block_lt_of_cell? _ _ a) (fun e=>?_)⟩;obtain⟨C,hC,d⟩:=c.sb e.symm;rw[hC.cell] at a;exact hk (d u (mO (by rw[Array.getElem?_toList];exact a)))
theorem Qpv:52≠84:=by decide
theorem PV.grown{w w':Vz}{B f g n K m:Nat}{x:Vec}{a:List RT}{v:Value}{xs:Vv}(h:PV w B g n K x a)(b:Grow w f 52 1 IsSl v m xs)(c:w.grownBy w' v.ownBlock):PV w' B g n K x a:=by
 refine⟨⟨?_,fun t d=>⟨(h.blk.vs t d).1.fs (Fs.grown b c),(h.blk.vs t d).2⟩⟩,h.low,h.len,h.q⟩;have i:=c.block g h.blk.blk.lt (fun e=>by
  obtain⟨C,hC,_⟩:=b.sb e.symm
  exact hC.unlike h.blk.blk Qpv rfl)
 have:=h.blk.blk;unfold SB at this ⊢;rw[i];exact this
structure KR where
 g:Nat
 ts:List RT
def KR.val(n:Nat)(r:KR):Value:=.slice (some ⟨r.g,0,none⟩) n n
structure KerAt (w:Vz) (B n K:Nat) (v:Value) (ks:List KR) (xs:List Vec):Prop where
 list:Grow w B 52 1 IsSl v ks.length (ks.map (KR.val n))
 len:ks.length=xs.length
 each:∀(i:Nat) (r:KR) (x:Vec),ks[i]?=some r->xs[i]?=some x->PV w B r.g n K x r.ts
theorem KerAt.below{w w':Vz}{B n K:Nat}{v:Value}{a:List KR}{xs:List Vec}(h:KerAt w B n K v a xs)(b:Bl w w'):KerAt w' B n K v a xs:=⟨h.list.below b,h.len,fun i r x c d=>(h.each i r x c d).below b⟩
theorem PV.low'{w:Vz}{B a g n K:Nat}{x:Vec}{b:List RT}(h:PV w B g n K x b)(hB:a<=B):PV w a g n K x b:=⟨h.blk,Nat.le_trans hB h.low,h.len,h.q⟩
theorem KerAt.mono{w:Vz}{B a n K:Nat}{v:Value}{b:List KR}{xs:List Vec}(h:KerAt w B n K v b xs)(hB:a<=B):KerAt w a n K v b xs:=⟨h.list.mono hB,h.len,fun i r x c d=>(h.each i r x c d).low' hB⟩
theorem Qpw:(prog.info? 52).map (fun i=>(i.zero,i.size,i.bytes))=some (some (.slice .none 0 0),1,24):=by kernel_rfl
theorem KerAt.app{w:Vz}{B n K nb c:Nat}{v:Value}{b:List KR}{xs:List Vec}{r:KR}{x:Vec}(h:KerAt w B n K v b xs)(p:w.cell? ⟨nb,0,none⟩=some (r.val n))(q:PV w B r.g n K x r.ts)(G:b.length<=1000)(hB:B<=w.heap.size)(ty:Vr):
 ∃f w',appR prog 42 ty v (.slice (some ⟨nb,0,none⟩) 1 c) w=.ok f w'/\KerAt w' B n K f (b++ [r]) (xs++ [x])/\Below B w w':=by
 obtain⟨i,s,z⟩:=Option.map_eq_some_iff.1 Qpw;injection z with A l
 injection l with l C
 obtain⟨f,w',D,E,m,_⟩:=h.list.app (P:=prog) (t:=42) (ty:=ty) underlying42 s A l C rfl (by decide) (fun u d=>⟨none,0,0,by simpa [Value.cells] using d⟩) ⟨nb,0,none⟩ 1 c [r.val n] rfl (fun j u a=>by
  match j,a with
  |0,a=>
   obtain rfl:=Option.some.inj a
   exact p) (fun u d=>by obtain rfl:=List.mem_singleton.1 d;rfl) (fun u d=>by obtain rfl:=List.mem_singleton.1 d;exact⟨_,_,_,rfl⟩) (by omega) (by decide) hB
 refine⟨f,w',D,⟨?_,?_,fun j t y e k=>?_⟩,Qb4 m (fun g F=>(h.list.lt F).1) hB⟩
 . rw[List.length_append,List.length_singleton,List.map_append]
   exact E
 . rw[List.length_append,List.length_append,h.len];rfl
 .
  by_cases a:j<b.length
  .
   rw[List.getElem?_append_left a] at e;rw[List.getElem?_append_left (by rw[<-h.len];exact a)] at k;exact(h.each j t y e k).grown h.list m
  .
   have o:j=b.length:=by
    have:=(gZ e).1;simp at this;omega
   subst o;rw[List.getElem?_append_right lZ,Nat.sub_self] at e;rw[List.getElem?_append_right (by rw[h.len];exact Nat.le_refl _),<-h.len,Nat.sub_self] at k;cases e;cases k;exact q.grown h.list m
theorem Qpx{hs:Vy}{i t k:Nat}(a:hs[i]?=some t):k ∉ hs.take (i+1)↔k ∉ hs.take i/\t≠k:=by
 rw[List.take_add_one,a];simp only[Option.toList_some,List.mem_append,List.mem_singleton,not_or];exact and_congr_right fun _=>⟨fun h e=>h e.symm,fun h e=>h e.symm⟩
theorem Qpy(B g n N K R cp:Nat)(zs:Vv)(rs:List PR)(M:List Vec)(w:Vz)
 (G:∃m,w.cell? ⟨4,0,none⟩=some (.int .i64 m)) (H:4<B)
 (C:∀c L hs,Pl n N M c L hs->∀(j:Nat) (v:Vec),L[j]?=some v->∀i,Fits (v i) K) (aa:0<K) (hK:4*K<100000000000)
 (hq:PQ w w B g n K zs rs [] (.slice none 0 0)) (h0:Pl n N M 0 (rs.map PR.q) []) (hW:n<=1000) (hR:rs.length=R) (az:R<=1000) (a0:R<=cp):
 Calls prog 12 #[.slice (some ⟨g,0,none⟩) R cp,.int .i64 n] w fun e w'=>∃(L:List Vec) (hs:Vy) (v:Value) (u:List KR),e=.returned v/\Pl n N M n L hs/\KerAt w' w.heap.size n K v u ((freeTo hs n).map fun c=>nullF c L hs hs.length)/\Below B w w':=by
 obtain⟨ab,a1,a2,a3⟩:=Ic (Qsr B g n n N K R cp zs rs M w G H C aa hK hq h0 lZ hW hR az a0) hq.low G H;clear G H C hq h0 hR;go_enter func12,ntmps12;go_wp2_with fail;go_fit ab.o;rintro e w1 ⟨ad,hs,tv,rfl,a,I,ae⟩;obtain⟨ta,tc,rfl,_,af,_⟩:=Grow.slice a.told;have d:=I.cln.ech;have a4:hs.length<=ad.length:=by
  have:=d.len;rw[List.length_take,List.length_map] at this;omega
 obtain⟨a5,ag,ah,a6,ai,aj,a7⟩:=If (fun c hc=>(d.head c hc).2) a I ae af a.base.size (a.glob a2.o a3.o);obtain⟨L,hL⟩:=nm (ad.map PR.q);have a8:=Hi hL;have bo:hs.length<=R:=by omega
 rw[hL] at ah;clear a I ae af d a4 ab hL;go_wp2_with fail;go_loopw [7,6] (fun cv ov wr=>∃(k:Nat) (u:List KR),k<=n/\cv=.int .i64 k/\KerAt wr w1.heap.size n K ov u ((freeTo hs k).map (fun c=>nullF c L hs hs.length))/\Bl w1 wr) (fun cv _ _=>n - (intOf cv).toNat)
 case atStart=>exact⟨0,[],Nat.zero_le _,rfl,⟨Grow.nil _ _ _ _ _,rfl,fun i r x hr=>by simp at hr⟩,Below.refl _ _⟩
 case round=>
  obtain⟨k,u,hk,rfl,J,ak⟩:=hrel;obtain⟨y,b⟩:=Ia J ak;obtain⟨oa,oc,a9,_⟩:=Grow.slice J.list;subst a9;clear J ak;by_cases al:k<n
  .
   have q1:((k:Int)<(n:Int)):=by omega
   go_wp2_with fail;obtain⟨wv,rfl⟩:∃wv,wv=wr:=⟨wr,rfl⟩;go_loopw [24,8] (fun P fv wr=>∃i:Nat,i<=hs.length/\P=.int .i64 i/\fv=.bool (decide (k ∉ hs.take i))/\wr=wv) (fun P _ _=>hs.length - (intOf P).toNat)
   case atStart=>exact⟨0,Nat.zero_le _,rfl,by simp,rfl⟩
   case round=>
    obtain⟨i,hi,rfl,rfl,rfl⟩:=hrel;by_cases ba:i<hs.length
    .
     obtain⟨t,D⟩:∃t,hs[i]?=some t:=⟨_,gE ba⟩;obtain⟨tb,bb,rfl,bc,d0⟩:=(ai.o.below b.o).cell i (.int .i64 (t:Nat)) (by simp[headsV,D]);have q2:((i:Int)<(hs.length:Int)):=by omega
     have Q:=Hi (Qpx (k:=k) D);clear D;by_cases S:k ∉ hs.take i
     .
      rw[decide_eq_true S];by_cases e:t=k
      .
       have b1:((t:Int) != (k:Int))=false:=by rw[bne_eq_false_iff_eq];omega
       have HD:=Hi (decide_eq_false (show ¬k ∉ hs.take (i+1) from fun h=>(Q.o.1 h).2 e));clear S e;go_wp2;go_roundw
       case rel=>exact⟨i+1,by omega,by go_num,by rw[HD.o],trivial⟩
       case measure=>simp[intOf];omega
      .
       have b1:((t:Int) != (k:Int))=true:=by rw[bne_iff_ne];omega
       have HD:=Hi (decide_eq_true (show k ∉ hs.take (i+1) from Q.o.2 ⟨S,e⟩));clear S e;go_wp2;go_roundw
       case rel=>exact⟨i+1,by omega,by go_num,by rw[HD.o],trivial⟩
       case measure=>simp[intOf];omega
     .
      rw[decide_eq_false S];have HD:=Hi (decide_eq_false (show ¬k ∉ hs.take (i+1) from fun h=>S (Q.o.1 h).1));clear S;go_wp2;go_roundw
      case rel=>exact⟨i+1,by omega,by go_num,by rw[HD.o],trivial⟩
      case measure=>simp[intOf];omega
    .
     obtain rfl:i=hs.length:=by omega
     rw[List.take_length];by_cases hm:k∈ hs
     .
      rw[decide_eq_false (show ¬k ∉ hs from fun h=>h hm)];have T:O (freeTo hs (k+1)=freeTo hs k):=Hi (by rw[Qdf,if_pos hm]);clear hm;go_wp2;go_roundw
      case rel=>exact⟨k+1,u,by omega,by go_num,by rw[T.o];exact y.o,b.o⟩
      case measure=>simp[intOf];omega
     .
      rw[decide_eq_true (show k ∉ hs from hm)];have T:O (freeTo hs (k+1)=freeTo hs k++ [k]):=Hi (by rw[Qdf,if_neg hm]);have am:=Hi (Qgm n k wr (a7.o.below b.o).glob al hW);clear hm;go_wp2_with fail;go_fit am.o;rintro e w3 ⟨E,ts,rfl,f,an⟩;obtain⟨bd,be⟩:=Ia (f.mono (K':=K) (by omega)) an;clear f an am;go_wp2_with fail;obtain⟨U,rfl⟩:∃U,U=wr:=⟨wr,rfl⟩;go_loopw [42] (fun P wr=>∃(i:Nat) (ts:List RT),i<=hs.length/\P=.int .i64 i/\PV wr U.heap.size E n K (nullF k L hs i) ts/\Bl U wr) (fun P _=>hs.length - (intOf P).toNat)
      case atStart=>exact⟨0,ts,Nat.zero_le _,rfl,bd.o,be.o⟩
      case round=>
       obtain⟨i,us,hi,rfl,f,V⟩:=hrel;obtain⟨ao,W,z⟩:=Ib f V (b.o.trans (V.mono b.o.size));clear f V;by_cases bf:i<hs.length
       .
        obtain⟨t,D⟩:∃t,hs[i]?=some t:=⟨_,gE bf⟩;obtain⟨tb,bb,rfl,bc,d0⟩:=(ai.o.below z.o).cell i (.int .i64 (t:Nat)) (by simp[headsV,D]);have ap:=a5.o t (mO D);have a:=ag.o.below z.o;obtain⟨r,hr,d1,bp,br⟩:=a.at (i:=i) (by have:=a6.o;omega);obtain⟨bq,d2,aq,Y,_⟩:=a.num hr al;have bg:O (nullF k L hs (i+1)=upd (nullF k L hs i) t (-(r.q k))):=Hi (Qec D (by rw[<-a8.o,List.getElem?_map,hr];rfl));obtain⟨bh,ar⟩:=Ia Y (Qt9 bq K (r.q k) wr aq Y (by omega));have q2:((i:Int)<(hs.length:Int)):=by omega
        have q3:((i:Int)<(R:Int)):=by omega
        have q4:((t:Int)<(n:Int)):=by omega
        have q5:((0:Int)<=(t:Int)):=by omega
        have q6:((0:Int)<=(k:Int)):=by omega
        clear D a hr aq Y;go_wp2_with fail;go_fit ar.o;rintro e w4 ⟨⟨nb,rfl,bi,au⟩,Z⟩;have l:=ao.o.below Z;obtain⟨pb,pk,_,x0,_,_,_⟩:=l.get ap;have f0:=l.blk.blk.free t;have bj:=Hi (l.set ap au bh.o.neg aa lZ);have bk:O (Bl U (w4.setCell ⟨E,t,none⟩ (.pointer (some ⟨nb,0,none⟩)))):=Hi ((W.o.trans (Z.mono W.o.size)).setCell (p:=⟨E,t,none⟩) l.low _);clear bi au Z l ar d0 d1 d2;go_wp2;go_roundw
        case rel=>exact⟨i+1,_,by omega,by go_num,by rw[bg.o];exact bj.o,bk.o⟩
        case measure=>simp[intOf];omega
       .
        obtain rfl:i=hs.length:=by omega
        obtain⟨X,hX⟩:=nm (wr.alloc (.cells #[.slice (some ⟨E,0,none⟩) n n] 52));have A:Bl wr X:=by rw[<-hX];exact(Below.refl _ _).alloc lZ _
        have s:=z.o.trans (A.mono z.o.size);have av:X.cell? ⟨wr.heap.size,0,none⟩=some (KR.val n ⟨E,us⟩):=by rw[<-hX];exact Qa0 wr _ _
        have aw:u.length<=1000:=by
         have h1:=y.o.len;rw[List.length_map] at h1;have h2:=Qdg hs k;omega
        obtain⟨v7,w7,F,ax,ay⟩:=((y.o.below W.o).below A).app (r:=⟨E,us⟩) (x:=nullF k L hs hs.length) (c:=1) av ((ao.o.below A).low' b.o.size) aw s.size 42;have bl:O (KerAt w7 w1.heap.size n K v7 (u++ [⟨E,us⟩]) ((freeTo hs (k+1)).map (fun c=>nullF c L hs hs.length))):=Hi (by rw[T.o,List.map_append];exact ax);have bm:=Hi (s.trans ay);have bn:appR prog 42 42 (.slice oa u.length oc) (.slice (some ⟨wr.heap.size,0,none⟩) 1 1) (wr.alloc (.cells #[.slice (some ⟨E,0,none⟩) n n] 52))=.ok v7 w7:=by rw[hX];exact F
        clear hX A s av aw F ax ay;go_wp2;go_roundw
        case rel=>exact⟨k+1,_,by omega,by go_num,bl.o,bm.o⟩
        case measure=>simp[intOf];omega
  .
   obtain rfl:k=n:=by omega
   go_wp2;go_ret;exact⟨L,hs,_,u,rfl,ah.o,y.o.mono aj.o,ag.o.base.trans (b.o.mono (Nat.le_trans a1.o aj.o))⟩
theorem Qst{a:List (Nat × Nat × Rat × Rat)}{vh:Vy}{nb k:Nat}{p:Nat × Nat × Rat × Rat}{E x:Vec}(f:a[k]?=some p)(g:p.1≠p.2.1)(h:∀r,E r=dot k (balM a nb vh r) x)(r:Nat):
 upd (upd (upd (upd E (2*p.1) (E (2*p.1)+x k*p.2.2.1)) (2*p.1+1) (E (2*p.1+1)+x k*p.2.2.2)) (2*p.2.1) (E (2*p.2.1) - x k*p.2.2.1)) (2*p.2.1+1) (E (2*p.2.1+1) - x k*p.2.2.2) r=dot (k+1) (balM a nb vh r) x:=by
 have i:balM a nb vh r k=barAt p r:=by simp only[balM,f]
 simp only[dot];rw[<-h r,i];unfold barAt;by_cases b:r=2*p.2.1+1
 . rw[b,Qan,if_neg (by omega),if_neg (by omega),if_neg (by omega),if_pos rfl]
   grind
 rw[Qad _ _ b];by_cases c:r=2*p.2.1
 . rw[c,Qan,if_neg (by omega),if_pos rfl]
   grind
 rw[Qad _ _ c];by_cases d:r=2*p.1+1
 . rw[d,Qan,if_neg (by omega),if_neg (by omega),if_pos rfl]
   grind
 rw[Qad _ _ d];by_cases e:r=2*p.1
 . rw[e,Qan,if_pos rfl]
   grind
 rw[Qad _ _ e,if_neg e,if_neg c,if_neg d,if_neg b];grind
theorem Qsu{a:List (Nat × Nat × Rat × Rat)}{vh:Vy}{nb m h:Nat}{E x:Vec}(f:a.length=nb)(b:vh[m]?=some h)(c:∀r,E r=dot (nb+m) (balM a nb vh r) x)(r:Nat):
 upd E h (E h+x (nb+m)) r=dot (nb+m+1) (balM a nb vh r) x:=by
 have d:balM a nb vh r (nb+m)=if r=h then 1 else 0:=by
  simp only[balM];rw[List.getElem?_eq_none (by omega),Nat.add_sub_cancel_left,b];simp
 simp only[dot];rw[<-c r,d];by_cases e:r=h
 . rw[e,Qan,if_pos rfl]
   grind
 . rw[Qad _ _ e,if_neg e]
   grind
theorem PV.congr{w:Vz}{B g n K:Nat}{x y:Vec}{b:List RT}(h:PV w B g n K x b)(a:∀i,x i=y i):PV w B g n K y b:=⟨h.blk,h.low,h.len,fun i t c=>by rw[<-a i];exact h.q i t c⟩
def Cells3(a b c:Addr)(x y z:Value)(v:Vz):Prop:=v.cell? a=some x/\v.cell? b=some y/\v.cell? c=some z
theorem cq3{a b c:Addr}{x y z:Value}(v:Vz)(d:v.cell? a=some x)(e:v.cell? b=some y)(f:v.cell? c=some z):Cells3 a b c x y z v:=⟨d,e,f⟩
def Cell1(a:Addr)(x:Value)(v:Vz):Prop:=v.cell? a=some x
theorem cq1{a:Addr}{x:Value}(v:Vz)(h:v.cell? a=some x):Cell1 a x v:=h
theorem RatVal.pv{w0 w w':Vz}{B g n K i b c:Nat}{x:Vec}{q:Rat}{a:List RT}(h:RatVal w b q)(d:PV w0 B g n K x a)(e:Bl w0 w)(f:w.setCell ⟨g,i,none⟩ (.pointer (some ⟨c,0,none⟩))=w'):RatVal w' b q:=by
 rw[<-f];exact h.fp (Fp.of_only ((Only.refl g w).setCell _ _) (d.below e).blk.blk (fun u j=>Qcm a u (by simpa using j)))
abbrev kF(C k:Nat):Nat:=k*(2*C)+1
theorem Qkj(C k:Nat):kF C (k+1)=kF C k+2*C:=by
 show (k+1)*(2*C)+1=k*(2*C)+1+2*C
 rw[Nat.add_mul];omega
theorem kF_le{C k:Nat}(hk:k<=44):kF C k<=88*C+1:=by
 have:=Nat.mul_le_mul_right (2*C) hk
 show k*(2*C)+1<=_
 omega
theorem Qsv(a1 a2 a3 ab ah:Vx)(c1 c2 c3 cb ch KX:Nat)(js:List S2)(M:List B6)(hs:List H3)(vb:List (Nat × Nat × Rat × Rat))(vh:Vy)(tb th:List RT)(x:Vec)(w:Vz)
 (hg:∃m,w.cell? ⟨4,0,none⟩=some (.int .i64 m)) (hf:FrRow w a1 a2 a3 c1 c2 c3 js M hs) (hv:FrV 1048576 js M hs vb vh) (hw:∀(i:Nat) (h:H3),hs[i]?=some h->h.w=1∨h.w=2)
 (hb:PRow w ab tb) (ct:tb.length=M.length) (hh:PRow w ah th) (cu:th.length=hs.length) (cv:∀(i:Nat) (t:RT),tb[i]?=some t->t.2.1=x i/\t.2.2<=KX) (cw:∀(i:Nat) (t:RT),th[i]?=some t->t.2.1=x (M.length+i)/\t.2.2<=KX) (ev:KX<=1000000000):
 Calls prog 51 #[.agg #[.slice a1 js.length c1,.slice a2 M.length c2,.slice a3 hs.length c3],.slice ab M.length cb,.slice ah hs.length ch] w fun e w'=>∃(N g:Nat) (ts:List RT),N=2*js.length/\e=.returned (.slice (some ⟨g,0,none⟩) N N)/\PV w' w.heap.size g N (88*(KX+8388612)+1) (fun r=>dot (M.length+hs.length) (balM vb M.length vh r) x) ts/\Bl w w':=by
 have n1:=hv.j;have n2:=hv.b;have n3:=hv.h;obtain⟨HG,HF,HV,HW,HB,dj,HH,dk,dl⟩:=Ih (RBag.start hg) hf hv hw hb ct hh cu cv;have dm:=Hi cw;obtain⟨C,hC⟩:=nm (KX+8388612);have ew:C<=1008388612:=by omega
 obtain⟨N,hN⟩:=nm (2*js.length);have eN:IntKind.i64.wrap (2*(js.length:Int))=(N:Int):=by rw[wrap_i64 _ (by omega) (by omega)];omega
 have cx:=fun w=>Qjg N (by omega) w
 obtain⟨MC,cf⟩:=nm ((List.replicate N (Value.pointer none)).toArray);rw[cf] at cx;obtain⟨B0,be⟩:=nm w.heap.size;obtain⟨V,hV⟩:=nm (w.alloc (.cells #[.slice a1 js.length c1,.slice a2 M.length c2,.slice a3 hs.length c3] 26));have ao:=Ua hV;have ay:=Uf hV be;obtain⟨V1,bu⟩:=nm (V.alloc (.cells MC 84));obtain⟨g,bv⟩:=nm V.heap.size;have cy:=Ua bu;have dn:O (Noughts V1 g N 0 []):=Hi ⟨by rw[<-bu,<-bv,<-cf];exact SB.new V _ _,(fun t ht=>by cases ht),rfl,(fun t ht=>by cases ht)⟩;obtain⟨z0,-⟩:=zc ay.o
 have a9:=Hi hN;have eu:N<=20:=by omega
 obtain⟨dp,dq,az,dr⟩:=Ic hV bu bv be;have ds:O (B0+1=g):=Hi (by rw[<-bv,<-hV,<-be];simp);rw[<-hV,<-be] at z0;clear hg hf hv hw hb ct hh cu cv cw hN cf hV bu bv be;go_enter func51,ntmps51;go_wp2_with fail;rw[dp.o,dq.o];simp only[dr.o];rw[ds.o];clear z0 cx;go_loopw [22] (fun iv wr=>∃(k:Nat) (ts:List RT),k<=N/\iv=.int .i64 k/\Noughts wr g N k ts/\Bl V wr) (fun iv _=>N - (intOf iv).toNat)
 case atStart=>exact⟨0,[],Nat.zero_le _,rfl,dn.o,cy.o⟩
 case round=>
  obtain⟨k,ts,hk,rfl,cz,am⟩:=hrel;obtain⟨cg,I⟩:=Ia cz am;clear cz am;by_cases dt:k<N
  .
   have q1:((k:Int)<(N:Int)):=by omega
   have du:=Hi (RBag.nought ((HG.o.below (ao.o.trans (I.o.mono ao.o.size))).rebase));go_wp2_with fail;go_fit du.o;rintro e w2 ⟨b,rfl,n⟩;have dv:=Hi n.base;have dw:=Hi (n.ts _ (List.Mem.head _)).1;have ba:=cg.o.below n.base;have f0:=ba.blk.free k;have t0:w2.cell? ⟨g,k,none⟩=some (.pointer none):=by
    rw[ba.blk.cell];have e:(ts.map ptrV++List.replicate (N - k) (Value.pointer none)).toArray[k]?=(ts.map ptrV++List.replicate (N - k) (Value.pointer none))[k]?:=by simp
    rw[e,List.getElem?_append_right (by rw[List.length_map,ba.len];exact Nat.le_refl _),List.length_map,ba.len,Nat.sub_self,List.getElem?_replicate,if_pos (by omega)]
   have dx:=Hi ba;clear n ba;go_wp2;go_roundw
   case rel=>exact⟨k+1,_,by omega,by go_num,dx.o.step dt dw.o,(I.o.trans (dv.o.mono I.o.size)).setCell (p:=⟨g,k,none⟩) (show V.heap.size<=g by have:=az.o;omega) _⟩
   case measure=>simp[intOf];omega
  .
   obtain rfl:N=k:=by omega
   have c0:=Hi (PV.of (B:=V.heap.size) cg.o (Nat.le_of_eq az.o));obtain⟨-,z1,-⟩:=zc (ay.o.below I.o ay.o.lt);go_wp2_with fail;clear z1;go_loopw [33] (fun iv wr=>∃(k:Nat) (ts:List RT),k<=M.length/\iv=.int .i64 k/\PV wr V.heap.size g N (kF C k) (fun r=>dot k (balM vb M.length vh r) x) ts/\Bl V wr) (fun iv _=>M.length - (intOf iv).toNat)
   case atStart=>exact⟨0,ts,Nat.zero_le _,rfl,(c0.o.mono (by show 1<=0*(2*C)+1;omega)).congr (fun i=>rfl),I.o⟩
   case round=>
    clear cg I c0;obtain⟨k,ts,hk,rfl,u,am⟩:=hrel;obtain⟨F,I,ap⟩:=Ib u am (ao.o.trans (am.mono ao.o.size));clear u am;by_cases dy:k<M.length
    .
     obtain⟨b,bw⟩:∃b,M[k]?=some b:=⟨_,gE dy⟩;obtain⟨p,ci⟩:∃p,vb[k]?=some p:=⟨vb[k]'(by have:=HV.o.lb;omega),gE _⟩;have bc:=HV.o.vb k b p bw ci;obtain⟨bb,bo,rfl,dz,d0,d1,d2,d3,d4,d5⟩:=(HF.o.b.below ap.o).bar bw;obtain⟨A,B,rx,ry⟩:=p;have hA:=bc.a;have hB:=bc.b;have cj:=bc.ne;obtain⟨s,t,_,_,_,_,e1,e2,_⟩:=bc.ex;have ea:=(gZ e1).1;have eb:=(gZ e2).1;simp only at hA hB cj ea eb;rw[hA] at d0;rw[hB] at d1;have q1:((k:Int)<(M.length:Int)):=by omega
     obtain⟨aq,aj⟩:=nm wr.heap.size;obtain⟨X0,an⟩:=nm (wr.alloc (.cells #[.int .i64 (A:Nat),.int .i64 (B:Nat),.string b.c,.string b.e,.string b.l,.string b.m] 80));have ar:=Ua an;have c4:=Uf an aj;have a8:=Hi (ap.o.trans (ar.o.mono ap.o.size));obtain⟨z0,z1,z2,-⟩:=zc (ay.o.below (I.o.trans (ar.o.mono I.o.size)) ay.o.lt)
     obtain⟨ec,ed,c5,P,ck⟩:=Id (Qlw a1 (some ⟨bb,bo,none⟩) a3 c1 c2 c3 k js M hs b (A,B,rx,ry) X0 ((HG.o.below a8.o).glob) (HF.o.below a8.o) bw bc n1 n2) ci cj an aj;rw[<-an] at z0 z1 z2;clear bw ci bc hA hB cj e1 e2 an aj;go_wp2_with fail;rw[P.o];simp only[ck.o];clear z0 z1 z2 d0 d1 d2 d3 d4 d5;go_fit ec.o;rintro e Z ⟨b1,b2,rfl,n⟩;obtain⟨⟨xt,tq,tk⟩,au⟩:∃t,tb[k]?=some t:=⟨tb[k]'(by have:=dj.o;omega),gE _⟩;obtain⟨bf,av⟩:=dl.o k _ au;simp only at bf av;subst bf;have ai:O (Bl V Z):=Hi ((I.o.trans (ar.o.mono I.o.size)).trans (n.base.mono (Nat.le_trans I.o.size ar.o.size)));have Q:Bl w Z:=a8.o.trans (n.base.mono a8.o.size);have b9:=HB.o.below Q;obtain⟨pb,po,rfl,a0,cl⟩:=HB.o.at au
     have x2:=ce Q a0 cl;have S:=Nat.lt_of_lt_of_le a0 Q.size;have c6:=Hi cl;have aw:=b9.vs _ (mO au);have bg:O (RatVal Z xt (x k)/\Fits (x k) KX/\0<KX):=Hi ⟨aw.1,aw.2.1.mono av,Nat.lt_of_lt_of_le aw.2.2 av⟩;have u:=(F.o.below ar.o).below n.base;have L:=Hi (c4.o.below n.base c4.o.lt);obtain⟨E,hE⟩:∃E:Vec,(fun r=>dot k (balM vb M.length vh r) x)=E:=⟨_,rfl⟩;rw[hE] at u;obtain⟨KM,ax⟩:=nm (kF C k);rw[ax] at u;have ee:KM<=88*C+1:=by rw[<-ax];exact kF_le (by omega)
     obtain⟨ef,HE⟩:=Ia ax hE;clear F;have F:=Hi u;obtain⟨X,hX⟩:=nm (2*A);obtain⟨Y,hY⟩:=nm (2*A+1);obtain⟨X2,c7⟩:=nm (2*B);obtain⟨Y2,c8⟩:=nm (2*B+1);have wX:IntKind.i64.wrap (2*(A:Int))=(X:Int):=by rw[wrap_i64 _ (by omega) (by omega)];omega
     have wY:IntKind.i64.wrap ((X:Int)+1)=(Y:Int):=by rw[wrap_i64 _ (by omega) (by omega)];omega
     have ey:IntKind.i64.wrap (2*(B:Int))=(X2:Int):=by rw[wrap_i64 _ (by omega) (by omega)];omega
     have ez:IntKind.i64.wrap ((X2:Int)+1)=(Y2:Int):=by rw[wrap_i64 _ (by omega) (by omega)];omega
     have c9:X<N:=by have:=a9.o;omega
     have cm:Y<N:=by have:=a9.o;omega
     have ca:X2<N:=by have:=a9.o;omega
     have bh:Y2<N:=by have:=a9.o;omega
     have iX:(X:Int)<(N:Int):=by omega
     have iY:(Y:Int)<(N:Int):=by omega
     have e0:(X2:Int)<(N:Int):=by omega
     have e5:(Y2:Int)<(N:Int):=by omega
     have eg:O (2*A=X/\2*A+1=Y/\2*B=X2/\2*B+1=Y2):=Hi ⟨hX,hY,c7,c8⟩;obtain⟨tX,kX,_,z,vX,fX,gX⟩:=u.get c9;obtain⟨tY,kY,_,x1,vY,fY,gY⟩:=u.get cm;obtain⟨H,-⟩:=zc L.o;have T:=u.blk.blk.lt;have U:=L.o.lt;have bd:aq≠g:=L.o.unlike u.blk.blk (by decide);obtain⟨P,W,aa,ak⟩:=Ic z x1 x2 H;have f:O (RBag Z Z [(xt,x k,KX),(tX,E X,KM),(tY,E Y,KM),(b1,rx,8388611),(b2,ry,8388611)]):=Hi (((n.rebase.put vY fY gY).put vX fX gX).put bg.o.1 bg.o.2.1 bg.o.2.2);have da:O (RBag Z Z [(b1,rx,8388611),(b2,ry,8388611)]):=Hi n.rebase;clear n au av Q b9 aw u hE ax hX hY c7 c8 vX fX gX vY fY gY cl;go_wp2_with fail;have R:=cq3 Z.drew z x1 x2;have K:=cq1 Z.drew H;refine AnyE.beg (D:=[37,39]) (by kernel_rfl) R K ?_
     refine Plan.of [0,1,2,3,4,5,6,7,8,9,10,11,12,13,14,15,16,17,18,19,22,23,24,25,26,27,28,29,30,31,32,33,20,21,34,35,36] ?_
     iterate 32
      first
       |(
        refine AnyE.tp (v:=?_) (by rfl) (by kernel_rfl) (by kernel_rfl) (by kernel_rfl) (by kernel_rfl) (by exact fun _ _ _ h=>h) (fun _=>R) K (Or.inl ⟨by rfl,?_⟩) ?_
        rotate_left
        (focus(intro wq y;have bi:_=_:=y;clear y;first|(go_simp;done)|(go_simp;with_reducible rfl))))
       |(
        refine AnyE.sp (v:=?_) (by rfl) (by kernel_rfl) (by kernel_rfl) (by kernel_rfl) (by kernel_rfl) (by kernel_rfl) (by exact fun _ _ _ h=>h) R K (Or.inl ⟨by rfl,?_⟩) ?_
        rotate_left
        (focus(intro wq y;obtain⟨bj,bk,bl⟩:=y;first|(go_simp;done)|(go_simp;with_reducible rfl))))
      (try simp only[Act.put,sA,sB,sC])
     refine AnyE.op (by kernel_rfl) (by rfl) (fun KK G=>?_);go_simp;apply cM;apply RBag.mul (w0:=Z);(first|exact f.o|exact f.o.drew);repeat(first|exact mH|apply mT);omega;rintro e w3 ⟨b3,rfl,n⟩;clear f R K;have f:=Hi n;clear n z x1 x2 H;obtain⟨z,x1⟩:=Ja f.o.base T P.o W.o;have x2:=ce f.o.base S aa.o;have H:=ce f.o.base U ak.o;refine G.out _ _ ⟨fun _ _=>⟨z,x1,x2⟩,H⟩ ?_;clear G KK;(try simp only[Act.put,sA,sB,sC]);have R:=cq3 w3 z x1 x2;have K:=cq1 w3 H;refine AnyE.op (by kernel_rfl) (by rfl) (fun KK G=>?_);go_simp;apply cM
     apply RBag.add (w0:=Z);(first|exact f.o|exact f.o.drew);repeat(first|exact mH|apply mT);omega;rintro e w4 ⟨b4,rfl,n⟩;clear f R K;have f:=Hi n;clear n z x1 x2 H;obtain⟨z,x1⟩:=Ja f.o.base T P.o W.o;have x2:=ce f.o.base S aa.o;have H:=ce f.o.base U ak.o;refine G.out _ _ ⟨fun _ _=>⟨z,x1,x2⟩,H⟩ ?_;clear G KK;(try simp only[Act.put,sA,sB,sC]);have R:=cq3 w4 z x1 x2;have K:=cq1 w4 H;refine AnyE.op (by kernel_rfl) (by rfl) (fun KK G=>?_);go_simp;apply cM;apply RBag.mul (w0:=Z);(first|exact f.o|exact f.o.drew)
     repeat(first|exact mH|apply mT);omega;rintro e w5 ⟨b5,rfl,n⟩;clear f R K;have f:=Hi n;clear n z x1 x2 H;obtain⟨z,x1⟩:=Ja f.o.base T P.o W.o;have x2:=ce f.o.base S aa.o;have H:=ce f.o.base U ak.o;refine G.out _ _ ⟨fun _ _=>⟨z,x1,x2⟩,H⟩ ?_;clear G KK;(try simp only[Act.put,sA,sB,sC]);have R:=cq3 w5 z x1 x2;have K:=cq1 w5 H;refine AnyE.op (by kernel_rfl) (by rfl) (fun KK G=>?_);go_simp;apply cM;apply RBag.add (w0:=Z);(first|exact f.o|exact f.o.drew);repeat(first|exact mH|apply mT)
     repeat(first|exact mH|apply mT);omega;rintro e w6 ⟨b6,rfl,n⟩;clear f R K;have f:=Hi n;clear n z x1 x2 H;obtain⟨z,x1⟩:=Ja f.o.base T P.o W.o;have x2:=ce f.o.base S aa.o;have H:=ce f.o.base U ak.o;refine G.out _ _ ⟨fun _ _=>⟨z,x1,x2⟩,H⟩ ?_;clear G KK;(try simp only[Act.put,sA,sB,sC]);have R:=cq3 w6 z x1 x2;have K:=cq1 w6 H
     first
      |(
       refine AnyE.tp (v:=?_) (by rfl) (by kernel_rfl) (by kernel_rfl) (by kernel_rfl) (by kernel_rfl) (by exact fun _ _ _ h=>h) (fun _=>R) K (Or.inl ⟨by rfl,?_⟩) ?_
       rotate_left
       (focus(intro wq y;have bi:_=_:=y;clear y;first|(go_simp;done)|(go_simp;with_reducible rfl))))
      |(
       refine AnyE.sp (v:=?_) (by rfl) (by kernel_rfl) (by kernel_rfl) (by kernel_rfl) (by kernel_rfl) (by kernel_rfl) (by exact fun _ _ _ h=>h) R K (Or.inl ⟨by rfl,?_⟩) ?_
       rotate_left
       (focus(intro wq y;obtain⟨bj,bk,bl⟩:=y;first|(go_simp;done)|(go_simp;with_reducible rfl))))
     (try simp only[Act.put,sA,sB,sC]);refine Plan.done ?_;have al:=F.o.below f.o.base;have m4:=f.o.ts (b4,_,_) (List.Mem.tail _ (List.Mem.tail _ (List.Mem.head _)));have m6:=f.o.ts (b6,_,_) (List.Mem.head _);have f0:=al.blk.blk.free X;have ad:=(al.mono (K':=KM+C) (by omega)).set c9 m4.1 (m4.2.1.mono (by simp only;omega)) (by omega) (Nat.le_refl (KM+C));obtain⟨Z1,ae⟩:=nm (w6.setCell ⟨g,X,none⟩ (.pointer (some ⟨b4,0,none⟩)));rw[ae] at ad;have f1:=ad.blk.blk.free Y;obtain⟨bY,kY,_,y1,_⟩:=ad.get cm;have a4:Only g w6 Z1:=by rw[<-ae];exact(Only.refl g w6).setCell _ _
     have a5:=(L.o.below f.o.base L.o.lt).only a4 bd;have a6:Z1.cell? ⟨aq,0,none⟩=some (.int .i64 (A:Nat)):=a5.cell 0;have v6:=m6.1.pv F.o f.o.base ae;obtain⟨Z2,af⟩:=nm (Z1.setCell ⟨g,Y,none⟩ (.pointer (some ⟨b6,0,none⟩)));have a7:=ad.set cm v6 (m6.2.1.mono (by simp only;omega)) (by omega) (Nat.le_refl (KM+C));rw[af] at a7;have bx:=Hi a7;have bm:O (∀(c:Nat) (q:Rat),RatVal w6 c q->RatVal Z2 c q):=Hi (fun c q hc=>(hc.pv F.o f.o.base ae).pv ad bR af);have bn:O (Bl V Z2):=Hi (by
      rw[<-af]
      exact(((ai.o.trans (f.o.base.mono ai.o.size)).trans (a4.below (Nat.le_of_eq az.o) (Nat.le_trans ai.o.size f.o.base.size)))).setCell (p:=⟨g,Y,none⟩) (Nat.le_of_eq az.o) _)
     have bq:O (SB Z2 aq 80 #[.int .i64 (A:Nat),.int .i64 (B:Nat),.string b.c,.string b.e,.string b.l,.string b.m]):=Hi (by
      rw[<-af]
      exact a5.only ((Only.refl g Z1).setCell _ _) bd)
     obtain⟨bz,b0,db⟩:=Ib ae af m4;clear al m4 m6 ad a7 a4 a5 v6 ae af;refine AnyE.one (i:=37) (by kernel_rfl) rfl (fun KK G=>?_);go_simp;rw[bz.o];refine G.out _ _ ⟨fun h=>absurd (by decide) h,a6⟩ ?_;clear G KK R K z x1 x2 H f0;(try simp only[Act.put,sA,sB,sC]);have K:=cq1 Z1 a6;refine AnyE.takeT (i:=38) (v:=?_) rfl (by kernel_rfl) (by kernel_rfl) (by kernel_rfl) (by kernel_rfl) (fun _ _ _ h=>h) (Or.inl ⟨by rfl,?_⟩) (fun h=>absurd h (Qcl (d:=37) (by rfl) (by rfl))) K ?_
     rotate_left
     .
      intro wq y;clear y
      first|(go_simp;done)|(go_simp;with_reducible rfl)
     (try simp only[Act.put,sA,sB,sC]);have b7:O (Z2.cell? ⟨aq,0,none⟩=some (.int .i64 (A:Nat))):=Hi (bq.o.cell 0);refine AnyE.one (i:=39) (by kernel_rfl) rfl (fun KK G=>?_);go_simp;rw[b0.o];refine G.out _ _ ⟨fun h=>absurd (by decide) h,b7.o⟩ ?_;clear G KK K a6 f1 y1;(try simp only[Act.put,sA,sB,sC]);refine AnyE.done (by kernel_rfl) ?_ _;have dc:=bm.o xt _ (f.o.ts (xt,_,_) (List.Mem.tail _ (List.Mem.tail _ (List.Mem.tail _ (List.Mem.tail _ (List.Mem.head _)))))).1;have cc:=bm.o b1 _ (f.o.ts (b1,_,_) (List.Mem.tail _ (List.Mem.tail _ (List.Mem.tail _ (List.Mem.tail _ (List.Mem.tail _ (List.Mem.tail _ (List.Mem.tail _ (List.Mem.head _))))))))).1
     have cd:=bm.o b2 _ (f.o.ts (b2,_,_) (List.Mem.tail _ (List.Mem.tail _ (List.Mem.tail _ (List.Mem.tail _ (List.Mem.tail _ (List.Mem.tail _ (List.Mem.tail _ (List.Mem.tail _ (List.Mem.head _)))))))))).1;obtain⟨E1,cn⟩:∃E1:Vec,upd (upd E X (E X+x k*rx)) Y (E Y+x k*ry)=E1:=⟨_,rfl⟩;have u:=bx.o;rw[cn] at u;have Q:Bl w Z2:=ao.o.trans (bn.o.mono ao.o.size);have x2:=ce Q a0 c6.o;clear f F P W aa ak ai L T S U bd bz b0 db bm b7;obtain⟨Z,br⟩:=nm Z2;subst br;have S:=Nat.lt_of_lt_of_le a0 Q.size;obtain⟨tX,e6,_,z,vX,fX,gX⟩:=u.get ca;obtain⟨tY,e7,_,x1,vY,fY,gY⟩:=u.get bh;have L:=bq;have ai:=bn;obtain⟨-,H,-⟩:=zc L.o;have T:=u.blk.blk.lt;have U:=L.o.lt;have bd:aq≠g:=L.o.unlike u.blk.blk (by decide)
     obtain⟨P,W,aa,ak⟩:=Ic z x1 x2 H;have f:O (RBag Z2 Z2 [(xt,x k,KX),(tX,E1 X2,KM+C),(tY,E1 Y2,KM+C),(b1,rx,8388611),(b2,ry,8388611)]):=Hi ((((((HG.o.below Q).rebase.put cd (da.o.ts _ (List.Mem.tail _ (List.Mem.head _))).2.1 (show 0<8388611 by decide)).put cc (da.o.ts _ (List.Mem.head _)).2.1 (show 0<8388611 by decide)).put vY fY gY).put vX fX gX).put dc bg.o.2.1 bg.o.2.2);obtain⟨F,cp⟩:=Ia u cn;obtain⟨Z,br⟩:=nm Z2;rw[br] at z x1 x2 H P W aa ak f F L ai T U S;rw[br];clear bx bn bq dc cc cd cn u Q vX fX gX vY fY gY br Z2;go_wp2_with fail;have R:=cq3 Z.drew z x1 x2;have K:=cq1 Z.drew H;refine AnyE.beg (D:=[37,39]) (by kernel_rfl) R K ?_;refine Plan.of [0,1,2,3,4,5,6,7,8,9,10,11,12,13,14,15,16,17,18,19,22,23,24,25,26,27,28,29,30,31,32,33,20,21,34,35,36] ?_
     iterate 32
      first
       |(
        refine AnyE.tp (v:=?_) (by rfl) (by kernel_rfl) (by kernel_rfl) (by kernel_rfl) (by kernel_rfl) (by exact fun _ _ _ h=>h) (fun _=>R) K (Or.inl ⟨by rfl,?_⟩) ?_
        rotate_left
        (focus(intro wq y;have bi:_=_:=y;clear y;first|(go_simp;done)|(go_simp;with_reducible rfl))))
       |(
        refine AnyE.sp (v:=?_) (by rfl) (by kernel_rfl) (by kernel_rfl) (by kernel_rfl) (by kernel_rfl) (by kernel_rfl) (by exact fun _ _ _ h=>h) R K (Or.inl ⟨by rfl,?_⟩) ?_
        rotate_left
        (focus(intro wq y;obtain⟨bj,bk,bl⟩:=y;first|(go_simp;done)|(go_simp;with_reducible rfl))))
      (try simp only[Act.put,sA,sB,sC])
     refine AnyE.op (by kernel_rfl) (by rfl) (fun KK G=>?_);go_simp;apply cM;apply RBag.mul (w0:=Z);(first|exact f.o|exact f.o.drew);repeat(first|exact mH|apply mT);omega;rintro e w3 ⟨b3,rfl,n⟩;clear f R K;have f:=Hi n;clear n z x1 x2 H;obtain⟨z,x1⟩:=Ja f.o.base T P.o W.o;have x2:=ce f.o.base S aa.o;have H:=ce f.o.base U ak.o;refine G.out _ _ ⟨fun _ _=>⟨z,x1,x2⟩,H⟩ ?_;clear G KK;(try simp only[Act.put,sA,sB,sC]);have R:=cq3 w3 z x1 x2;have K:=cq1 w3 H;refine AnyE.op (by kernel_rfl) (by rfl) (fun KK G=>?_);go_simp;apply cM
     apply RBag.sub (w0:=Z);(first|exact f.o|exact f.o.drew);repeat(first|exact mH|apply mT);omega;rintro e w4 ⟨b4,rfl,n⟩;clear f R K;have f:=Hi n;clear n z x1 x2 H;obtain⟨z,x1⟩:=Ja f.o.base T P.o W.o;have x2:=ce f.o.base S aa.o;have H:=ce f.o.base U ak.o;refine G.out _ _ ⟨fun _ _=>⟨z,x1,x2⟩,H⟩ ?_;clear G KK;(try simp only[Act.put,sA,sB,sC]);have R:=cq3 w4 z x1 x2;have K:=cq1 w4 H;refine AnyE.op (by kernel_rfl) (by rfl) (fun KK G=>?_);go_simp;apply cM;apply RBag.mul (w0:=Z);(first|exact f.o|exact f.o.drew)
     repeat(first|exact mH|apply mT);omega;rintro e w5 ⟨b5,rfl,n⟩;clear f R K;have f:=Hi n;clear n z x1 x2 H;obtain⟨z,x1⟩:=Ja f.o.base T P.o W.o;have x2:=ce f.o.base S aa.o;have H:=ce f.o.base U ak.o;refine G.out _ _ ⟨fun _ _=>⟨z,x1,x2⟩,H⟩ ?_;clear G KK;(try simp only[Act.put,sA,sB,sC]);have R:=cq3 w5 z x1 x2;have K:=cq1 w5 H;refine AnyE.op (by kernel_rfl) (by rfl) (fun KK G=>?_);go_simp;apply cM;apply RBag.sub (w0:=Z);(first|exact f.o|exact f.o.drew);repeat(first|exact mH|apply mT)
     repeat(first|exact mH|apply mT);omega;rintro e w6 ⟨b6,rfl,n⟩;clear f R K;have f:=Hi n;clear n z x1 x2 H;obtain⟨z,x1⟩:=Ja f.o.base T P.o W.o;have x2:=ce f.o.base S aa.o;have H:=ce f.o.base U ak.o;refine G.out _ _ ⟨fun _ _=>⟨z,x1,x2⟩,H⟩ ?_;clear G KK;(try simp only[Act.put,sA,sB,sC]);have R:=cq3 w6 z x1 x2;have K:=cq1 w6 H
     first
      |(
       refine AnyE.tp (v:=?_) (by rfl) (by kernel_rfl) (by kernel_rfl) (by kernel_rfl) (by kernel_rfl) (by exact fun _ _ _ h=>h) (fun _=>R) K (Or.inl ⟨by rfl,?_⟩) ?_
       rotate_left
       (focus(intro wq y;have bi:_=_:=y;clear y;first|(go_simp;done)|(go_simp;with_reducible rfl))))
      |(
       refine AnyE.sp (v:=?_) (by rfl) (by kernel_rfl) (by kernel_rfl) (by kernel_rfl) (by kernel_rfl) (by kernel_rfl) (by exact fun _ _ _ h=>h) R K (Or.inl ⟨by rfl,?_⟩) ?_
       rotate_left
       (focus(intro wq y;obtain⟨bj,bk,bl⟩:=y;first|(go_simp;done)|(go_simp;with_reducible rfl))))
     (try simp only[Act.put,sA,sB,sC]);refine Plan.done ?_;have al:=F.o.below f.o.base;have m4:=f.o.ts (b4,_,_) (List.Mem.tail _ (List.Mem.tail _ (List.Mem.head _)));have m6:=f.o.ts (b6,_,_) (List.Mem.head _);have f0:=al.blk.blk.free X2;have ad:=(al.mono (K':=(KM+C)+C) (by omega)).set ca m4.1 (m4.2.1.mono (by simp only;omega)) (by omega) (Nat.le_refl ((KM+C)+C));obtain⟨Z1,ae⟩:=nm (w6.setCell ⟨g,X2,none⟩ (.pointer (some ⟨b4,0,none⟩)));rw[ae] at ad;have f1:=ad.blk.blk.free Y2;obtain⟨bY,kY,_,y1,_⟩:=ad.get bh;have a4:Only g w6 Z1:=by rw[<-ae];exact(Only.refl g w6).setCell _ _
     have a5:=(L.o.below f.o.base L.o.lt).only a4 bd;have a6:Z1.cell? ⟨aq,1,none⟩=some (.int .i64 (B:Nat)):=a5.cell 1;have v6:=m6.1.pv F.o f.o.base ae;obtain⟨Z2,af⟩:=nm (Z1.setCell ⟨g,Y2,none⟩ (.pointer (some ⟨b6,0,none⟩)));have a7:=ad.set bh v6 (m6.2.1.mono (by simp only;omega)) (by omega) (Nat.le_refl ((KM+C)+C));rw[af] at a7;have bx:=Hi a7;have bm:O (∀(c:Nat) (q:Rat),RatVal w6 c q->RatVal Z2 c q):=Hi (fun c q hc=>(hc.pv F.o f.o.base ae).pv ad bR af);have bn:O (Bl V Z2):=Hi (by
      rw[<-af]
      exact(((ai.o.trans (f.o.base.mono ai.o.size)).trans (a4.below (Nat.le_of_eq az.o) (Nat.le_trans ai.o.size f.o.base.size)))).setCell (p:=⟨g,Y2,none⟩) (Nat.le_of_eq az.o) _)
     have bq:O (SB Z2 aq 80 #[.int .i64 (A:Nat),.int .i64 (B:Nat),.string b.c,.string b.e,.string b.l,.string b.m]):=Hi (by
      rw[<-af]
      exact a5.only ((Only.refl g Z1).setCell _ _) bd)
     obtain⟨bz,b0,db⟩:=Ib ae af m4;clear al m4 m6 ad a7 a4 a5 v6 ae af;refine AnyE.one (i:=37) (by kernel_rfl) rfl (fun KK G=>?_);go_simp;rw[bz.o];refine G.out _ _ ⟨fun h=>absurd (by decide) h,a6⟩ ?_;clear G KK R K z x1 x2 H f0;(try simp only[Act.put,sA,sB,sC]);have K:=cq1 Z1 a6;refine AnyE.takeT (i:=38) (v:=?_) rfl (by kernel_rfl) (by kernel_rfl) (by kernel_rfl) (by kernel_rfl) (fun _ _ _ h=>h) (Or.inl ⟨by rfl,?_⟩) (fun h=>absurd h (Qcl (d:=37) (by rfl) (by rfl))) K ?_
     rotate_left
     .
      intro wq y;clear y
      first|(go_simp;done)|(go_simp;with_reducible rfl)
     (try simp only[Act.put,sA,sB,sC]);have b7:O (Z2.cell? ⟨aq,1,none⟩=some (.int .i64 (B:Nat))):=Hi (bq.o.cell 1);refine AnyE.one (i:=39) (by kernel_rfl) rfl (fun KK G=>?_);go_simp;rw[b0.o];refine G.out _ _ ⟨fun h=>absurd (by decide) h,b7.o⟩ ?_;clear G KK K a6 f1 y1;(try simp only[Act.put,sA,sB,sC]);refine AnyE.done (by kernel_rfl) ?_ _;have cq:O (PV Z2 V.heap.size g N (kF C (k+1)) (fun r=>dot (k+1) (balM vb M.length vh r) x) _):=Hi (by
      have h1:=bx.o;obtain⟨e1,e2,e3,e4⟩:=eg.o;have e8:=c5.o;have f1:E1 X2=E X2:=by rw[<-cp.o,Qad _ _ (by omega),Qad _ _ (by omega)]
      have f2:E1 Y2=E Y2:=by rw[<-cp.o,Qad _ _ (by omega),Qad _ _ (by omega)]
      rw[f1,f2,<-cp.o] at h1;have eh:=Qkj C k;rw[ef.o] at eh;refine(h1.mono (by omega)).congr (fun r=>?_);have:=Qst (vh:=vh) (nb:=M.length) (x:=x) ed.o c5.o (E:=E) (fun r=>by rw[<-HE.o]) r;simp only at this;rw[e2,e1,e4,e3] at this
      exact this)
     go_wp2;go_roundw
     case rel=>exact⟨k+1,_,by omega,by go_num,cq.o,bn.o⟩
     case measure=>simp[intOf];omega
    .
     obtain rfl:k=M.length:=by omega
     obtain⟨-,-,z2,-⟩:=zc (ay.o.below I.o ay.o.lt);go_wp2_with fail;clear z2;go_loopw [124] (fun iv wr=>∃(m:Nat) (ts:List RT),m<=hs.length/\iv=.int .i64 m/\PV wr V.heap.size g N (kF C (M.length+m)) (fun r=>dot (M.length+m) (balM vb M.length vh r) x) ts/\Bl V wr) (fun iv _=>hs.length - (intOf iv).toNat)
     case atStart=>exact⟨0,ts,Nat.zero_le _,rfl,F.o,I.o⟩
     case round=>
      clear F I ap;obtain⟨m,ts,hm,rfl,u,am⟩:=hrel;obtain⟨F,I,ap⟩:=Ib u am (ao.o.trans (am.mono ao.o.size));clear u am;by_cases ei:m<hs.length
      .
       obtain⟨h,b8⟩:∃h,hs[m]?=some h:=⟨_,gE ei⟩;obtain⟨R0,cr⟩:∃r,vh[m]?=some r:=⟨vh[m]'(by have:=HV.o.lh;omega),gE _⟩;obtain⟨J,hJ,ej,cs⟩:=(HV.o.vh m h R0 b8 cr).ex;obtain⟨bb,bo,rfl,dz,d0,d1,d2⟩:=(HF.o.h.below ap.o).hold b8;obtain⟨WW,dd,de,ek⟩:∃WW:Nat,h.w=(WW:Int)/\(WW=1∨WW=2)/\R0+1=2*J+WW:=by
        rcases HW.o m h b8 with e|e
        . exact⟨1,by rw[e];rfl,.inl rfl,by rw[cs,if_pos e]⟩
        . exact⟨2,by rw[e];rfl,.inr rfl,by rw[cs,if_neg (by omega)]⟩
       rw[hJ] at d0;rw[dd] at d1;obtain⟨J2,em⟩:=nm (2*J);obtain⟨S1,en⟩:=nm (J2+WW);have w1:IntKind.i64.wrap (2*(J:Int))=(J2:Int):=by rw[wrap_i64 _ (by omega) (by omega)];omega
       have w2:IntKind.i64.wrap ((J2:Int)+(WW:Int))=(S1:Int):=by rw[wrap_i64 _ (by omega) (by omega)];omega
       have w3:IntKind.i64.wrap ((S1:Int) - 1)=(R0:Int):=by rw[wrap_i64 _ (by omega) (by omega)];omega
       have df:R0<N:=by have:=a9.o;omega
       have iR:(R0:Int)<(N:Int):=by omega
       have q1:((m:Int)<(hs.length:Int)):=by omega
       obtain⟨aq,aj⟩:=nm wr.heap.size;obtain⟨Z,an⟩:=nm (wr.alloc (.cells #[.int .i64 (J:Nat),.int .i64 (WW:Nat),.string h.q] 83));have ar:=Ua an;have L:=Uf an aj;have ai:=Hi (I.o.trans (ar.o.mono I.o.size));have Q:=ap.o.trans (ar.o.mono ap.o.size);obtain⟨⟨xt,tq,tk⟩,au⟩:∃t,th[m]?=some t:=⟨th[m]'(by have:=dk.o;omega),gE _⟩;obtain⟨bf,av⟩:=dm.o m _ au;simp only at bf av;subst bf;obtain⟨pb,po,rfl,a0,dg⟩:=HH.o.at au;have x3:=ce Q a0 dg;have S:=Nat.lt_of_lt_of_le a0 Q.size;have aw:=(HH.o.below Q).vs _ (mO au);have u:=F.o.below ar.o
       obtain⟨E,hE⟩:∃E:Vec,(fun r=>dot (M.length+m) (balM vb M.length vh r) x)=E:=⟨_,rfl⟩;rw[hE] at u;obtain⟨KM,ax⟩:=nm (kF C (M.length+m));rw[ax] at u;have ee:KM<=88*C+1:=by rw[<-ax];exact kF_le (by omega)
       have dh:kF C (M.length+(m+1))=KM+2*C:=by rw[<-ax];exact Qkj C (M.length+m)
       obtain⟨tX,kX,_,x2,vX,fX,gX⟩:=u.get df;obtain⟨z,x1,-⟩:=zc L.o;have T:=u.blk.blk.lt;have U:=L.o.lt;obtain⟨P,W,aa,eo⟩:=Ic z x1 x2 x3;have f:O (RBag Z Z [(xt,x (M.length+m),KX),(tX,E R0,KM)]):=Hi (((HG.o.below Q).rebase.put vX fX gX).put aw.1 (aw.2.1.mono av) (Nat.lt_of_lt_of_le aw.2.2 av));clear F;obtain⟨F,HE,ep,eq,er,ck⟩:=Ie u hE dh cr an aj;clear b8 cr hJ ej cs dd de ek em en aj an Q au av dg aw u hE ax dh vX fX gX;go_wp2_with fail;rw[er.o];simp only[ck.o];clear d0 d1 d2;have ag:=cq4 Z.drew z x1 x2 x3;refine AnyBut.beg (k:=24) (by kernel_rfl) ag ?_
       refine Plan.of [0,1,2,3,4,5,6,7,8,9,10,11,12,13,14,15,16,17,18,19,20,21,22,23,24] ?_
       iterate 22
        refine AnyBut.bp (v:=?_) (by rfl) (by kernel_rfl) (by kernel_rfl) (by kernel_rfl) (by kernel_rfl) (by exact fun _ _ _ h=>h) ag (Or.inl ⟨by rfl,?_⟩) ?_
        rotate_left 1
        (focus(intro wq y;obtain⟨bj,bk,bl,es⟩:=y;first|(go_simp;done)|(go_simp;with_reducible rfl)));(try simp only[Act.put,sA,sB,sC])
       clear ag;refine AnyBut.op (by kernel_rfl) (by rfl) (fun KK G=>?_);go_simp;apply cM;apply RBag.add (w0:=Z);exact f.o.drew;repeat(first|exact mH|apply mT);omega;rintro e wn ⟨nb,rfl,n⟩;obtain⟨bt,di⟩:=Ia n.base (n.ts _ (List.Mem.head _));clear z x1 x2 x3 n;obtain⟨z,x1⟩:=Ja bt.o U P.o W.o;have x2:=ce bt.o T aa.o;have x3:=ce bt.o S eo.o;have al:=F.o.below bt.o;have f0:=al.blk.blk.free R0;have et:=Hi al;clear al;refine G.out _ _ (fun _=>⟨z,x1,x2,x3⟩) ?_;clear G KK;(try simp only[Act.put,sA,sB,sC]);have ag:=cq4 wn z x1 x2 x3
       refine AnyBut.bp (v:=?_) (by rfl) (by kernel_rfl) (by kernel_rfl) (by kernel_rfl) (by kernel_rfl) (by exact fun _ _ _ h=>h) ag (Or.inl ⟨by rfl,?_⟩) ?_
       rotate_left 1
       (focus(intro wq y;obtain⟨bj,bk,bl,es⟩:=y;first|(go_simp;done)|(go_simp;with_reducible rfl)));(try simp only[Act.put,sA,sB,sC]);clear ag;refine AnyBut.op (by kernel_rfl) (by rfl) (fun KK G=>?_);go_simp;refine G.out _ _ (fun h=>absurd rfl h) ?_;clear G KK;(try simp only[Act.put,sA,sB,sC]);refine Plan.done (AnyBut.done (by kernel_rfl) ?_ _);clear z x1 x2 x3 f0;have cq:O (PV (wn.setCell ⟨g,R0,none⟩ (.pointer (some ⟨nb,0,none⟩))) V.heap.size g N (kF C (M.length+(m+1))) (fun r=>dot (M.length+(m+1)) (balM vb M.length vh r) x) _):=Hi (by
        rw[ep.o]
        exact((et.o.mono (K':=KM+2*C) (by omega)).set df di.o.1 (di.o.2.1.mono (by simp only;omega)) (by omega) lZ).congr (fun r=>Qsu HV.o.lb eq.o (fun r=>by rw[<-HE.o]) r))
       go_wp2;go_roundw
       case rel=>exact⟨m+1,_,by omega,by go_num,cq.o,(ai.o.trans (bt.o.mono ai.o.size)).setCell (p:=⟨g,R0,none⟩) (Nat.le_of_eq az.o) _⟩
       case measure=>simp[intOf];omega
      .
       obtain rfl:m=hs.length:=by omega
       go_wp2;go_ret;refine⟨N,g,ts,a9.o.symm,rfl,?_,ap.o⟩;have h1:=F.o;exact⟨h1.blk,Nat.le_trans ao.o.size h1.low,h1.len,fun i t ht=>⟨(h1.q i t ht).1,Nat.le_trans (h1.q i t ht).2 (Nat.le_trans (kF_le (by omega)) (by omega))⟩⟩
end Go.Proofs.YtppkmifkpjkgpaaGreatDoor
