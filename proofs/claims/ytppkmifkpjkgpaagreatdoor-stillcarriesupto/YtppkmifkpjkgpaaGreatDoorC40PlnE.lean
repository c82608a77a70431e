import Derived.Test.YtppkmifkpjkgpaaGreatDoorC39PlnB
namespace Go.Proofs.YtppkmifkpjkgpaaGreatDoor
open Go.RowKit
open Go.Proofs.Tryz
set_option linter.unusedSimpArgs false
set_option linter.unusedVariables false
set_option maxHeartbeats 8000000
set_option maxRecDepth 1000000
theorem Qgc:sgn3 (Rat.num 0)=0:=by decide
theorem Qgd{q:Rat}(h:q≠0):(sgn3 q.num != 0)=true/\(sgn3 q.num == 0)=false:=by
 have a:q.num≠0:=fun e=>h (Rat.num_eq_zero.1 e)
 have:sgn3 q.num≠0:=by
  unfold sgn3
  split
  . decide
  . first|decide|(split<;>first|decide|omega)
 exact⟨by rw[bne_iff_ne];exact this,by rw[beq_eq_false_iff_ne];exact this⟩
def Cells2(a b:Addr)(x y:Value)(v:Vz):Prop:=v.cell? a=some x/\v.cell? b=some y
def Cells4(a b c d:Addr)(x y z t:Value)(v:Vz):Prop:=v.cell? a=some x/\v.cell? b=some y/\v.cell? c=some z/\v.cell? d=some t
def Best(rs:List PR)(c k i:Nat)(bv:Value):Prop:=
 (bv=.int .i64 (-1)/\∀(j:Nat) (r:PR),k<=j->j<i->rs[j]?=some r->r.q c=0)∨∃(b:Nat) (r:PR),bv=.int .i64 (b:Nat)/\k<=b/\b<i/\rs[b]?=some r/\r.q c≠0
theorem Best.next0{rs:List PR}{c k i:Nat}{f:Value}{r:PR}(h:Best rs c k i f)(l:rs[i]?=some r)(m:r.q c=0):Best rs c k (i+1) f:=by
 rcases h with ⟨a,d⟩|⟨b,n,a,d,u,o,p⟩
 .
  refine .inl ⟨a,fun j x s t g=>?_⟩;by_cases e:j=i
  .
   subst e;obtain rfl:=Option.some.inj (l.symm.trans g);exact m
  . exact d j x s (by omega) g
 . exact .inr ⟨b,n,a,d,by omega,o,p⟩
theorem Qrp{rs:List PR}{k b:Nat}{s t:PR}(a:rs[b]?=some s)(hk:rs[k]?=some t):((rs.set k s).set b t)[k]?=some s:=by
 by_cases e:k=b
 .
  subst e;obtain rfl:=Option.some.inj (a.symm.trans hk);exact List.getElem?_set_self (by simpa using (gZ hk).1)
 . rw[List.getElem?_set_ne (Ne.symm e)]
   exact List.getElem?_set_self (gZ hk).1
theorem Qge(rs:List PR)(k b:Nat)(s t:PR):((rs.set k s).set b t).length=rs.length:=by simp
def Done(rs1 ra:List PR)(c k i:Nat)(p:Vec):Prop:=ra.length=rs1.length/\∀(m:Nat) (r r1:PR),ra[m]?=some r->rs1[m]?=some r1->r.q=if m=k then p else if m<i then down c p r1.q else r1.q
theorem Done.start{a g:List PR}{c k W:Nat}{v p:Vec}(h:Part a g k W v p)(i:∀d,W<=d->v d=p d):Done a g c k 0 p:=by
 refine⟨h.len,fun m r n b f=>?_⟩;by_cases e:m=k
 .
  subst e;rw[if_pos rfl];obtain⟨o,j,l⟩:=h.done i;obtain rfl:=Option.some.inj (b.symm.trans j);exact l
 .
  rw[if_neg e,if_neg (by omega)];rw[h.other m e,f] at b;rw[Option.some.inj b]
theorem Done.next{a j f:List PR}{c k i:Nat}{p:Vec}(h:Done a j c k i p)(hl:f.length=j.length)(o:∀m,m≠i->f[m]?=j[m]?)(s:∀(r b:PR),f[i]?=some r->a[i]?=some b->r.q=if i=k then p else down c p b.q):Done a f c k (i+1) p:=by
 refine⟨hl.trans h.1,fun m r b l d=>?_⟩;by_cases e:m=i
 . subst e
   rw[s r b l d,if_pos (Nat.lt_succ_self _)]
 .
  rw[o m e] at l;rw[h.2 m r b l d];by_cases g:m=k
  . rw[if_pos g,if_pos g]
  .
   rw[if_neg g,if_neg g];by_cases n:m<i
   . rw[if_pos n,if_pos (by omega)]
   . rw[if_neg n,if_neg (by omega)]
theorem Done.all{rs d:List PR}{c k b R:Nat}{s t:PR}(h:Done ((rs.set k s).set b t) d c k R (overAt c s.q))(l:rs.length=R):d.map PR.q=plStep c k b s.q t.q (rs.map PR.q):=by
 have hl:d.length=rs.length:=h.1.trans (Qge _ _ _ _ _);apply List.ext_getElem?;intro m;rcases Nat.lt_or_ge m rs.length with i|i
 .
  obtain⟨r,j⟩:∃r,d[m]?=some r:=⟨_,gE (by omega)⟩;obtain⟨g,a⟩:∃g,((rs.set k s).set b t)[m]?=some g:=⟨_,gE (by rw[Qge];exact i)⟩;have e:((List.map PR.q rs).set k s.q).set b t.q=((rs.set k s).set b t).map PR.q:=by rw[List.map_set,List.map_set]
  rw[plStep,List.getElem?_mapIdx,e,List.getElem?_map,List.getElem?_map,j,a];simp only[Option.map_some];rw[h.2 m r g j a];by_cases f:m=k
  . rw[if_pos f,if_pos f]
  . rw[if_neg f,if_neg f,if_pos (by omega)]
 . rw[List.getElem?_eq_none (by rw[List.length_map];omega),List.getElem?_eq_none (by rw[Qec,List.length_map];omega)]
theorem q_far{r:PR}{W d:Nat}(h:r.ts.length=W)(a:W<=d):r.q d=0:=Qj2 (by omega)
theorem Qrq{r:PR}{W c d:Nat}(h:r.ts.length=W)(a:W<=d):overAt c r.q d=0:=by
 simp only[overAt];rw[q_far h a];grind
theorem Qrr{c d:Nat}{p v:Vec}(h:p d=0):v d=down c p v d:=by
 simp only[down];rw[h];grind
theorem Qrs{c:Nat}{p v:Vec}(h:v c=0):down c p v=v:=by
 funext d;simp only[down];rw[h];grind
theorem Qrt(B g n W N K R cp:Nat)(zs:Vv)(rs:List PR)(M:List Vec)(w:Vz)
 (U:∃m,w.cell? ⟨4,0,none⟩=some (.int .i64 m)) (ax:4<B)
 (be:∀c L hs,Pl W N M c L hs->∀(j:Nat) (v:Vec),L[j]?=some v->∀i,Fits (v i) K) (V:0<K) (Q:4*K<100000000000)
 (hq:PQ w w B g W K zs rs [] (.slice none 0 0)) (h0:Pl W N M 0 (rs.map PR.q) []) (hn:n<=W) (hW:W<=1000) (hR:rs.length=R) (dx:R<=1000) (dy:R<=cp):
 Calls prog 48 #[.slice (some ⟨g,0,none⟩) R cp,.int .i64 n] w fun e w'=>∃(bq:List PR) (hs:Vy) (tv:Value),e=.returned tv/\PQ w w' B g W K zs bq hs tv/\Pl W N M n (bq.map PR.q) hs/\bq.length=R:=by
 obtain⟨ay,bf,HQ,H0,HR⟩:=Id U be hq h0 hR;clear U be hq h0 hR;go_enter func48,ntmps48;go_wp2_with fail;go_loopw [5,6] (fun tv cv wr=>∃(c:Nat) (rs:List PR) (hs:Vy),c<=n/\cv=.int .i64 c/\PQ w wr B g W K zs rs hs tv/\Pl W N M c (rs.map PR.q) hs/\rs.length=R) (fun _ cv _=>n - (intOf cv).toNat)
 case atStart=>exact⟨0,rs,[],Nat.zero_le _,rfl,HQ.o,H0.o,HR.o⟩
 case round=>
  obtain⟨c,rs,hs,hc,rfl,hq,cd,bg⟩:=hrel;clear HQ H0 HR;obtain⟨HQ,az,l⟩:=Ib hq cd bg;clear hq cd bg;by_cases dz:c<n
  .
   have q1:(c:Int)<(n:Int):=by omega
   obtain⟨ta,tc,br,_⟩:=HQ.o.told.slice;obtain⟨k,hk⟩:=nm hs.length;rw[hk] at br;obtain⟨HK,c7⟩:=Ia hk br;have c8:k<=R:=by
    have:=az.o.le;rw[List.length_map] at this;have:=l.o;omega
   subst br;clear hk c7;go_wp2_with fail;go_loopw [8,9] (fun bv iv c9=>∃i:Nat,k<=i/\i<=R/\iv=.int .i64 i/\c9=wr/\Best rs c k i bv) (fun _ iv _=>R - (intOf iv).toNat)
   case atStart=>exact⟨k,Nat.le_refl _,c8,rfl,rfl,.inl ⟨rfl,fun j r h1 h2=>by omega⟩⟩
   case round=>
    obtain⟨i,da,db,rfl,rfl,al⟩:=hrel;have a0:=Hi al;clear al;by_cases ea:i<R
    .
     obtain⟨r,hr,G,cf,bs⟩:=HQ.o.at (i:=i) (by have:=l.o;omega);obtain⟨pb,x1,hv,hf,_⟩:=HQ.o.num hr (j:=c) (by omega);obtain⟨HS,aj⟩:=Ia (RBag.sign (((HQ.o.glob ay.o ax)).put hv hf V) (List.Mem.head _)) hr;have q2:(i:Int)<(R:Int):=by omega
     have q3:(c:Int)<(W:Int):=by omega
     clear hv hf hr;by_cases hz:r.q c=0
     .
      have HZ:=Hi hz;rw[hz,Qgc] at HS;clear hz;go_wp2_with fail;go_fit HS.o;rintro e wn ⟨rfl,rfl⟩;go_wp2;go_roundw
      case rel=>exact⟨i+1,by omega,by omega,by go_num,by first|rfl|trivial,a0.o.next0 aj.o HZ.o⟩
      case measure=>simp[intOf];omega
     .
      have HZ:=Hi hz;have sz:=(Qgd hz).1;obtain⟨S,hS⟩:=nm (sgn3 (r.q c).num);rw[hS] at HS sz;clear hz hS;go_wp2_with fail;go_fit HS.o;rintro e wn ⟨rfl,rfl⟩;go_wp2;go_roundw
      case rel=>exact⟨i+1,by omega,by omega,by go_num,by first|rfl|trivial,.inr ⟨i,r,rfl,da,by omega,aj.o,HZ.o⟩⟩
      case measure=>simp[intOf];omega
    .
     obtain rfl:R=i:=by omega
     rcases a0.o with ⟨rfl,cg⟩|⟨b,P,rfl,dc,eb,ch,ci⟩
     .
      have dd:=Hi cg;clear cg a0;go_wp2;go_roundw
      case rel=>
       refine⟨c+1,rs,hs,by omega,by go_num,HQ.o,az.o.skip (fun j v hj de=>?_),l.o⟩;rw[List.getElem?_map] at hj;obtain⟨r,hr,rfl⟩:=Option.map_eq_some_iff.1 hj;exact dd.o j r (by rw[<-HK.o];exact de) (by have:=(gZ hr).1;have:=l.o;omega) hr
      case measure=>simp[intOf];omega
     .
      obtain⟨am,cj⟩:=Ia ch ci;clear ch ci a0;have q2:¬((b:Int)<0):=by omega
      obtain⟨df,aa,G,ck,cl⟩:=HQ.o.at (i:=b) (by have:=l.o;omega);obtain rfl:=Option.some.inj (am.o.symm.trans aa);obtain⟨tr,a1,x1,dt,du⟩:=HQ.o.at (i:=k) (by have:=l.o;omega);have cm:=Hi a1;have q3:(b:Int)<(R:Int):=by omega
      have q4:(k:Int)<(R:Int):=by omega
      have f:=(HQ.o.below bR.drew).swap am.o a1;have an:=az.o.step (b:=b) (s:=P.q) (t:=tr.q) (by rw[HK.o];exact dc) (by rw[List.getElem?_map,am.o];rfl) (by rw[List.getElem?_map,HK.o,a1];rfl) cj.o;rw[HK.o] at an;have ao:=Hi an;have f0:=(HQ.o.below bR.drew).mat.blk.free k;obtain⟨Z1,a2⟩:=nm ((wr.setCell ⟨g,k,none⟩ (.slice (some ⟨P.b,0,none⟩) W P.cap)).drew);have bt:SB Z1 g 103 ((rs.map PR.val++zs).toArray.setIfInBounds k (.slice (some ⟨P.b,0,none⟩) W P.cap)):=by
       rw[<-a2];exact(HQ.o.mat.blk.set k _).drew
      have f1:=bt.free b;obtain⟨y1,dg⟩:∃y,Z1.cell? ⟨g,b,none⟩=some y:=by
       rw[bt.cell];exact⟨_,Array.getElem?_eq_getElem (by simp;have:=l.o;omega)⟩
      obtain⟨Z,hZ⟩:=nm (Z1.setCell ⟨g,b,none⟩ (.slice (some ⟨tr.b,0,none⟩) W tr.cap));replace f:PQ w Z B g W K zs ((rs.set k P).set b tr) hs (.slice ta k tc):=by
       rw[<-hZ,<-a2];exact f
      obtain⟨ap,cn,cq⟩:=Ib f a2 hZ;clear aa a1 f an a2 hZ bt;go_wp2_with fail;refine AnyDs.begin (S:=Cells2 ⟨g,b,none⟩ ⟨g,k,none⟩ (.slice (some ⟨P.b,0,none⟩) W P.cap) (.slice (some ⟨tr.b,0,none⟩) W tr.cap)) (D:=[13,15]) (by kernel_rfl) ?_;have a:Cells2 ⟨g,b,none⟩ ⟨g,k,none⟩ (.slice (some ⟨P.b,0,none⟩) W P.cap) (.slice (some ⟨tr.b,0,none⟩) W tr.cap) wr.drew:=⟨G,x1⟩;refine Plan.of [0,1,2,3,4,5,6,7,8,9,10,11,12] ?_
      iterate 13
       first
        |(
         refine AnyDs.pp (v:=?_) (by rfl) (by kernel_rfl) (by kernel_rfl) (by kernel_rfl) (by kernel_rfl) (by exact fun _ _ _ h=>h) (fun _=>a) (Or.inl ⟨by rfl,?_⟩) ?_
         rotate_left
         (focus(intro wq E;clear E;first|(go_simp;done)|(go_simp;with_reducible rfl))))
        |(
         refine AnyDs.sp (v:=?_) (by rfl) (by kernel_rfl) (by kernel_rfl) (by kernel_rfl) (by kernel_rfl) (by kernel_rfl) (by exact fun _ _ _ h=>h) a (Or.inl ⟨by rfl,?_⟩) ?_
         rotate_left
         (focus(intro wq E;obtain⟨f,a3⟩:=E;first|(go_simp;done)|(go_simp;with_reducible rfl))))
       (try simp only[Act.put,List.setIfInBounds_toArray,List.set_cons_zero,List.set_cons_succ])
      refine Plan.done ?_;clear a;refine AnyDs.ready (rs:=[13]) (by kernel_rfl) (by simp) ?_;refine AllDs.cons (by rfl) ?_ AllDs.nil;intro KK Q;go_simp;(try dsimp only);refine Q.out _ _ (fun h=>absurd (by decide) h) ?_;clear Q KK;(try simp only[Act.put,List.setIfInBounds_toArray,List.set_cons_zero,List.set_cons_succ]);rw[cn.o];refine AnyDs.takeP (i:=14) (v:=?_) rfl (by kernel_rfl) (by kernel_rfl) (by kernel_rfl) (by kernel_rfl) (fun _ _ _ h=>h) (Or.inl ⟨by rfl,?_⟩) (fun h=>absurd h (Qci (d:=13) (by rfl) (by rfl))) ?_
      rotate_left
      .
       intro wq E;clear E
       first|(go_simp;done)|(go_simp;with_reducible rfl)
      (try simp only[Act.put,List.setIfInBounds_toArray,List.set_cons_zero,List.set_cons_succ]);refine AnyDs.ready (rs:=[15]) (by kernel_rfl) (by simp) ?_;refine AllDs.cons (by rfl) ?_ AllDs.nil;intro KK Q;go_simp;(try dsimp only);refine Q.out _ _ (fun h=>absurd (by decide) h) ?_;clear Q KK;(try simp only[Act.put,List.setIfInBounds_toArray,List.set_cons_zero,List.set_cons_succ]);refine AnyDs.done (by kernel_rfl) ?_ _;rw[cq.o];clear G x1 f0 f1 dg cn cq;obtain⟨af,ab⟩:=nm ((rs.set k P).set b tr);have aq:af[k]?=some P:=by rw[<-ab];exact Qrp am.o cm.o
      have a4:O (af.length=R):=Hi (by rw[<-ab,Qge];exact l.o);have f:=ap.o;rw[ab] at f;obtain⟨bu,bh⟩:=Ia aq ab;have bw:=f.wide P (mO aq);obtain⟨p,hp⟩:=nm (overAt c P.q);have HP:=Hi hp;have dh:O (∀d,Fits (p d) K):=Hi (fun d=>by
       rw[<-hp]
       exact bf.o _ _ _ ao.o k _ (Qed (by rw[List.getElem?_map,am.o];rfl) (by rw[List.getElem?_map,cm.o];rfl)) d)
      have bi:O (∀d,W<=d->P.q d=p d):=Hi (fun d hd=>by rw[<-hp,q_far bw hd,Qrq bw hd]);obtain⟨df,aa,G,ck,cl⟩:=f.at (i:=k) (by have:=a4.o;omega);obtain rfl:=Option.some.inj (aq.symm.trans aa);obtain⟨pk,x1,H,cr,_⟩:=f.num aq (j:=c) (by omega);obtain⟨cs,ct⟩:=Ia H cr;clear ap;have ap:=Hi f;have q5:(c:Int)<(W:Int):=by omega
      clear aq ab f hp aa H cr bw;go_wp2_with fail;clear G x1;go_loopw [67] (fun jv I=>∃(j:Nat) (ra:List PR),j<=W/\jv=.int .i64 j/\PQ w I B g W K zs ra hs (.slice ta k tc)/\Part af ra k j P.q p/\RatVal I pk (P.q c)) (fun jv _=>W - (intOf jv).toNat)
      case atStart=>exact⟨0,af,Nat.zero_le _,rfl,ap.o,Part.start _ bu.o,cs.o⟩
      case round=>
       obtain⟨j,ra,hj,rfl,F,ak,H⟩:=hrel;obtain⟨I,rfl⟩:∃I,I=wr:=⟨wr,rfl⟩;by_cases ad:j<W
       .
        obtain⟨r,hr,ar,X⟩:=ak.row;obtain⟨r',cu,G,cf,bs⟩:=F.at (i:=k) (by have:=ak.len;have:=a4.o;omega);obtain rfl:=Option.some.inj (hr.symm.trans cu);obtain⟨b1,x1,ag,ah,_⟩:=F.num hr ad;have cw:=X j lZ;rw[cw] at ag ah;have q6:(j:Int)<(W:Int):=by omega
        have U:=F.mat.blk.lt;have f0:=fun (u:Vz) (hb:Below I.heap.size I u)=>(F.below hb).mat.free (j:=j) hr
        obtain⟨bx,a5,a6⟩:=Ib f0 G x1;have T:O (RBag I I [(b1,P.q j,K),(pk,P.q c,K)]):=Hi (((F.glob ay.o ax).put H ct.o V).put ag ah V);obtain⟨C,di,bz,au⟩:=Ic F ak hr H;have b0:O (j<r.ts.length):=Hi (by rw[F.wide r (mO hr)];exact ad);clear hr ar X cu ag ah cw F ak H f0;go_wp2_with fail;refine AnyBut.begin (S:=Cells2 ⟨g,k,none⟩ ⟨r.b,j,none⟩ (.slice (some ⟨r.b,0,none⟩) W r.cap) (.pointer (some ⟨b1,0,none⟩))) (k:=15) (by kernel_rfl) ?_;have a:Cells2 ⟨g,k,none⟩ ⟨r.b,j,none⟩ (.slice (some ⟨r.b,0,none⟩) W r.cap) (.pointer (some ⟨b1,0,none⟩)) I.drew:=⟨G,x1⟩;refine Plan.of [0,1,2,3,4,5,6,7,8,9,10,11,12] ?_
        iterate 13
         refine AnyBut.bp (v:=?_) (by rfl) (by kernel_rfl) (by kernel_rfl) (by kernel_rfl) (by kernel_rfl) (by exact fun _ _ _ h=>h) a (Or.inl ⟨by rfl,?_⟩) ?_
         rotate_left 1
         (focus(intro wq E;obtain⟨f,a3⟩:=E;first|(go_simp;done)|(go_simp;with_reducible rfl)));(try simp only[Act.put,List.setIfInBounds_toArray,List.set_cons_zero,List.set_cons_succ])
        refine Plan.done ?_;clear a;refine AnyBut.one (i:=13) (by kernel_rfl) rfl (fun KK Q=>?_);go_simp;apply cM;apply RBag.quoA (w0:=I);exact T.o.drew;exact List.Mem.head _;exact List.Mem.tail _ (List.Mem.head _);omega;exact cj.o;rintro e wn ⟨nb,rfl,z⟩;have A:=Hi z.base;have b4:=Hi (z.ts _ (List.Mem.head _)).1;clear G x1 z;have G:=ce A.o U a5.o;have x1:=ce A.o bs a6.o;have f0:=bx.o wn A.o;refine Q.out _ _ (fun _=>⟨G,x1⟩) ?_;clear Q KK;(try simp only[Act.put,List.setIfInBounds_toArray,List.set_cons_zero,List.set_cons_succ]);have a:Cells2 ⟨g,k,none⟩ ⟨r.b,j,none⟩ (.slice (some ⟨r.b,0,none⟩) W r.cap) (.pointer (some ⟨b1,0,none⟩)) wn:=⟨G,x1⟩
        refine AnyBut.take (i:=14) (v:=?_) rfl (by kernel_rfl) (by kernel_rfl) (by kernel_rfl) (by kernel_rfl) (fun _ _ _ h=>h) (Or.inl ⟨by rfl,?_⟩) a ?_
        rotate_left 1
        .
         intro wq E;obtain⟨f,a3⟩:=E
         first|(go_simp;done)|(go_simp;with_reducible rfl)
        (try simp only[Act.put,List.setIfInBounds_toArray,List.set_cons_zero,List.set_cons_succ]);clear a;refine AnyBut.one (i:=15) (by kernel_rfl) rfl (fun KK Q=>?_);go_simp;refine Q.out _ _ (fun h=>absurd rfl h) ?_;clear Q KK;(try simp only[Act.put,List.setIfInBounds_toArray,List.set_cons_zero,List.set_cons_succ]);refine AnyBut.done (by kernel_rfl) ?_ _;clear G x1 f0;have b5:O (RatVal wn nb (p j)):=Hi (by rw[<-HP.o];exact b4.o);go_wp2;go_roundw
        case rel=>exact⟨j+1,_,by omega,by go_num,(C.o.below A.o).put bz.o ad b5.o (dh.o j) V,di.o.step bz.o b0.o,(C.o.below A.o).val_put bz.o (au.o.below A.o)⟩
        case measure=>simp[intOf];omega
       .
        obtain rfl:W=j:=by omega
        obtain⟨HD,C⟩:=Ia (Done.start (c:=c) ak bi.o) F;clear F ak H cs;go_wp2_with fail;go_loopw [88] (fun iv I=>∃(i:Nat) (ra:List PR),i<=R/\iv=.int .i64 i/\PQ w I B g W K zs ra hs (.slice ta k tc)/\Done af ra c k i p) (fun iv _=>R - (intOf iv).toNat)
        case atStart=>exact⟨0,ra,Nat.zero_le _,rfl,C.o,HD.o⟩
        case round=>
         clear HD C;obtain⟨i,ra,hi,rfl,F,b6⟩:=hrel;obtain⟨I,rfl⟩:∃I,I=wr:=⟨wr,rfl⟩;obtain⟨C,ai⟩:=Ia F b6;have a7:O (ra.length=R):=Hi (b6.1.trans a4.o);clear F b6;by_cases db:i<R
         .
          have q6:(i:Int)<(R:Int):=by omega
          by_cases a8:i=k
          .
           subst a8;have e1:((i:Int) == (i:Int))=true:=by simp
           go_wp2;go_roundw
           case rel=>exact⟨i+1,ra,by omega,by go_num,C.o,ai.o.next rfl (fun _ _=>rfl) (fun r r1 h1 h2=>by rw[ai.o.2 i r r1 h1 h2,if_pos rfl,if_pos rfl])⟩
           case measure=>simp[intOf];omega
          .
           have e1:((i:Int) == (k:Int))=false:=by rw[beq_eq_false_iff_ne];omega
           obtain⟨r,hr,G,cf,bs⟩:=C.o.at (i:=i) (by have:=a7.o;omega);obtain⟨pb,x1,hv,hf,_⟩:=C.o.num hr (j:=c) (by omega);obtain⟨r1,ar⟩:∃r1,af[i]?=some r1:=⟨_,gE (by have:=a4.o;omega)⟩;have cx:r.q=r1.q:=by rw[ai.o.2 i r r1 hr ar,if_neg a8,if_neg (Nat.lt_irrefl _)]
           obtain⟨HS,aj,b7,b8,a9,ba,bb⟩:=If (RBag.sign (((C.o.glob ay.o ax)).put hv hf V) (List.Mem.head _)) hr ar cx hv hf a8;clear hv hf hr ar cx a8;by_cases hz:r.q c=0
           .
            have HZ:=Hi hz;rw[hz,Qgc] at HS;clear hz;go_wp2_with fail;go_fit HS.o;rintro e wn ⟨rfl,rfl⟩;go_wp2;go_roundw
            case rel=>
             refine⟨i+1,ra,by omega,by go_num,C.o,ai.o.next rfl (fun _ _=>rfl) (fun r' dj h1 h2=>?_)⟩;obtain rfl:=Option.some.inj (aj.o.symm.trans h1);obtain rfl:=Option.some.inj (b7.o.symm.trans h2);rw[if_neg bb.o,<-b8.o,Qrs HZ.o]
            case measure=>simp[intOf];omega
           .
            have sz:=(Qgd hz).2;obtain⟨S,hS⟩:=nm (sgn3 (r.q c).num);rw[hS] at HS sz;obtain⟨v,hv⟩:=nm r.q;obtain⟨u,hu⟩:=nm (down c p v);obtain⟨HU,cy⟩:=Ia hu hv;have dk:O (∀d,Fits (u d) K):=Hi (fun d=>by
             have hh:=ao.o;have hd:∃x,(plStep c k b P.q tr.q (rs.map PR.q))[i]?=some x/\x=u:=by
              rw[<-hu,<-HP.o,<-hv,b8.o];refine⟨_,?_,rfl⟩;have e:((List.map PR.q rs).set k P.q).set b tr.q=af.map PR.q:=by rw[<-bh.o,List.map_set,List.map_set]
              rw[plStep,List.getElem?_mapIdx,e,List.getElem?_map,b7.o];simp only[Option.map_some,if_neg bb.o]
             obtain⟨x,hx,rfl⟩:=hd
             exact bf.o _ _ _ hh i _ hx d)
            have dl:=C.o.wide r (mO aj.o);have dm:O (∀d,W<=d->v d=u d):=Hi (fun d hd=>by
             have h1:p d=0:=by rw[<-bi.o d hd];exact q_far (ap.o.wide P (mO bu.o)) hd
             rw[<-hu]
             exact Qrr h1)
            have b9:=a9.o;have ca:=ba.o;rw[hv] at b9 ca;clear a9 ba;obtain⟨a9,ba,dn⟩:=Ib b9 ca (Part.start (rs:=ra) u aj.o);clear hz hS hu hv dl b9 ca;go_wp2_with fail;go_fit HS.o;rintro e wn ⟨rfl,rfl⟩;go_wp2_with fail;clear G x1;go_loopw [117] (fun jv I=>∃(j:Nat) (rb:List PR),j<=W/\jv=.int .i64 j/\PQ w I B g W K zs rb hs (.slice ta k tc)/\Part ra rb i j v u/\RatVal I pb (v c)) (fun jv _=>W - (intOf jv).toNat)
            case atStart=>exact⟨0,ra,Nat.zero_le _,rfl,C.o,by rw[<-cy.o];exact dn.o,a9.o⟩
            case round=>
             obtain⟨j,rb,hj,rfl,J,ae,H⟩:=hrel;obtain⟨wy,rfl⟩:∃wy,wy=wr:=⟨wr,rfl⟩;by_cases ad:j<W
             .
              obtain⟨r2,X,cz,bj⟩:=ae.row;obtain⟨ec,bk,G,dv,bl⟩:=J.at (i:=i) (by have:=ae.len;have:=a7.o;omega);obtain rfl:=Option.some.inj (X.symm.trans bk);obtain⟨b1,x1,ag,ah,_⟩:=J.num X ad;rw[bj j lZ] at ag ah;obtain⟨rk,bc,x2,dw,bm⟩:=J.at (i:=k) (by have:=ae.len;have:=a7.o;omega);obtain⟨b2,x3,hv2,cb,_⟩:=J.num bc ad;have bn:rk.q=p:=by
               rw[ae.other k (Ne.symm bb.o)] at bc;rw[ai.o.2 k rk P bc bu.o,if_pos rfl]
              rw[bn] at hv2 cb;have q7:(j:Int)<(W:Int):=by omega
              have U:=J.mat.blk.lt;obtain⟨bx,a5,a6,c0,c1⟩:=Id (fun (u:Vz) (hb:Below wy.heap.size wy u)=>(J.below hb).mat.free (j:=j) X) G x1 x2 x3;have T:O (RBag wy wy [(b1,v j,K),(b2,p j,K),(pb,v c,K)]):=Hi ((((J.glob ay.o ax).put H ba.o V).put hv2 cb V).put ag ah V);obtain⟨bd,av,cc,au⟩:=Ic J ae X H;have b0:O (j<r2.ts.length):=Hi (by rw[J.wide r2 (mO X)];exact ad);clear X cz bj bk ag ah hv2 cb bc bn J ae H;go_wp2_with fail;refine AnyBut.begin (S:=Cells4 ⟨g,i,none⟩ ⟨r2.b,j,none⟩ ⟨g,k,none⟩ ⟨rk.b,j,none⟩ (.slice (some ⟨r2.b,0,none⟩) W r2.cap) (.pointer (some ⟨b1,0,none⟩)) (.slice (some ⟨rk.b,0,none⟩) W rk.cap) (.pointer (some ⟨b2,0,none⟩))) (k:=23) (by kernel_rfl) ?_
              have a:Cells4 ⟨g,i,none⟩ ⟨r2.b,j,none⟩ ⟨g,k,none⟩ ⟨rk.b,j,none⟩ (.slice (some ⟨r2.b,0,none⟩) W r2.cap) (.pointer (some ⟨b1,0,none⟩)) (.slice (some ⟨rk.b,0,none⟩) W rk.cap) (.pointer (some ⟨b2,0,none⟩)) wy.drew:=⟨G,x1,x2,x3⟩;refine Plan.of [0,1,2,3,4,5,6,7,8,9,10,11,12,13,14,15,16,17,18,19] ?_
              iterate 20
               refine AnyBut.bp (v:=?_) (by rfl) (by kernel_rfl) (by kernel_rfl) (by kernel_rfl) (by kernel_rfl) (by exact fun _ _ _ h=>h) a (Or.inl ⟨by rfl,?_⟩) ?_
               rotate_left 1
               (focus(intro wq E;obtain⟨f,a3,dp,dq⟩:=E;first|(go_simp;done)|(go_simp;with_reducible rfl)));(try simp only[Act.put,List.setIfInBounds_toArray,List.set_cons_zero,List.set_cons_succ])
              refine Plan.done ?_;clear a;refine AnyBut.one (i:=20) (by kernel_rfl) rfl (fun KK Q=>?_);go_simp;apply cM;apply RBag.mul (w0:=wy);exact T.o.drew;exact List.Mem.tail _ (List.Mem.tail _ (List.Mem.head _));exact List.Mem.tail _ (List.Mem.head _);omega;rintro e wm ⟨b3,rfl,z⟩;clear T;have T:=Hi z;clear G x1 x2 x3 z;have G:=ce T.o.base U a5.o;have x1:=ce T.o.base bl a6.o;have x2:=ce T.o.base U c0.o;have x3:=ce T.o.base bm c1.o;refine Q.out _ _ (fun _=>⟨G,x1,x2,x3⟩) ?_;clear Q KK;(try simp only[Act.put,List.setIfInBounds_toArray,List.set_cons_zero,List.set_cons_succ]);refine AnyBut.one (i:=21) (by kernel_rfl) rfl (fun KK Q=>?_);go_simp;apply cM;apply RBag.sub (w0:=wy);exact T.o
              exact List.Mem.tail _ (List.Mem.head _);exact List.Mem.head _;omega;rintro e wn ⟨nb,rfl,z⟩;have A:=Hi z.base;have b4:=Hi (z.ts _ (List.Mem.head _)).1;clear G x1 x2 x3 z;have G:=ce A.o U a5.o;have x1:=ce A.o bl a6.o;have x2:=ce A.o U c0.o;have x3:=ce A.o bm c1.o;have f0:=bx.o wn A.o;refine Q.out _ _ (fun _=>⟨G,x1,x2,x3⟩) ?_;clear Q KK;(try simp only[Act.put,List.setIfInBounds_toArray,List.set_cons_zero,List.set_cons_succ]);have a:Cells4 ⟨g,i,none⟩ ⟨r2.b,j,none⟩ ⟨g,k,none⟩ ⟨rk.b,j,none⟩ (.slice (some ⟨r2.b,0,none⟩) W r2.cap) (.pointer (some ⟨b1,0,none⟩)) (.slice (some ⟨rk.b,0,none⟩) W rk.cap) (.pointer (some ⟨b2,0,none⟩)) wn:=⟨G,x1,x2,x3⟩
              refine AnyBut.take (i:=22) (v:=?_) rfl (by kernel_rfl) (by kernel_rfl) (by kernel_rfl) (by kernel_rfl) (fun _ _ _ h=>h) (Or.inl ⟨by rfl,?_⟩) a ?_
              rotate_left 1
              .
               intro wq E;obtain⟨f,a3,dp,dq⟩:=E
               first|(go_simp;done)|(go_simp;with_reducible rfl)
              (try simp only[Act.put,List.setIfInBounds_toArray,List.set_cons_zero,List.set_cons_succ]);clear a;refine AnyBut.one (i:=23) (by kernel_rfl) rfl (fun KK Q=>?_);go_simp;refine Q.out _ _ (fun h=>absurd rfl h) ?_;clear Q KK;(try simp only[Act.put,List.setIfInBounds_toArray,List.set_cons_zero,List.set_cons_succ]);refine AnyBut.done (by kernel_rfl) ?_ _;clear G x1 x2 x3 f0;have b5:O (RatVal wn nb (u j)):=Hi (by rw[<-HU.o];exact b4.o);go_wp2;go_roundw
              case rel=>exact⟨j+1,_,by omega,by go_num,(bd.o.below A.o).put cc.o ad b5.o (dk.o j) V,av.o.step cc.o b0.o,(bd.o.below A.o).val_put cc.o (au.o.below A.o)⟩
              case measure=>simp[intOf];omega
             .
              obtain rfl:W=j:=by omega
              obtain⟨bd,av⟩:=Ia J ae;clear J ae H;go_wp2;go_roundw
              case rel=>
               refine⟨i+1,rb,by omega,by go_num,bd.o,ai.o.next av.o.len av.o.other (fun r' dj h1 h2=>?_)⟩;obtain⟨r3,h3,h4⟩:=av.o.done dm.o;obtain rfl:=Option.some.inj (h1.symm.trans h3);obtain rfl:=Option.some.inj (b7.o.symm.trans h2);rw[if_neg bb.o,h4,<-HU.o,<-cy.o,b8.o]
              case measure=>simp[intOf];omega
         .
          obtain rfl:R=i:=by omega
          have aw:=ai.o;rw[<-bh.o,<-HP.o] at aw;have bo:=aw.all l.o;have dr:O (Pl W N M (c+1) (ra.map PR.q) (hs++ [c])):=Hi (by rw[bo];exact ao.o);obtain⟨Y,hY⟩:=nm (I.alloc (.cells #[.int .i64 (c:Nat)] 3));have c2:Below I.heap.size I Y:=by rw[<-hY];exact(Below.refl _ _).alloc lZ _
          have c3:Y.cell? ⟨I.heap.size,0,none⟩=some (.int .i64 (c:Nat)):=by rw[<-hY];exact Qa8 I _ _
          obtain⟨ed,w',c4,c5⟩:=(C.o.below c2).app (k:=c) (nb:=I.heap.size) (c:=1) c3 (by have:=HK.o;omega) 99;rw[<-hY] at c4;have ds:=Hi c5;clear aw bo hY c2 c3 c5;go_wp2;go_roundw
          case rel=>exact⟨c+1,ra,hs++ [c],by omega,by go_num,ds.o,dr.o,a7.o⟩
          case measure=>simp[intOf];omega
  .
   have c6:=Hi (And.intro HQ.o az.o);obtain rfl:c=n:=by omega
   go_wp2;go_ret;exact⟨rs,hs,_,rfl,c6.o.1,c6.o.2,l.o⟩
def Fills(n:Nat)(M:List Vec)(x:Vec):Prop:=∀r,r∈ M->dot n r x=r n
def SolveSays(n K B:Nat)(M:List Vec)(w:Vz)(e:Ending)(w':Vz):Prop:=Below B w w'/\
 ((e=.returned (.tuple #[.slice none 0 0,.int .i64 8])/\∀x:Vec,¬Fills n M x)∨
  (e=.returned (.tuple #[.slice none 0 0,.int .i64 9])/\∃x y:Vec,Fills n M x/\Fills n M y/\∃c,c<n/\x c≠y c)∨
  (∃(v:Value) (ts:List RT),e=.returned (.tuple #[v,.int .i64 0])/\PGrow w' w.heap.size v ts/\ts.length=n/\(∀t,t∈ ts->t.2.2=K)/\∀y:Vec,Fills n M y↔∀(i:Nat) (t:RT),ts[i]?=some t->y i=t.2.1))
theorem PGrow.low{w:Vz}{B c:Nat}{v:Value}{ts:List RT}(h:PGrow w B v ts)(hB:c<=B):PGrow w c v ts:=by
 refine⟨⟨⟨h.list.own.1,?_⟩,h.list.all⟩,h.vs⟩;rcases h.list.own.2 with a|⟨g,cap,b,a,d,e⟩
 . exact .inl a
 . exact .inr ⟨g,cap,b,a,Nat.le_trans hB d,e⟩
theorem Qru(B g n N K R cp:Nat)(zs:Vv)(rs:List PR)(M:List Vec)(w:Vz)
 (I:∃m,w.cell? ⟨4,0,none⟩=some (.int .i64 m)) (aa:4<B)
 (G:∀c L hs,Pl (n+1) N M c L hs->∀(j:Nat) (v:Vec),L[j]?=some v->∀i,Fits (v i) K) (J:0<K) (hK:4*K<100000000000)
 (P:PQ w w B g (n+1) K zs rs [] (.slice none 0 0)) (h0:Pl (n+1) N M 0 (rs.map PR.q) []) (hW:n+1<=1000) (hR:rs.length=R) (au:R<=1000) (av:R<=cp):
 Calls prog 57 #[.slice (some ⟨g,0,none⟩) R cp,.int .i64 n] w (SolveSays n K B M w):=by
 obtain⟨ab,aw⟩:=Ia (Qrt B g n (n+1) N K R cp zs rs M w I aa G J hK P h0 (Nat.le_succ _) hW hR au av) I;clear I G P h0 hR;obtain⟨W,ax⟩:=nm (n+1);go_enter func57,ntmps57;go_wp2_with fail;go_fit ab.o;rintro e w1 ⟨A,hs,tv,rfl,P,C,H⟩;rw[ax] at P;obtain⟨ta,tc,ad,_⟩:=P.told.slice;obtain⟨k,hk⟩:=nm hs.length;rw[hk] at ad;subst ad;have ay:k<=R:=by
  have:=C.le;rw[List.length_map] at this;omega
 have a7:k<=n:=by
  have:=C.cln.ech.count;omega
 obtain⟨z,Q,f,HK⟩:=Ic P C H hk;clear P C H hk ab;go_wp2_with fail;go_loopw [7] (fun T wr=>∃i:Nat,k<=i/\i<=R/\T=.int .i64 i/\wr=w1/\∀(j:Nat) (r:PR),k<=j->j<i->A[j]?=some r->r.q n=0) (fun T _=>R - (intOf T).toNat)
 case atStart=>exact⟨k,Nat.le_refl _,ay,rfl,rfl,fun j r h1 h2=>by omega⟩
 case round=>
  obtain⟨i,az,a8,rfl,a0,ae⟩:=hrel;subst a0;obtain⟨w1,rfl⟩:∃w1,w1=wr:=⟨wr,rfl⟩;have U:=Hi ae;clear ae;by_cases a9:i<R
  .
   obtain⟨r,b,x0,a1,a2⟩:=z.o.at (i:=i) (by have:=f.o;omega);obtain⟨pb,x1,l,hf,_⟩:=z.o.num b (j:=n) (by omega);obtain⟨HS,D⟩:=Ia (RBag.sign (((z.o.glob aw.o aa)).put l hf J) (List.Mem.head _)) b;have q2:(i:Int)<(R:Int):=by omega
   have q3:(n:Int)<(W:Int):=by omega
   clear l hf b;by_cases hz:r.q n=0
   .
    have HZ:=Hi hz;rw[hz,Qgc] at HS;clear hz;go_wp2_with fail;go_fit HS.o;rintro e wn ⟨rfl,rfl⟩;go_wp2;go_roundw
    case rel=>
     refine⟨i+1,by omega,by omega,by go_num,by first|rfl|trivial,fun j r' h1 h2 h3=>?_⟩;by_cases e:j=i
     .
      subst e;obtain rfl:=Option.some.inj (D.o.symm.trans h3);exact HZ.o
     . exact U.o j r' h1 (by omega) h3
    case measure=>simp[intOf];omega
   .
    have HZ:=Hi hz;have sz:=(Qgd hz).1;obtain⟨S,hS⟩:=nm (sgn3 (r.q n).num);rw[hS] at HS sz;clear hz hS;go_wp2_with fail;go_fit HS.o;rintro e wn ⟨rfl,rfl⟩;go_wp2;go_ret2;exact⟨z.o.base,.inl ⟨rfl,fun x=>Q.o.none (by rw[HK.o];exact az) (by rw[List.getElem?_map,D.o];rfl) HZ.o x⟩⟩
  .
   obtain rfl:R=i:=by omega
   have af:O (∀(i:Nat) (v:Vec),hs.length<=i->(A.map PR.q)[i]?=some v->v n=0):=Hi (fun i v hi l=>by
    rw[List.getElem?_map] at l;obtain⟨r,b,rfl⟩:=Option.map_eq_some_iff.1 l
    exact U.o i r (by rw[<-HK.o];exact hi) (by have:=(gZ b).1;have:=f.o;omega) b)
   clear U;by_cases a3:k<n
   .
    have q2:(k:Int)<(n:Int):=by omega
    go_wp2;go_ret2;exact⟨z.o.base,.inr (.inl ⟨rfl,Q.o.free af.o (by rw[HK.o];exact a3)⟩)⟩
   .
    have q2:¬((k:Int)<(n:Int)):=by omega
    have a4:O (hs.length=n):=Hi (by have:=HK.o;omega);go_wp2_with fail;go_loopw [8,9] (fun xv T wr=>∃(i:Nat) (ts:List RT),i<=n/\T=.int .i64 i/\PGrow wr w1.heap.size xv ts/\ts.length=i/\(∀t,t∈ ts->t.2.2=K)/\(∀(m:Nat) (t:RT) (r:PR),ts[m]?=some t->A[m]?=some r->t.2.1=r.q n)/\Below w1.heap.size w1 wr) (fun _ T _=>n - (intOf T).toNat)
    case atStart=>exact⟨0,[],Nat.zero_le _,rfl,PGrow.nil _ _,rfl,(fun t d=>by cases d),(fun m t r V=>by cases V),Below.refl _ _⟩
    case round=>
     obtain⟨i,ts,hi,rfl,ag,ah,ai,aj,ak⟩:=hrel;obtain⟨E,a,al,X,p⟩:=Id ag ah ai aj ak;clear ag ah ai aj ak;by_cases ba:i<n
     .
      have Z:=z.o.below p.o;obtain⟨r,b,x0,a1,a2⟩:=Z.at (i:=i) (by have:=f.o;omega);obtain⟨pb,x1,l,hf,_⟩:=Z.num b (j:=n) (by omega);obtain⟨Y,hY⟩:=nm (wr.alloc (.cells #[.pointer (some ⟨pb,0,none⟩)] 84));have s:Below wr.heap.size wr Y:=by rw[<-hY];exact(Below.refl _ _).alloc lZ _
      have am:Y.cell? ⟨wr.heap.size,0,none⟩=some (.pointer (some ⟨pb,0,none⟩)):=by rw[<-hY];exact Qa8 wr _ _
      obtain⟨v',w',an,ao,ap,_⟩:=(E.o.below s).app (us:=[(pb,r.q n,K)]) (nb:=wr.heap.size) (c:=1) (m:=1) (fun t d=>by
       obtain rfl:=List.mem_singleton.1 d
       exact⟨l.below s,hf,J⟩) rfl (fun j u hj=>by
       match j,hj with
       |0,hj=>
        obtain rfl:Value.pointer (some ⟨pb,0,none⟩)=u:=by simpa [ptrV] using hj
        rw[Qaq]
        exact am) (by have:=a.o;omega) (Nat.le_trans p.o.size s.size) 52
      rw[<-hY] at an;have a5:=Hi ao;have a6:O (Below w1.heap.size w1 w'):=Hi ((p.o.trans (s.mono p.o.size)).trans ap);have D:=Hi b;obtain⟨xa,xc,F,_⟩:=E.o.row;have q4:(i:Int)<(n:Int):=by omega
      have q5:(n:Int)<(W:Int):=by omega
      have q6:(i:Int)<(R:Int):=by omega
      subst F;clear l hf b hY s am ao ap Z;go_wp2;go_roundw
      case rel=>
       refine⟨i+1,ts++ [(pb,r.q n,K)],by omega,by go_num,a5.o,by simp[a.o],fun t d=>?_,fun m t r' V aq=>?_,a6.o⟩
       .
        rcases List.mem_append.1 d with d|d
        . exact al.o t d
        . rw[List.mem_singleton.1 d]
       .
        rcases Nat.lt_or_ge m i with h|h
        . rw[List.getElem?_append_left (by have:=a.o;omega)] at V
          exact X.o m t r' V aq
        .
         have ar:=(gZ V).1;have e:m=i:=by
          rw[List.length_append,a.o] at ar;simp at ar;omega
         subst e;rw[List.getElem?_append_right (by have:=a.o;omega),a.o,Nat.sub_self] at V;obtain rfl:=Option.some.inj V;obtain rfl:=Option.some.inj (D.o.symm.trans aq);rfl
      case measure=>simp[intOf];omega
     .
      obtain rfl:n=i:=by omega
      obtain⟨xa,xc,F,_⟩:=E.o.row;have bb:=Hi F;subst F;go_wp2;go_ret2;refine⟨z.o.base.trans (p.o.mono (Nat.le_trans z.o.low z.o.base.size)),.inr (.inr ⟨_,ts,rfl,E.o.low z.o.base.size,a.o,al.o,fun y=>?_⟩)⟩;refine(Q.o.one af.o a4.o y).trans ?_;constructor
      .
       intro h i t d;have bc:=(gZ d).1;obtain⟨r,b⟩:∃r,A[i]?=some r:=⟨_,gE (by have:=a.o;have:=f.o;omega)⟩;rw[X.o i t r d b];exact h i r.q (by have:=a.o;omega) (by rw[List.getElem?_map,b];rfl)
      .
       intro h i v hi l;rw[List.getElem?_map] at l;obtain⟨r,b,rfl⟩:=Option.map_eq_some_iff.1 l;obtain⟨t,d⟩:∃t,ts[i]?=some t:=⟨_,gE (by have:=a.o;omega)⟩;rw[<-X.o i t r d b];exact h i t d
theorem RBag.unit{w0 w:Vz}{L:List (Nat × Rat × Nat)}(h:RBag w0 w L):
 Calls prog 92 #[.int .i64 1] w (RNew w0 L 1 1):=
 (ref_N 1 w (by decide)).mono fun e w' a=>h.new a Fits.one (by decide)
structure PV (w:Vz) (B g n K:Nat) (x:Vec) (ts:List RT):Prop where
 blk:PBlk w g ts
 low:B<=g
 len:ts.length=n
 q:∀(i:Nat) (t:RT),ts[i]?=some t->t.2.1=x i/\t.2.2<=K
theorem PV.below{w w':Vz}{B g n K:Nat}{x:Vec}{ts:List RT}(h:PV w B g n K x ts)(a:Below w.heap.size w w'):PV w' B g n K x ts:=⟨h.blk.below a,h.low,h.len,h.q⟩
theorem PV.get{w:Vz}{B g n K i:Nat}{x:Vec}{ts:List RT}(h:PV w B g n K x ts)(l:i<n):∃b k:Nat,ts[i]?=some (b,x i,k)/\w.cell? ⟨g,i,none⟩=some (.pointer (some ⟨b,0,none⟩))/\RatVal w b (x i)/\Fits (x i) K/\0<K:=by
 obtain⟨⟨b,q,k⟩,a⟩:∃t,ts[i]?=some t:=⟨_,gE (by rw[h.len];exact l)⟩;obtain⟨d,c⟩:=h.q i _ a;obtain⟨e,f,j⟩:=h.blk.vs _ (mO a);simp only at d c e f j;subst d;exact⟨b,k,a,h.blk.cell a,e,f.mono c,Nat.lt_of_lt_of_le j c⟩
theorem PV.set{w:Vz}{B g n K i b k:Nat}{x:Vec}{q:Rat}{ts:List RT}(h:PV w B g n K x ts)(d:i<n)(f:RatVal w b q)(l:Fits q k)(hk:0<k)(c:k<=K):PV (w.setCell ⟨g,i,none⟩ (.pointer (some ⟨b,0,none⟩))) B g n K (upd x i q) (ts.set i (b,q,k)):=by
 refine⟨h.blk.set f l hk,h.low,by simpa using h.len,fun j t a=>?_⟩;by_cases e:j=i
 .
  rw[e,List.getElem?_set_self (by rw[h.len];exact d)] at a;obtain rfl:=Option.some.inj a;rw[e,Qar];exact⟨rfl,c⟩
 .
  rw[List.getElem?_set_ne (Ne.symm e)] at a;rw[Qad _ _ e];exact h.q j t a
theorem PV.mono{w:Vz}{B g n K K':Nat}{x:Vec}{ts:List RT}(h:PV w B g n K x ts)(hk:K<=K'):PV w B g n K' x ts:=⟨h.blk,h.low,h.len,fun i t a=>⟨(h.q i t a).1,Nat.le_trans (h.q i t a).2 hk⟩⟩
theorem PV.of{w:Vz}{B g n:Nat}{ts:List RT}(h:Noughts w g n n ts)(hB:B<=g):PV w B g n 1 (fun _=>0) ts:=by
 refine⟨⟨?_,h.vs⟩,hB,h.len,fun i t a=>?_⟩
 .
  have:=h.blk;rw[Nat.sub_self] at this
  simpa using this
 . obtain⟨b,c⟩:=h.zero t (mO a)
   exact⟨b,by rw[c];exact Nat.le_refl _⟩
theorem Qrv(k:Nat):upd (fun _=>0) k 1=unitV k:=by
 funext i;simp only[upd,unitV]
theorem Qrw(n k:Nat)(w:Vz)(I:∃m,w.cell? ⟨4,0,none⟩=some (.int .i64 m))(hk:k<n)(M:n<=1000):
 Calls prog 49 #[.int .i64 n,.int .i64 k] w fun e w'=>∃(g:Nat) (ts:List RT),e=.returned (.slice (some ⟨g,0,none⟩) n n)/\PV w' w.heap.size g n 1 (unitV k) ts/\Below w.heap.size w w':=by
 have J:=Hi (RBag.start I);have v:=Qfw n (by omega) w;obtain⟨K,j⟩:=nm ((List.replicate n (Value.pointer none)).toArray);rw[j] at v;obtain⟨g,l⟩:=nm w.heap.size;obtain⟨V,A⟩:=nm (w.alloc (.cells K 84));have C:=Ua A;have D:O (Noughts V g n 0 []):=Hi ⟨by rw[<-A,<-l,<-j];exact SB.new w _ _,(fun t E=>by cases E),rfl,(fun t E=>by cases E)⟩;obtain⟨L,f⟩:=Ia A l;have N:(k:Int)<(n:Int):=by omega
 clear I j A l;go_enter func49,ntmps49;go_wp2_with fail;rw[L.o];rw[f.o];clear v;go_loopw [11] (fun F wr=>∃(i:Nat) (ts:List RT),i<=n/\F=.int .i64 i/\Noughts wr g n i ts/\Below w.heap.size w wr) (fun F _=>n - (intOf F).toNat)
 case atStart=>exact⟨0,[],Nat.zero_le _,rfl,D.o,C.o⟩
 case round=>
  obtain⟨i,ts,P,rfl,x,y⟩:=hrel;obtain⟨z,d⟩:=Ia x y;clear x y;by_cases G:i<n
  .
   have Q:(i:Int)<(n:Int):=by omega
   have q:=Hi (RBag.nought ((J.o.below d.o).rebase));go_wp2_with fail;go_fit q.o;rintro e w2 ⟨b,rfl,a⟩;have r:=Hi a.base;have s:=Hi (a.ts _ (List.Mem.head _)).1;have c:=z.o.below a.base;have f0:=c.blk.free i;have t0:w2.cell? ⟨g,i,none⟩=some (.pointer none):=by
    rw[c.blk.cell];have e:(ts.map ptrV++List.replicate (n - i) (Value.pointer none)).toArray[i]?=(ts.map ptrV++List.replicate (n - i) (Value.pointer none))[i]?:=by simp
    rw[e,List.getElem?_append_right (by rw[List.length_map,c.len];exact Nat.le_refl _),List.length_map,c.len,Nat.sub_self,List.getElem?_replicate,if_pos (by omega)]
   have u:=Hi c;clear a c;go_wp2;go_roundw
   case rel=>exact⟨i+1,_,by omega,by go_num,u.o.step G s.o,(d.o.trans (r.o.mono d.o.size)).setCell (p:=⟨g,i,none⟩) (Nat.le_of_eq f.o) _⟩
   case measure=>simp[intOf];omega
  .
   obtain rfl:n=i:=by omega
   obtain⟨H,q⟩:=Ia (PV.of (B:=w.heap.size) z.o (Nat.le_of_eq f.o)) (RBag.unit ((J.o.below d.o).rebase));go_wp2_with fail;go_fit q.o;rintro e w2 ⟨b,rfl,a⟩;have r:=Hi a.base;have s:=Hi (a.ts _ (List.Mem.head _)).1;have c:=H.o.below a.base;obtain⟨R,S,_,t0,_⟩:=c.get hk;have f0:=c.blk.blk.free k;have u:=Hi c;clear a c;go_wp2;go_ret;have h:=u.o.set hk s.o Fits.one Nat.one_pos lZ;rw[Qrv] at h;exact⟨g,_,rfl,h,(d.o.trans (r.o.mono d.o.size)).setCell (p:=⟨g,k,none⟩) (Nat.le_of_eq f.o) _⟩
end Go.Proofs.YtppkmifkpjkgpaaGreatDoor
