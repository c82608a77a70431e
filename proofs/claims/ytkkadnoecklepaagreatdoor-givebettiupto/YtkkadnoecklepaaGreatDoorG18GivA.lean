import Derived.Test.YtkkadnoecklepaaGreatDoorG17LodA
namespace Go.Proofs.YtkkadnoecklepaaGreatDoor
open Go.RowKit
open Go.Proofs.Tryz
set_option linter.unusedSimpArgs false
set_option linter.unusedVariables false
set_option maxHeartbeats 8000000
set_option maxRecDepth 1000000
abbrev kL(k:Nat):Nat:=k*4194306+1
theorem Qqi(m:Nat):kL (m+1)=kL m+4194306:=by
 show (m+1)*4194306+1=m*4194306+1+4194306
 omega
def LoadsSays(nj en:Nat)(ls:List L3)(vs:List (Nat × Rat × Rat))(w:Vz)(e:Ending)(w':Vz):Prop:=
 Below w.heap.size w w'/\∃c at_:Int,LoadsFault nj en ls c at_/\((c≠0/\e=.returned (.tuple #[.slice none 0 0,.agg #[.int .i64 c,.int .i64 at_]]))∨
  (c=0/\∃(g N:Nat) (ts:List RT),N=2*nj/\e=.returned (.tuple #[.slice (some ⟨g,0,none⟩) N N,.agg #[.int .i64 0,.int .i64 0]])/\PBlk w' g ts/\ts.length=N/\∀(i:Nat) (t:RT),ts[i]?=some t->t.2.1= -agn vs i/\t.2.2<=kL 20))
structure LSum (w:Vz) (g N k:Nat) (vs:List (Nat × Rat × Rat)) (ts:List RT):Prop where
 blk:PBlk w g ts
 len:ts.length=N
 q:∀(i:Nat) (t:RT),ts[i]?=some t->t.2.1= -agn (vs.take k) i/\t.2.2<=kL k
theorem LSum.start{w:Vz}{g N:Nat}{vs:List (Nat × Rat × Rat)}{ts:List RT}(h:Noughts w g N N ts):LSum w g N 0 vs ts:=by
 refine⟨⟨?_,h.vs⟩,h.len,fun i t a=>?_⟩
 .
  have:=h.blk;rw[Nat.sub_self] at this
  simpa using this
 .
  obtain⟨b,c⟩:=h.zero t (mO a);rw[b,c];exact⟨by simp[agn],by simp[kL]⟩
theorem LSum.step{w:Vz}{g N k b1 b2:Nat}{vs:List (Nat × Rat × Rat)}{ts:List RT}{p:Nat × Rat × Rat}{t u:RT}(h:LSum w g N k vs ts)(o:vs[k]?=some p)(m:ts[2*p.1]?=some t)(n:ts[2*p.1+1]?=some u){w1 w2:Vz}
 (d:Bl w w1) (r:RatVal w1 b1 (t.2.1+p.2.1)) (f1:Fits (t.2.1+p.2.1) (kL (k+1)))
 (f:Below w1.heap.size (w1.setCell ⟨g,2*p.1,none⟩ (.pointer (some ⟨b1,0,none⟩))) w2) (v:RatVal w2 b2 (u.2.1+p.2.2)) (f2:Fits (u.2.1+p.2.2) (kL (k+1))):
 LSum (w2.setCell ⟨g,2*p.1+1,none⟩ (.pointer (some ⟨b2,0,none⟩))) g N (k+1) vs ((ts.set (2*p.1) (b1,t.2.1+p.2.1,kL (k+1))).set (2*p.1+1) (b2,u.2.1+p.2.2,kL (k+1))):=by
 have x:=((h.blk.below d).set (i:=2*p.1) r f1 (by simp[kL]));have y:=x.below (by
  have e:(w1.setCell ⟨g,2*p.1,none⟩ (.pointer (some ⟨b1,0,none⟩))).heap.size=w1.heap.size:=by simp[World.setCell]
  unfold Bl;rw[e]
  exact f)
 have j:=(gZ m).1;have l:=(gZ n).1;refine⟨y.set v f2 (by simp[kL]),by simp[h.len],fun i s a=>?_⟩;rw[Qcp o];by_cases b:i=2*p.1+1
 .
  rw[b,List.getElem?_set_self (by rw[List.length_set];exact l)] at a;obtain rfl:=Option.some.inj a;rw[b,agn_y];refine⟨?_,Nat.le_refl _⟩;simp only;rw[(h.q _ _ n).1];grind
 .
  rw[List.getElem?_set_ne (Ne.symm b)] at a;by_cases c:i=2*p.1
  .
   rw[c,List.getElem?_set_self j] at a;obtain rfl:=Option.some.inj a;rw[c,agn_x];refine⟨?_,Nat.le_refl _⟩;simp only;rw[(h.q _ _ m).1];grind
  .
   rw[List.getElem?_set_ne (Ne.symm c)] at a;obtain⟨z,A⟩:=h.q i s a;refine⟨?_,Nat.le_trans A (by simp only[kL];omega)⟩;rw[z];unfold agnStep;rw[Qat _ _ b,Qat _ _ c]
theorem Qqj(a1 a2 a3 al:Vx)(c1 c2 c3 cl nj nb nh:Nat)(H:List L3)(vs:List (Nat × Rat × Rat))(w:Vz)(hg:∃m,w.cell? ⟨4,0,none⟩=some (.int .i64 m))(hl:ARow L3.cells w al cl H)(hv:LVal H vs)(n1:nj<=10)(n2:nb<=24)(n3:nh<=20)(c9:H.length<=1048576):
 Calls prog 45 #[.agg #[.slice a1 nj c1,.slice a2 nb c2,.slice a3 nh c3],.slice al H.length cl] w (LoadsSays nj (nb+nh) H vs w):=by
 obtain⟨HL,HV,HG⟩:=Ib hl hv (RBag.start hg);clear hl hv hg;obtain⟨G,ag⟩:=nm w.heap.size;obtain⟨V,hV⟩:=nm ((w.alloc (.cells #[.slice a1 nj c1,.slice a2 nb c2,.slice a3 nh c3] 26)).alloc (.cells #[.int .i64 0,.int .i64 0] 41));have A:=Ub hV;have I:=Ug hV ag;have L:=Uh hV ag;obtain⟨am,an⟩:=Ia hV ag;have cd:O (V.heap.size=G+1+1):=Hi (by rw[<-hV,<-ag];simp);have M:w.heap.size<=G+1:=by omega
 clear hV ag;go_enter func45,ntmps45;by_cases cf:20<H.length
 .
  have q0:((H.length:Int) > 20):=by omega
  obtain⟨x0,x1,x2,-⟩:=zc (I.o.below bR I.o.lt);have ao:=Hi (Qk4 a1 a2 a3 c1 c2 c3 nj nb nh V n2 n3);rw[<-am.o] at x0 x1 x2;rw[<-an.o] at x0 x1 x2;go_wp2_with fail;rw[am.o];simp only[an.o];clear x0 x1 x2;go_fit ao.o;rintro e v1 ⟨rfl,P⟩;obtain⟨ah,r⟩:=Ia (ref_F 2 ((nb:Int)+(nh:Int)) v1) P;clear P;go_wp2_with fail;go_fit ah.o;rintro e v2 ⟨rfl,Q⟩;have E:=Hi (r.o.trans (Q.mono r.o.size));clear Q;have c:=L.o.below E.o L.o.lt;obtain⟨z0,z1,-⟩:=zc c;have f0:=c.free 0;have f1:=c.free 1;have R:=Hi c;clear c;go_wp2
  refine bodyPost_ret (Qbk rfl _ _ (G+1) 41 #[.int .i64 (2),.int .i64 ((nb:Int)+(nh:Int))] (0,0) _ rfl ((R.o.set 0 _).set 1 _) underlying41 rfl Tryz.faultInfo) rfl ?_;refine⟨((A.o.trans (E.o.mono A.o.size)).setCell (p:=⟨G+1,0,none⟩) M _).setCell (p:=⟨G+1,1,none⟩) M _,2,_,.inl ⟨cf,rfl,?_⟩,.inl ⟨by decide,rfl⟩⟩;omega
 .
  have q0:¬((H.length:Int) > 20):=by omega
  obtain⟨N,hN⟩:=nm (2*nj);have eN:IntKind.i64.wrap (2*(nj:Int))=(N:Int):=by rw[Qam _ (by omega) (by omega)];omega
  have bk:=fun w=>Qqg N (by omega) w
  obtain⟨MC,a4⟩:=nm ((List.replicate N (Value.pointer none)).toArray);rw[a4] at bk;obtain⟨V1,ap⟩:=nm (V.alloc (.cells MC 63));obtain⟨g,aq⟩:=nm V.heap.size;have bl:=Ua ap;have cg:O (Noughts V1 g N 0 []):=Hi ⟨by rw[<-ap,<-aq,<-a4];exact SB.new V _ _,(fun t ht=>by cases ht),rfl,(fun t ht=>by cases ht)⟩;have a5:=Hi hN;have c7:N<=20:=by omega
  obtain⟨ch,a6⟩:=Ia ap aq;have bm:O (G+1+1=g):=Hi (by rw[<-aq];exact cd.o.symm);obtain⟨x0,x1,x2,-⟩:=zc (I.o.below bR I.o.lt);rw[<-am.o] at x0 x1 x2;rw[<-an.o] at x0 x1 x2;clear hN a4 ap aq;go_wp2_with fail;rw[am.o,ch.o];simp only[an.o];rw[bm.o];clear x0 x1 x2 bk;go_loopw [23] (fun iv wr=>∃(k:Nat) (ts:List RT),k<=N/\iv=.int .i64 k/\Noughts wr g N k ts/\Below V.heap.size V wr) (fun iv _=>N - (intOf iv).toNat)
  case atStart=>exact⟨0,[],Nat.zero_le _,rfl,cg.o,bl.o⟩
  case round=>
   obtain⟨k,ts,hk,rfl,bn,ad⟩:=hrel;obtain⟨bo,z⟩:=Ia bn ad;clear bn ad;by_cases ci:k<N
   .
    have q1:((k:Int)<(N:Int)):=by omega
    have cj:=Hi (RBag.nought ((HG.o.below (A.o.trans (z.o.mono A.o.size))).rebase));go_wp2_with fail;go_fit cj.o;rintro e w2 ⟨b,rfl,a⟩;have E:=Hi a.base;have ck:=Hi (a.ts _ (List.Mem.head _)).1;have ae:=bo.o.below a.base;have f0:=ae.blk.free k;have t0:w2.cell? ⟨g,k,none⟩=some (.pointer none):=by
     rw[ae.blk.cell];have e:(ts.map ptrV++List.replicate (N - k) (Value.pointer none)).toArray[k]?=(ts.map ptrV++List.replicate (N - k) (Value.pointer none))[k]?:=by simp
     rw[e,List.getElem?_append_right (by rw[List.length_map,ae.len];exact Nat.le_refl _),List.length_map,ae.len,Nat.sub_self,List.getElem?_replicate,if_pos (by omega)]
    have cm:=Hi ae;clear a ae;go_wp2;go_roundw
    case rel=>exact⟨k+1,_,by omega,by go_num,cm.o.step ci ck.o,(z.o.trans (E.o.mono z.o.size)).setCell (p:=⟨g,k,none⟩) (show V.heap.size<=g by have:=a6.o;omega) _⟩
    case measure=>simp[intOf];omega
   .
    obtain rfl:k=N:=by omega
    have f:=Hi (LSum.start (vs:=vs) bo.o);go_wp2_with fail;go_loopw [33] (fun iv wr=>∃(m:Nat) (ts:List RT),m<=H.length/\iv=.int .i64 m/\LSum wr g k m vs ts/\(∀(i:Nat) (x:L3),i<m->H[i]?=some x->IsJ nj x.j)/\Below V.heap.size V wr) (fun iv _=>H.length - (intOf iv).toNat)
    case atStart=>exact⟨0,ts,Nat.zero_le _,rfl,f.o,fun i x hi=>absurd hi (Nat.not_lt_zero _),z.o⟩
    case round=>
     obtain⟨m,ts,hm,rfl,br,az,ad⟩:=hrel;obtain⟨f,ar,z,W⟩:=Ic br az ad (A.o.trans (ad.mono A.o.size));clear br az ad;by_cases cn:m<H.length
     .
      obtain⟨l,hl⟩:∃l,H[m]?=some l:=⟨H[m],gE cn⟩;obtain⟨p,hp⟩:∃p,vs[m]?=some p:=⟨vs[m]'(by have:=HV.o.len;omega),gE _⟩;obtain⟨bs,bt,bu,da,db⟩:=HV.o.at_ m l p hl hp;obtain⟨lb,lo,rfl,dc,d0,d1,d2⟩:=(HL.o.below W.o).load hl;have q1:((m:Int)<(H.length:Int)):=by omega
      obtain⟨a7,cp,cq,cr,cs⟩:=Id hl hp bt bu bs;clear hl hp bt bu bs;by_cases hj:IsJ nj l.j
      .
       obtain⟨ct,cu⟩:=hj;obtain⟨J,hJ⟩:∃J:Nat,l.j=(J:Int):=⟨l.j.toNat,by omega⟩;have HJ:=Hi hJ;have dd:J<nj:=by omega
       have au:O (p.1=J):=Hi (by have:=cs.o;omega);rw[hJ] at d0;clear ct cu hJ;obtain⟨X0,B⟩:=nm (wr.alloc (.cells #[.int .i64 J,.string l.x,.string l.y] 36));have F:=Ua B;have T:=Uc B;have C:=Hi (z.o.trans (F.o.mono z.o.size));obtain⟨u,-⟩:=zc T.o;obtain⟨x0,x1,x2,-⟩:=zc (I.o.below C.o I.o.lt);have av:=Hi B;rw[<-B] at u x0 x1 x2;clear B;have g1:¬((J:Int)<0):=by omega
       have g2:¬((J:Int)≥(nj:Int)):=by omega
       obtain⟨X,hX⟩:=nm (2*J);obtain⟨Y,hY⟩:=nm (2*J+1);have wX:IntKind.i64.wrap (2*(J:Int))=(X:Int):=by rw[Qam _ (by omega) (by omega)];omega
       have wY:IntKind.i64.wrap ((X:Int)+1)=(Y:Int):=by rw[Qam _ (by omega) (by omega)];omega
       have de:X<k:=by have:=a5.o;omega
       have df:Y<k:=by have:=a5.o;omega
       have iX:(X:Int)<(k:Int):=by omega
       have iY:(Y:Int)<(k:Int):=by omega
       have cv:O (X≠Y):=Hi (by omega);obtain⟨⟨tb,tq,tk⟩,ai⟩:∃t,ts[X]?=some t:=⟨ts[X]'(by have:=f.o.len;omega),gE _⟩;obtain⟨⟨ub,uq,uk⟩,aj⟩:∃t,ts[Y]?=some t:=⟨ts[Y]'(by have:=f.o.len;omega),gE _⟩;obtain⟨KM,af⟩:=nm (kL m);have dg:KM<=83886121:=by rw[<-af];simp only[kL];omega
       have bv:O (kL (m+1)=KM+4194306):=Hi (by rw[<-af];exact Qqi m);have a8:tk<=KM:=by rw[<-af];exact(f.o.q X _ ai).2
       have a9:uk<=KM:=by rw[<-af];exact(f.o.q Y _ aj).2
       have vt:=f.o.blk.vs _ (mO ai);have vu:=f.o.blk.vs _ (mO aj);have ba:O (RatVal wr tb tq/\Fits tq KM/\0<KM):=Hi ⟨vt.1,vt.2.1.mono a8,Nat.lt_of_lt_of_le vt.2.2 a8⟩;have bw:O (RatVal wr ub uq/\Fits uq KM/\0<KM):=Hi ⟨vu.1,vu.2.1.mono a9,Nat.lt_of_lt_of_le vu.2.2 a9⟩;have cw:O (ts[2*p.1]?=some (tb,tq,tk)):=Hi (by rw[au.o,hX];exact ai);have bx:O (ts[2*p.1+1]?=some (ub,uq,uk)):=Hi (by rw[au.o,hY];exact aj);have bz:O (2*p.1=X):=Hi (by rw[au.o,hX]);have b0:O (2*p.1+1=Y):=Hi (by rw[au.o,hY]);have bb:O (X0.cell? ⟨g,X,none⟩=some (.pointer (some ⟨tb,0,none⟩))):=Hi ((f.o.blk.below F.o).cell ai);have aw:O (wr.cell? ⟨g,Y,none⟩=some (.pointer (some ⟨ub,0,none⟩))):=Hi (f.o.blk.cell aj);have aa:O (X0.cell? ⟨wr.heap.size,0,none⟩=some (.int .i64 (J:Int))):=Hi (T.o.cell 0)
       have bc:O (X0.cell? ⟨wr.heap.size,1,none⟩=some (.string l.x)):=Hi (T.o.cell 1);have b4:g<X0.heap.size:=(f.o.blk.below F.o).blk.lt;have b5:=T.o.lt;have s:O (RBag X0 X0 [(tb,tq,KM)]):=Hi (((HG.o.below (W.o.trans (F.o.mono W.o.size))).rebase).put (ba.o.1.below F.o) ba.o.2.1 ba.o.2.2);have dh:=Hi af;clear hX hY ai aj af a8 a9 vt vu;go_wp2_with fail;rw[av.o];clear u x0 x1 x2 d0 d1 d2;have u:=aa.o;have c1:=bc.o;have o0:=bb.o;refine AnyBut.begin (S:=fun D:World=>D.cell? ⟨wr.heap.size,0,none⟩=some (.int .i64 (J:Int))/\D.cell? ⟨wr.heap.size,1,none⟩=some (.string l.x)/\D.cell? ⟨g,X,none⟩=some (.pointer (some ⟨tb,0,none⟩))) (k:=16) (by kernel_rfl) ?_
       have d:(fun D:World=>D.cell? ⟨wr.heap.size,0,none⟩=some (.int .i64 (J:Int))/\D.cell? ⟨wr.heap.size,1,none⟩=some (.string l.x)/\D.cell? ⟨g,X,none⟩=some (.pointer (some ⟨tb,0,none⟩))) X0.drew:=⟨u,c1,o0⟩;refine Plan.of [0,1,2,3,4,5,6,7,8,9,10,11,12] ?_
       iterate 13
        refine AnyBut.bp (v:=?_) (by rfl) (by kernel_rfl) (by kernel_rfl) (by kernel_rfl) (by kernel_rfl) (by exact fun _ _ _ h=>h) d (Or.inl ⟨by rfl,?_⟩) ?_
        rotate_left 1
        (focus(intro w ab;(try dsimp only at ab);go_simp;(try with_reducible rfl)));(try simp only[Act.put,sA,sB,sC])
       refine Plan.done ?_;clear d;refine AnyBut.one (i:=13) (by kernel_rfl) rfl (fun K U=>?_);go_simp;apply cM;apply RBag.of (w0:=X0) (n:=1048576);exact s.o.drew;omega;omega;rintro e wo ⟨q,hq,bq,rfl,a⟩;rw[hq.inj cq.o] at a;clear s;have s:=Hi a;clear hq a;clear u c1 o0;obtain⟨u,c1⟩:=Ja s.o.base b5 aa.o bc.o;have o0:=ce s.o.base b4 bb.o;refine U.out _ _ (fun _=>⟨u,c1,o0⟩) ?_;clear U K;(try simp only[Act.put,sA,sB,sC]);refine AnyBut.one (i:=14) (by kernel_rfl) rfl (fun K U=>?_);go_simp;apply cM;apply RBag.add (w0:=X0);exact s.o;(repeat(first|exact mH|apply mT))
       omega;rintro e wn ⟨b3,rfl,a⟩;clear s;have s:=Hi a;clear a;clear u c1 o0;obtain⟨u,c1⟩:=Ja s.o.base b5 aa.o bc.o;have o0:=ce s.o.base b4 bb.o;have f0:=((f.o.blk.below F.o).below s.o.base).blk.free X;refine U.out _ _ (fun _=>⟨u,c1,o0⟩) ?_;clear U K;(try simp only[Act.put,sA,sB,sC]);have d:(fun D:World=>D.cell? ⟨wr.heap.size,0,none⟩=some (.int .i64 (J:Int))/\D.cell? ⟨wr.heap.size,1,none⟩=some (.string l.x)/\D.cell? ⟨g,X,none⟩=some (.pointer (some ⟨tb,0,none⟩))) wn:=⟨u,c1,o0⟩;refine AnyBut.take (i:=15) (v:=?_) rfl (by kernel_rfl) (by kernel_rfl) (by kernel_rfl) (by kernel_rfl) (fun _ _ _ h=>h) (Or.inl ⟨by rfl,?_⟩) d ?_
       rotate_left 1
       (focus(intro w ab;(try dsimp only at ab);go_simp;(try with_reducible rfl)));(try simp only[Act.put,sA,sB,sC]);clear d;refine AnyBut.one (i:=16) (by kernel_rfl) rfl (fun K U=>?_);go_simp;refine U.out _ _ (fun h=>absurd rfl h) ?_;clear U K;(try simp only[Act.put,sA,sB,sC]);refine AnyBut.done (by kernel_rfl) ?_ _;clear u c1 o0 f0;have h1:=s.o.ts _ (List.Mem.head _);have r:=Hi (F.o.trans (s.o.base.mono F.o.size));have b7:O (RatVal wn b3 (tq+p.2.1)):=Hi h1.1;have a0:O (Fits (tq+p.2.1) (KM+4194306)):=Hi (h1.2.1.mono (by simp only;omega));obtain⟨Z,hZ⟩:=nm (wn.setCell ⟨g,X,none⟩ (.pointer (some ⟨b3,0,none⟩)));have ak:PBlk Z g (ts.set X (b3,tq+p.2.1,KM+4194306)):=by rw[<-hZ];exact(f.o.blk.below r.o).set h1.1 a0.o (by omega)
       have bd:Only g wn Z:=by rw[<-hZ];exact(Only.refl g wn).setCell _ _
       have b8:g<wr.heap.size:=f.o.blk.blk.lt;have ax:=(T.o.below s.o.base T.o.lt).only bd (by omega);have be:Bl w Z:=(W.o.trans (r.o.mono W.o.size)).trans (bd.below (by have e1:=a6.o;have e2:=A.o.size;omega) (Nat.le_trans W.o.size r.o.size));have bf:(ts.set X (b3,tq+p.2.1,KM+4194306))[Y]?=some (ub,uq,uk):=by rw[List.getElem?_set_ne cv.o,<-b0.o];exact bx.o
       have b9:=ak.vs _ (mO bf);have s:O (RBag Z Z [(ub,uq,KM)]):=Hi ((HG.o.below be).rebase.put b9.1 bw.o.2.1 bw.o.2.2);have aa:O (Z.cell? ⟨wr.heap.size,0,none⟩=some (.int .i64 (J:Int))):=Hi (ax.cell 0);have bg:O (Z.cell? ⟨wr.heap.size,2,none⟩=some (.string l.y)):=Hi (ax.cell 2);have aw:O (Z.cell? ⟨g,Y,none⟩=some (.pointer (some ⟨ub,0,none⟩))):=Hi (ak.cell bf);have ca:=ax.lt;have cb:=ak.blk.lt;obtain⟨cx,ay,di⟩:=Ib ak hZ be;have u:=aa.o;have c2:=bg.o;have o1:=aw.o;clear h1 ak bd b8 ax be bf b9 hZ;go_wp2_with fail;rw[ay.o];refine AnyBut.begin (S:=fun D:World=>D.cell? ⟨wr.heap.size,0,none⟩=some (.int .i64 (J:Int))/\D.cell? ⟨wr.heap.size,2,none⟩=some (.string l.y)/\D.cell? ⟨g,Y,none⟩=some (.pointer (some ⟨ub,0,none⟩))) (k:=18) (by kernel_rfl) ?_
       have d:(fun D:World=>D.cell? ⟨wr.heap.size,0,none⟩=some (.int .i64 (J:Int))/\D.cell? ⟨wr.heap.size,2,none⟩=some (.string l.y)/\D.cell? ⟨g,Y,none⟩=some (.pointer (some ⟨ub,0,none⟩))) Z.drew:=⟨u,c2,o1⟩;refine Plan.of [0,1,2,3,4,5,6,7,8,9,10,11,12,13,14] ?_
       iterate 15
        refine AnyBut.bp (v:=?_) (by rfl) (by kernel_rfl) (by kernel_rfl) (by kernel_rfl) (by kernel_rfl) (by exact fun _ _ _ h=>h) d (Or.inl ⟨by rfl,?_⟩) ?_
        rotate_left 1
        (focus(intro w ab;(try dsimp only at ab);go_simp;(try with_reducible rfl)));(try simp only[Act.put,sA,sB,sC])
       refine Plan.done ?_;clear d;refine AnyBut.one (i:=15) (by kernel_rfl) rfl (fun K U=>?_);go_simp;apply cM;apply RBag.of (w0:=Z) (n:=1048576);exact s.o.drew;omega;omega;rintro e wo ⟨q,hq,bq,rfl,a⟩;rw[hq.inj cr.o] at a;clear s;have s:=Hi a;clear hq a;clear u c2 o1;obtain⟨u,c2⟩:=Ja s.o.base ca aa.o bg.o;have o1:=ce s.o.base cb aw.o;refine U.out _ _ (fun _=>⟨u,c2,o1⟩) ?_;clear U K;(try simp only[Act.put,sA,sB,sC]);refine AnyBut.one (i:=16) (by kernel_rfl) rfl (fun K U=>?_);go_simp;apply cM;apply RBag.add (w0:=Z);exact s.o;(repeat(first|exact mH|apply mT))
       omega;rintro e wm ⟨b6,rfl,a⟩;clear s;have s:=Hi a;clear a;clear u c2 o1;obtain⟨u,c2⟩:=Ja s.o.base ca aa.o bg.o;have o1:=ce s.o.base cb aw.o;have f0:=(cx.o.below s.o.base).blk.free Y;refine U.out _ _ (fun _=>⟨u,c2,o1⟩) ?_;clear U K;(try simp only[Act.put,sA,sB,sC]);have d:(fun D:World=>D.cell? ⟨wr.heap.size,0,none⟩=some (.int .i64 (J:Int))/\D.cell? ⟨wr.heap.size,2,none⟩=some (.string l.y)/\D.cell? ⟨g,Y,none⟩=some (.pointer (some ⟨ub,0,none⟩))) wm:=⟨u,c2,o1⟩;refine AnyBut.take (i:=17) (v:=?_) rfl (by kernel_rfl) (by kernel_rfl) (by kernel_rfl) (by kernel_rfl) (fun _ _ _ h=>h) (Or.inl ⟨by rfl,?_⟩) d ?_
       rotate_left 1
       (focus(intro w ab;(try dsimp only at ab);go_simp;(try with_reducible rfl)));(try simp only[Act.put,sA,sB,sC]);clear d;refine AnyBut.one (i:=18) (by kernel_rfl) rfl (fun K U=>?_);go_simp;refine U.out _ _ (fun h=>absurd rfl h) ?_;clear U K;(try simp only[Act.put,sA,sB,sC]);refine AnyBut.done (by kernel_rfl) ?_ _;clear u c2 o1 f0;have h2:=s.o.ts _ (List.Mem.head _);have bh:=f.o.step (b1:=b3) (b2:=b6) (w1:=wn) cp.o cw.o bx.o r.o b7.o (by rw[bv.o];exact a0.o) (w2:=wm) (by
        rw[bz.o,ay.o];have e:=s.o.base;unfold Bl at e;have es:Z.heap.size=wn.heap.size:=by rw[<-ay.o];simp[World.setCell]
        rw[es] at e
        exact e) h2.1 (by rw[bv.o];exact h2.2.1.mono (by simp only;omega))
       rw[b0.o,bz.o] at bh;have cy:=Hi bh;have cz:O (Bl V (wm.setCell ⟨g,Y,none⟩ (.pointer (some ⟨b6,0,none⟩)))):=Hi (by
        have e1:V.heap.size<=g:=by have:=a6.o;omega
        have b1:Bl V wn:=z.o.trans (r.o.mono z.o.size);have b2:Bl V Z:=by rw[<-ay.o];exact b1.setCell (p:=⟨g,X,none⟩) e1 _
        exact(b2.trans (s.o.base.mono b2.size)).setCell (p:=⟨g,Y,none⟩) e1 _)
       have c4:O (∀(i:Nat) (x:L3),i<m+1->H[i]?=some x->IsJ nj x.j):=Hi (fun i x hi hx=>by
        by_cases c5:i<m
        . exact ar.o i x c5 hx
        .
         obtain rfl:i=m:=by omega
         obtain rfl:=Option.some.inj (a7.o.symm.trans hx);rw[HJ.o]
         exact⟨by omega,by omega⟩)
       clear h2 bh;go_wp2;go_roundw
       case rel=>exact⟨m+1,_,by omega,by go_num,cy.o,c4.o,cz.o⟩
       case measure=>simp[intOf];omega
      .
       obtain⟨j,bi⟩:=nm l.j;rw[bi] at d0 hj;obtain⟨cc,bj⟩:=Ia bi hj;clear bi;obtain⟨X0,B⟩:=nm (wr.alloc (.cells #[.int .i64 j,.string l.x,.string l.y] 36));have F:=Ua B;have T:=Uc B;have C:=Hi (z.o.trans (F.o.mono z.o.size));obtain⟨u,-⟩:=zc T.o;obtain⟨x0,x1,x2,-⟩:=zc (I.o.below C.o I.o.lt);have av:=Hi B;rw[<-B] at u x0 x1 x2;clear B;have ao:=Hi (Qk4 a1 a2 a3 c1 c2 c3 nj nb nh X0 n2 n3)
       have wS:IntKind.i64.wrap ((nb:Int)+(nh:Int)+(m:Int))=(nb:Int)+(nh:Int)+(m:Int):=Qam _ (by omega) (by omega);by_cases c8:j<0
       .
        go_wp2_with fail;rw[av.o];clear u x0 x1 x2 d0 d1 d2;go_fit ao.o;rintro e v1 ⟨rfl,P⟩;obtain⟨r,ah⟩:=Ia (C.o.trans (P.mono C.o.size)) (ref_F 4 ((nb:Int)+(nh:Int)+(m:Int)) v1);clear P;go_wp2_with fail;go_fit ah.o;rintro e v2 ⟨rfl,Q⟩;have E:=Hi (r.o.trans (Q.mono r.o.size));clear Q;have c:=L.o.below E.o L.o.lt;obtain⟨z0,z1,-⟩:=zc c;have f0:=c.free 0;have f1:=c.free 1;have R:=Hi c;clear c;go_wp2;refine bodyPost_ret (Qbk rfl _ _ (G+1) 41 #[.int .i64 (4),.int .i64 ((nb:Int)+(nh:Int)+(m:Int))] (0,0) _ rfl ((R.o.set 0 _).set 1 _) underlying41 rfl Tryz.faultInfo) rfl ?_
        refine⟨((A.o.trans (E.o.mono A.o.size)).setCell (p:=⟨G+1,0,none⟩) M _).setCell (p:=⟨G+1,1,none⟩) M _,4,_,.inr ⟨by omega,.inl ⟨m,l,a7.o,ar.o,fun h=>bj.o (cc.o ▸ h),rfl,?_⟩⟩,.inl ⟨by decide,rfl⟩⟩;omega
       .
        have dj:(j≥(nj:Int)):=Int.not_lt.1 fun h=>bj.o ⟨by omega,h⟩
        go_wp2_with fail;rw[av.o];clear u x0 x1 x2 d0 d1 d2;go_fit ao.o;rintro e v1 ⟨rfl,P⟩;obtain⟨r,ah⟩:=Ia (C.o.trans (P.mono C.o.size)) (ref_F 4 ((nb:Int)+(nh:Int)+(m:Int)) v1);clear P;go_wp2_with fail;go_fit ah.o;rintro e v2 ⟨rfl,Q⟩;have E:=Hi (r.o.trans (Q.mono r.o.size));clear Q;have c:=L.o.below E.o L.o.lt;obtain⟨z0,z1,-⟩:=zc c;have f0:=c.free 0;have f1:=c.free 1;have R:=Hi c;clear c;go_wp2;refine bodyPost_ret (Qbk rfl _ _ (G+1) 41 #[.int .i64 (4),.int .i64 ((nb:Int)+(nh:Int)+(m:Int))] (0,0) _ rfl ((R.o.set 0 _).set 1 _) underlying41 rfl Tryz.faultInfo) rfl ?_
        refine⟨((A.o.trans (E.o.mono A.o.size)).setCell (p:=⟨G+1,0,none⟩) M _).setCell (p:=⟨G+1,1,none⟩) M _,4,_,.inr ⟨by omega,.inl ⟨m,l,a7.o,ar.o,fun h=>bj.o (cc.o ▸ h),rfl,?_⟩⟩,.inl ⟨by decide,rfl⟩⟩;omega
     .
      obtain rfl:m=H.length:=by omega
      have c:=L.o.below z.o L.o.lt;obtain⟨z0,z1,-⟩:=zc c;have f0:=c.free 0;have f1:=c.free 1;have R:=Hi c;clear c;have c6:O (∀(i:Nat) (t:RT),ts[i]?=some t->t.2.1= -agn vs i/\t.2.2<=kL 20):=Hi (fun i t ht=>by
       obtain⟨h1,h2⟩:=f.o.q i t ht;rw[<-HV.o.len,List.take_length] at h1
       exact⟨h1,Nat.le_trans h2 (by simp only[kL];omega)⟩)
      go_wp2;refine bodyPost_ret (Qbk rfl _ _ (G+1) 41 #[.int .i64 (0),.int .i64 (0)] (0,0) _ rfl ((R.o.set 0 _).set 1 _) underlying41 rfl Tryz.faultInfo) rfl ?_;have ho:Only (G+1) wr ((wr.setCell ⟨G+1,0,none⟩ (.int .i64 0)).setCell ⟨G+1,1,none⟩ (.int .i64 0)):=((Only.refl _ _).setCell _ _).setCell _ _;refine⟨(W.o.setCell (p:=⟨G+1,0,none⟩) M _).setCell (p:=⟨G+1,1,none⟩) M _,0,0,.inr ⟨by omega,.inr ⟨fun i x hx=>ar.o i x (gZ hx).1 hx,rfl,rfl⟩⟩,.inr ⟨rfl,g,k,ts,a5.o.symm,rfl,⟨f.o.blk.blk.only ho (by have:=bm.o;omega),fun t ht=>?_⟩,f.o.len,c6.o⟩⟩;obtain⟨v1,v2,v3⟩:=f.o.blk.vs t ht;exact⟨v1.only32 ho R.o (by decide) (fun i n h=>by match i,h with|0,h=>simp at h|1,h=>simp at h|i+2,h=>simp at h),v2,v3⟩
def LoadsOfSays(js:List S2)(bs:List B6)(hs:List H3)(ls:List L3)(vs:List (Nat × Rat × Rat))(w:Vz)(e:Ending)(w':Vz):Prop:=
 Below w.heap.size w w'/\∃(lv:Value) (c at_:Int),e=.returned (.tuple #[lv,.agg #[.int .i64 c,.int .i64 at_]])/\
  ((c≠0/\FrameFault js bs hs c at_/\lv=.slice none 0 0)∨
   (FrameFault js bs hs 0 0/\LoadsFault js.length (bs.length+hs.length) ls c at_/\((c≠0/\lv=.slice none 0 0)∨
     (c=0/\at_=0/\∃(g N:Nat) (ts:List RT),N=2*js.length/\lv=.slice (some ⟨g,0,none⟩) N N/\PBlk w' g ts/\ts.length=N/\∀(i:Nat) (t:RT),ts[i]?=some t->t.2.1= -agn vs i/\t.2.2<=kL 20))))
theorem LoadsFault.zero{b c:Nat}{a:List L3}{x:Int}(h:LoadsFault b c a 0 x):a.length<=20/\(∀(i:Nat) (y:L3),a[i]?=some y->IsJ b y.j)/\x=0:=by
 rcases h with ⟨_,h,_⟩|⟨d,⟨_,_,_,_,_,h,_⟩|⟨e,_,f⟩⟩
 . cases h
 . cases h
 . exact⟨d,e,f⟩
theorem Qjg(F H I X:Vx)(c1 c2 c3 Y:Nat)(v:List S2)(x:List B6)(y:List H3)(E:List L3)(vs:List (Nat × Rat × Rat))(w:Vz)(hg:Glob w)(hf:FrRow w F H I c1 c2 c3 v x y)(hz:FrSized v x y)(hl:ARow L3.cells w X Y E)(hv:LVal E vs)(Z:E.length<=1048576):
 Calls prog 10 #[.agg #[.slice F v.length c1,.slice H x.length c2,.slice I y.length c3],.slice X E.length Y] w (LoadsOfSays v x y E vs w):=by
 obtain⟨HG,HF,HZ,HL,aa⟩:=Id hg hf hz hl hv;clear hg hf hz hl hv;obtain⟨b,l⟩:=nm w.heap.size;obtain⟨V,hV⟩:=nm ((w.alloc (.cells #[.slice F v.length c1,.slice H x.length c2,.slice I y.length c3] 26)).alloc (.cells #[.int .i64 0,.int .i64 0] 41));have m:=Ub hV;have J:=Ug hV l;have z:=Uh hV l;obtain⟨ab,ad⟩:=Ia hV l;have d:w.heap.size<=b+1:=by omega
 have K:=Hi (Qtg F H I c1 c2 c3 v x y V (HG.o.below m.o) (HF.o.below m.o) HZ.o);clear hV l;go_enter func10,ntmps10;go_wp2_with fail;rw[ab.o];simp only[ad.o];go_fit K.o;rintro e w1 ⟨c,A,rfl,L,q⟩;obtain⟨U,M⟩:=nm (w1.alloc (.cells #[.int .i64 c,.int .i64 A] 41));obtain⟨G,hG⟩:=nm w1.heap.size;have a:Bl V U:=by rw[<-M];exact q.alloc q.size _
 obtain⟨ak,j,ae,f⟩:=Ic a (m.o.trans (a.mono m.o.size)) (J.o.below a J.o.lt) (z.o.below a z.o.lt);have af:=Uf M hG;have r:=Hi L;obtain⟨p0,p1,-⟩:=zc af.o;obtain⟨x0,x1,x2,-⟩:=zc ae.o;obtain⟨z0,z1,-⟩:=zc f.o;have f0:=f.o.free 0;have f1:=f.o.free 1;have O:b+1≠G:=by have h1:=z.o.lt;have h2:=q.size;omega
 obtain⟨P,am⟩:=Ia M hG;rw[<-M] at p0 p1 x0 x1 x2 z0 z1 f0 f1;rw[<-hG] at p0 p1 O;clear a L M hG q K;by_cases hc:c=0
 .
  subst hc;obtain⟨s,_,_,rfl⟩:=r.o.few;have n1:v.length<=10:=Nat.le_of_not_lt fun h=>s (.inr (.inl h))
  have n2:x.length<=24:=Nat.le_of_not_lt fun h=>s (.inr (.inr (.inl h)))
  have n3:y.length<=20:=Nat.le_of_not_lt fun h=>s (.inr (.inr (.inr h)))
  have ag:=Hi (Qqj F H I X c1 c2 c3 Y v.length x.length y.length E vs U (HG.o.below j.o).most (HL.o.below j.o) aa.o n1 n2 n3 Z);clear s;go_wp2_with fail;rw[P.o];clear p0 p1 x0 x1 x2 z0 z1 f0 f1 O;go_fit ag.o;rintro e w2 ⟨B,c',x',Q,R⟩;obtain⟨C,S⟩:=Ia Q (j.o.trans (B.mono j.o.size));have k:=f.o.below B f.o.lt;obtain⟨z0,z1,-⟩:=zc k;have f0:=k.free 0;have f1:=k.free 1;have u:=Hi k;clear k Q B;rcases R with ⟨ah,rfl⟩|⟨rfl,g,N,ts,hN,rfl,T,W,hq⟩
  .
   go_wp2;refine bodyPost_ret (Qbk rfl _ _ (b+1) 41 #[.int .i64 c',.int .i64 x'] (0,0) _ rfl ((u.o.set 0 _).set 1 _) underlying41 rfl Tryz.faultInfo) rfl ?_;exact⟨(S.o.setCell (p:=⟨b+1,0,none⟩) d _).setCell (p:=⟨b+1,1,none⟩) d _,_,c',x',rfl,.inr ⟨r.o,C.o,.inl ⟨ah,rfl⟩⟩⟩
  .
   obtain⟨D,ai,HQ,HN⟩:=Ic T W hq hN;have aj:=C.o.zero.2.2;subst aj;clear T W hq hN;go_wp2;refine bodyPost_ret (Qbk rfl _ _ (b+1) 41 #[.int .i64 0,.int .i64 0] (0,0) _ rfl ((u.o.set 0 _).set 1 _) underlying41 rfl Tryz.faultInfo) rfl ?_;have ho:Only (b+1) w2 ((w2.setCell ⟨b+1,0,none⟩ (.int .i64 0)).setCell ⟨b+1,1,none⟩ (.int .i64 0)):=((Only.refl _ _).setCell _ _).setCell _ _;refine⟨(S.o.setCell (p:=⟨b+1,0,none⟩) d _).setCell (p:=⟨b+1,1,none⟩) d _,_,0,0,rfl,.inr ⟨r.o,C.o,.inr ⟨rfl,rfl,g,N,ts,HN.o,rfl,⟨D.o.blk.only ho (D.o.blk.unlike u.o (by decide)),fun t ht=>?_⟩,ai.o,HQ.o⟩⟩⟩;obtain⟨v1,v2,v3⟩:=D.o.vs t ht;exact⟨v1.only32 ho u.o (by decide) (fun i n h=>by match i,h with|0,h=>simp at h|1,h=>simp at h|i+2,h=>simp at h),v2,v3⟩
 .
  have e0:(c != 0)=true:=by simpa using hc
  go_wp2;go_region
  all_goals
   go_wp2;rw[P.o];refine bodyPost_ret (Qbk rfl _ _ (b+1) 41 #[.int .i64 c,.int .i64 A] (0,0) _ rfl ((f.o.set 0 _).set 1 _) underlying41 rfl Tryz.faultInfo) rfl ?_;exact⟨((j.o.setCell (p:=⟨b+1,0,none⟩) d _).setCell (p:=⟨b+1,1,none⟩) d _).drew,_,c,A,rfl,.inl ⟨hc,r.o,rfl⟩⟩
theorem Ql3(r x:Vec):∀n,dot (2*n) r x=sumQ n (fun q=>r (2*q)*x (2*q)+r (2*q+1)*x (2*q+1))
 |0=>rfl
 |n+1=>by
  rw[show 2*(n+1)=2*n+1+1 by omega]
  show dot (2*n) r x+r (2*n)*x (2*n)+r (2*n+1)*x (2*n+1)=sumQ n _+_
  rw[Ql3 r x n];grind
theorem Qwh{n:Nat}{p:Nat × Nat × Rat × Rat}(v:Vec)(c:p.1<n)(d:p.2.1<n)(e:p.1≠p.2.1):dot (2*n) (fun i=>if i<2*n then barAt p i else 0) v= -(p.2.2.1*(v (2*p.2.1) - v (2*p.1))+p.2.2.2*(v (2*p.2.1+1) - v (2*p.1+1))):=by
 rw[Qac (2*n) _ v (barAt p) v (fun i f=>by rw[if_pos f]),Ql3,Qj4 n _ p.1 p.2.1 c d e (fun q _ j k=>?_)]
 .
  have a:barAt p (2*p.1)=p.2.2.1:=if_pos rfl;have b:barAt p (2*p.1+1)=p.2.2.2:=by unfold barAt;rw[if_neg (by omega),if_neg (by omega),if_pos rfl]
  have g:barAt p (2*p.2.1)= -p.2.2.1:=by unfold barAt;rw[if_neg (by omega),if_pos rfl]
  have h:barAt p (2*p.2.1+1)= -p.2.2.2:=by unfold barAt;rw[if_neg (by omega),if_neg (by omega),if_neg (by omega),if_pos rfl]
  simp only[a,b,g,h];grind
 .
  have a:barAt p (2*q)=0:=by unfold barAt;rw[if_neg (by omega),if_neg (by omega),if_neg (by omega),if_neg (by omega)]
  have b:barAt p (2*q+1)=0:=by unfold barAt;rw[if_neg (by omega),if_neg (by omega),if_neg (by omega),if_neg (by omega)]
  simp only[a,b];grind
section
open Go.ChangeShapes Go.WideShapes Go.ChangeAt Go.RowKit
theorem Qla:prog.cellsOf 36=3:=by kernel_rfl
theorem Qlb:prog.readableRec 27=true:=by kernel_rfl
theorem Qlc:27<prog.types.size:=by refine of_decide_eq_true ?_;kernel_rfl
section
variable {H:Type} {enc:TypeId × Value->H} {W:Vz}
theorem Quh{P:Program}{w:Vz}{c:Nat}{b:Nat->Bool}{d:Bool}{e:Nat}{g i j f:Vr}{f0 f1 k m:Field}{o:Vv}{x:DataW H × List MemPlace}(A:P.underlying g=some (.struct #[f0,f1]))(B:P.underlying i=some (.int .i64))(C:P.underlying j=some (.struct #[k,m]))(D:P.underlying f=some .string)(E:P.cellsOf g=3)(F:P.cellsOf i=1)(z:P.cellsOf j=2)(G:P.cellsOf f=1)
 (t0:f0.type=i) (t1:f1.type=j) (I:f0.offset=0) (J:f1.offset=1) (K:k.type=f) (L:m.type=f) (M:k.offset=0) (N:m.offset=1)
 (h:DataW.trod enc P w c b d e g o=some x):∃l:L3,o=l.cells/\x.1=loadD l:=by
 obtain⟨xs,n,rfl,rfl,hl,p,q⟩:=DataW.trod_struct A h;rw[E] at hl;clear h;have r:=q 0 f0 rfl;have u:=q 1 f1 rfl;rw[t0,I,F] at r;rw[t1,J,z] at u;clear q
 match o,hl,xs,p with
 | [v0,v1,v2],_,[y0,y1],_=>
   simp only[List.drop_zero,List.drop_succ_cons,List.take_succ_cons,List.take_zero,List.getElem?_cons_zero,List.getElem?_cons_succ] at r u;obtain⟨a,O,rfl,_⟩:=DataW.trod_int B r;obtain⟨s,t,v,Q,_⟩:=Qkn C D z G K L M N u;obtain rfl:v0=_:=by simpa using O
   injection v with v y
   injection y with y _
   subst v y;refine⟨⟨a,s,t⟩,rfl,?_⟩
   show DataW.agg [_,y1.1]=_
   rw[Q];rfl
theorem Qgw(l:L3):1<=Rows.uptoBulk (loadD (H:=H) l)/\l.x.size+l.y.size<=Rows.uptoBulk (loadD (H:=H) l):=by
 simp[loadD,textD,Rows.uptoBulk,Rows.uptoBulkAll];omega
theorem Qld:∀a:List S2,jW a<=Rows.uptoBulkAll (a.map (spotD (H:=H)))
 | []=>by simp[jW,Rows.uptoBulkAll]
 |s :: l=>by
  have b:=Qld l;have c:=(Qgt (H:=H) s).2;simp only[jW,List.map_cons,Rows.uptoBulkAll];omega
theorem Qgx:∀a:List L3,lW a<=Rows.uptoBulkAll (a.map (loadD (H:=H)))
 | []=>by simp[lW,Rows.uptoBulkAll]
 |s :: l=>by
  have b:=Qgx l;have c:=(Qgw (H:=H) s).2;simp only[lW,List.map_cons,Rows.uptoBulkAll];omega
theorem Qle{a:Vx}{n c:Nat}{d:DataW H}{i:List MemPlace}(h:DataW.Trod enc prog W 0 (fun _=>true) true 27 (.slice a n c) d i):
 ∃b:List L3,n=b.length/\ARow L3.cells W a c b/\Rows.uptoBulkAll (b.map (loadD (H:=H)))<=Rows.uptoBulk d:=by
 obtain⟨f,h⟩:=h;obtain⟨j,k,b,e,l,hl,m⟩:=Qei (c:=L3.cells) (dat:=loadD) (sz:=3) ⟨0,⟨#[]⟩,⟨#[]⟩⟩ (by decide) (fun _=>rfl) underlying27 Qla (fun f s x o=>Quh underlying36 underlying3 underlying34 underlying32 Qla cellsInt Qgm Qej rfl rfl rfl rfl rfl rfl rfl rfl o) h;have g: [Value.slice a n c]= [Value.slice j b.length k]:=e;injection g with g _
 injection g with p q r
 subst p q r;exact⟨b,rfl,l,Qcj lZ hl m⟩
end
end
def cmpQ(p q:Rat):Int:=cmpZ (p.num*(q.den:Int)) (q.num*(p.den:Int))
def FF(q:Rat)(k:Nat):Fact:=fun v w=>FracV w v q/\Fits q k/\0<k
theorem FF.stays(q:Rat)(k:Nat):Stays (FF q k):=fun _ _ _ a h=>⟨h.1.below a,h.2⟩
theorem FF.below{q:Rat}{k:Nat}{v:Value}{w a:Vz}(h:FF q k v w)(b:Bl w a):FF q k v a:=FF.stays q k v w a b h
def Makes(w:Vz)(φ:Fact)(e:Ending)(w':Vz):Prop:=∃v,e=.returned v/\Below w.heap.size w w'/\φ v w'
theorem Makes.use{P:Program}{f:FuncId}{a:Vw}{w:Vz}{φ:Fact}{R:Ending->World->Prop}(h:Calls P f a w (Makes w φ))(c:∀v b,Below w.heap.size w b->φ v b->R (.returned v) b):Calls P f a w R:=
 h.mono fun e b ⟨v,d,g,i⟩=>by subst d;exact c v b g i
theorem FNew.makes{w a:Vz}{q:Rat}{k:Nat}{e:Ending}(h:FNew w q e a)(b:Fits q k)(hk:0<k):Makes w (FF q k) e a:=by
 obtain⟨⟨v,rfl,c⟩,d⟩:=h;exact⟨v,rfl,d,c,b,hk⟩
theorem FF.plus{u v:Value}{p q:Rat}{j k:Nat}{w:Vz}(a:FF p j u w)(b:FF q k v w)(c:j+k<68719476000):Calls prog 64 #[u,v] w (Makes w (FF (p+q) (j+k+1))):=
 (Qnz a.1 b.1 a.2.1 b.2.1 c).mono fun e d h=>h.makes (a.2.1.add b.2.1) (by omega)
theorem FF.minus{u v:Value}{p q:Rat}{j k:Nat}{w:Vz}(a:FF p j u w)(b:FF q k v w)(c:j+k<68719476000):Calls prog 57 #[u,v] w (Makes w (FF (p - q) (j+k+1))):=
 (Qa7 a.1 b.1 a.2.1 b.2.1 c).mono fun e d h=>h.makes (a.2.1.sub b.2.1) (by omega)
theorem FF.times{u v:Value}{p q:Rat}{j k:Nat}{w:Vz}(a:FF p j u w)(b:FF q k v w)(c:j+k<68719476000):Calls prog 65 #[u,v] w (Makes w (FF (p*q) (j+k))):=
 (Qdq a.1 b.1 a.2.1 b.2.1 c).mono fun e d h=>h.makes (a.2.1.mul b.2.1 a.2.2) (by have:=a.2.2;omega)
theorem FF.over{u v:Value}{p q:Rat}{j k:Nat}{w:Vz}(a:FF p j u w)(b:FF q k v w)(c:j+k<68719476000):Calls prog 66 #[u,v] w (Makes w (FF (p / q) (j+k))):=
 (Qb8 a.1 b.1 a.2.1 b.2.1 c).mono fun e d h=>h.makes (a.2.1.div b.2.1 a.2.2 b.2.2) (by have:=a.2.2;omega)
theorem FF.isZero{u:Value}{p:Rat}{j:Nat}{w:Vz}(a:FF p j u w):Calls prog 129 #[u] w (Makes w (Is (.bool (decide (p=0))))):=
 (Qbt a.1).mono fun e b h=>⟨_,h.1,h.2,rfl⟩
theorem FF.of{s:Vs}{q:Rat}{n K:Nat}{w:Vz}(c:Glob w)(d:QOf s.data.toList q)(f:s.size<=n)(g:n<=1073741824)(h:4*n+1<=K):Calls prog 63 #[.string s] w (Makes w (FF q K)):=by
 refine((FBag.start c).of s f g).mono ?_;rintro e i ⟨j,a,x,y,z,rfl,b⟩;obtain rfl:=d.inj a;have:=b.get List.mem_cons_self;exact⟨_,rfl,b.base,this.1,this.2.1.mono h,by omega⟩
theorem FF.ofFits{s:Vs}{q:Rat}{K:Nat}{w:Vz}(a:Glob w)(b:QOf s.data.toList q)(c:s.size<=1073741824)(d:Fits q K)(f:0<K):Calls prog 63 #[.string s] w (Makes w (FF q K)):=
 (FF.of a b c lZ lZ).mono fun e j ⟨v,g,h,i⟩=>⟨v,g,h,i.1,d,f⟩
def TF(q:Rat):Fact:=fun v _=>∃s:Vs,v=.string s/\QText s.data.toList q
theorem TF.stays(q:Rat):Stays (TF q):=fun _ _ _ _ h=>h
theorem FF.text{u:Value}{p:Rat}{j:Nat}{w:Vz}(b:Glob w)(a:FF p j u w)(c:j<=274877906944):Calls prog 67 #[u] w (Makes w (TF p)):=
 (Qdr (b.tab (by unfold hasTen;kernel_rfl)) a.1 a.2.1 c).mono fun e g h=>by
   obtain⟨⟨s,rfl,d⟩,f⟩:=h;exact⟨_,rfl,f,s,rfl,d⟩
theorem FF.zero(w:Vz):FF 0 1 (.agg #[.bool false,.slice none 0 0,.slice none 0 0]) w:=⟨FracV.zero _,Fits.zero,by decide⟩
theorem FF.mono{q:Rat}{k k':Nat}{v:Value}{w:Vz}(h:FF q k v w)(hk:k<=k'):FF q k' v w:=⟨h.1,h.2.1.mono hk,Nat.lt_of_lt_of_le h.2.2 hk⟩
theorem FF.parts{q:Rat}{k:Nat}{v:Value}{w:Vz}(h:FF q k v w):∃x y z,v=.agg #[x,y,z]:=by
 obtain⟨⟨neg,a,n,c,b,m,d,rfl,_⟩,_⟩:=h;exact⟨_,_,_,rfl⟩
def RF(q:Rat)(k:Nat):Fact:=fun v w=>∃b,v=.pointer (some ⟨b,0,none⟩)/\RatVal w b q/\Fits q k/\0<k
theorem RF.stays(q:Rat)(k:Nat):Stays (RF q k):=fun _ _ _ a ⟨b,e,h,r⟩=>⟨b,e,h.below a,r⟩
theorem RF.below{q:Rat}{k:Nat}{v:Value}{w a:Vz}(h:RF q k v w)(b:Bl w a):RF q k v a:=RF.stays q k v w a b h
theorem NewRat.makes{w a:Vz}{q:Rat}{k:Nat}{e:Ending}(h:NewRat w q e a)(c:Fits q k)(hk:0<k):Makes w (RF q k) e a:=by
 obtain⟨⟨b,rfl,_,d⟩,f⟩:=h;exact⟨_,rfl,f,b,rfl,d,c,hk⟩
theorem RF.add{u v:Value}{p q:Rat}{j k:Nat}{w:Vz}(a:RF p j u w)(d:RF q k v w)(f:j+k<274877906000):Calls prog 32 #[u,v] w (Makes w (RF (p+q) (j+k+1))):=by
 obtain⟨b,rfl,g,f1,_⟩:=a;obtain⟨c,rfl,i,f2,_⟩:=d;exact(Qky b c j k p q w g i f1 f2 f).mono fun e l h=>h.makes (f1.add f2) (by omega)
theorem RF.mul{u v:Value}{p q:Rat}{j k:Nat}{w:Vz}(d:RF p j u w)(f:RF q k v w)(g:j+k<274877906000):Calls prog 34 #[u,v] w (Makes w (RF (p*q) (j+k))):=by
 obtain⟨b,rfl,i,f1,a⟩:=d;obtain⟨c,rfl,l,f2,_⟩:=f;exact(Qkz b c j k p q w i l f1 f2 g).mono fun e m h=>h.makes (f1.mul f2 a) (by omega)
theorem RF.of{s:Vs}{q:Rat}{K:Nat}{w:Vz}(b:Glob w)(c:QOf s.data.toList q)(d:s.size<=1073741824)(f:Fits q K)(g:0<K):Calls prog 36 #[.string s] w (Makes w (RF q K)):=by
 obtain⟨m,h⟩:=b.most;refine(Qkx s m w h d).mono ?_;rintro e j ⟨k,a,i⟩;obtain rfl:=c.inj a;exact i.makes f g
theorem RF.cmp{u v:Value}{p q:Rat}{j k:Nat}{w:Vz}(a:RF p j u w)(d:RF q k v w)(f:j+k<274877906000):Calls prog 31 #[u,v] w (Makes w (Is (.int .i64 (cmpQ p q)))):=by
 obtain⟨b,rfl,g,f1,_⟩:=a;obtain⟨c,rfl,i,f2,_⟩:=d;exact(Qkh b c j k p q w g i f1 f2 f).mono fun e l h=>⟨_,h.1,h.2,rfl⟩
namespace Giv
set_option linter.unusedVariables false
theorem dc:∀(n:Nat) (r x:Vec),dot n r x=dot n x r
 |0,_,_=>rfl
 |n+1,r,x=>by unfold dot;rw[dc n r x,Rat.mul_comm]
theorem d_add:∀(n:Nat) (r x y:Vec),dot n r (fun i=>x i+y i)=dot n r x+dot n r y
 |0,_,_,_=>by unfold dot;grind
 |n+1,r,x,y=>by unfold dot;rw[d_add n r x y];grind
theorem d_mul:∀(n:Nat) (r x:Vec) (q:Rat),dot n r (fun i=>q*x i)=q*dot n r x
 |0,_,_,_=>by unfold dot;grind
 |n+1,r,x,q=>by unfold dot;rw[d_mul n r x q];grind
theorem d_neg(n:Nat)(r x:Vec):dot n r (fun i=>-(x i))= -dot n r x:=by
 have h:=d_mul n r x (-1);have e:(fun i=>-1*x i)=(fun i=>-(x i)):=funext fun i=>by grind
 rw[e] at h;rw[h];grind
theorem Qfi:∀(N W:Nat) (M:Nat->Vec) (v x:Vec),dot N v (fun i=>dot W (M i) x)=dot W x (fun c=>dot N v (fun i=>M i c))
 |0,W,M,v,x=>by
  rw[Qbv W x _ (fun c _=>by unfold dot;grind)];rfl
 |N+1,W,M,v,x=>by
  have h:=Qfi N W M v x;have e:dot (N+1) v (fun i=>dot W (M i) x)=dot N v (fun i=>dot W (M i) x)+v N*dot W (M N) x:=rfl;rw[e,h];have a:(fun c=>dot (N+1) v (fun i=>M i c))=(fun c=>dot N v (fun i=>M i c)+v N*M N c):=rfl;rw[a,d_add,d_mul,dc W x (M N)]
variable {W n:Nat} {B:Nat->Nat->Rat} {c e:Nat->Rat}
def sOf(W:Nat)(B:Nat->Nat->Rat)(m:Vec)(i:Nat):Rat:=-(dot W (fun w=>B w i) m)
def tOf(W:Nat)(B:Nat->Nat->Rat)(c e:Nat->Rat)(m:Vec)(i:Nat):Rat:=c i*(sOf W B m i - e i)
def putF(n:Nat)(B:Nat->Nat->Rat)(t:Vec)(w:Nat):Rat:=dot n (B w) t
def stf(n:Nat)(B:Nat->Nat->Rat)(c:Nat->Rat)(w v:Nat):Rat:=dot n (B w) (fun i=>c i*B v i)
def Settles(W n:Nat)(B:Nat->Nat->Rat)(c e:Nat->Rat)(fr:Nat->Bool)(hv a m:Vec):Prop:=
 (∀w,w<W->fr w=false->m w=hv w)/\(∀w,w<W->fr w=true->putF n B (tOf W B c e m) w=a w)
theorem Qow(t m:Vec):dot W (putF n B t) m= -(dot n t (sOf W B m)):=by
 unfold putF sOf;rw[d_neg,dc W,Qfi W n (fun w=>B w) m t];have a:(fun c=>dot W m fun i=>B i c)=(fun i=>dot W (fun w=>B w i) m):=funext fun i=>dc W _ _
 rw[a];grind
theorem Settles.work{fr:Nat->Bool}{f a m b:Vec}(h:Settles W n B c e fr f a m)(g:∀w,w<W->fr w=false->b w=0):dot W a b= -(dot n (tOf W B c e m) (sOf W B b)):=by
 rw[<-Qow];refine Qac W a b _ b (fun w d=>?_);cases hf:fr w with
 |false=>rw[g w d hf];grind
 |true=>rw[h.2 w d hf]
theorem betti{fr:Nat->Bool}{a f m g:Vec}(h:Settles W n B c (fun _=>0) fr (fun _=>0) a m)(j:Settles W n B c (fun _=>0) fr (fun _=>0) f g):dot W a g=dot W f m:=by
 rw[h.work (fun w b d=>j.1 w b d),j.work (fun w b d=>h.1 w b d)]
 congr 1
 refine Qac n _ _ _ _ (fun i _=>?_);unfold tOf;grind
theorem clapeyron{fr:Nat->Bool}{a m:Vec}(h:Settles W n B c (fun _=>0) fr (fun _=>0) a m)(b:∀i,i<n->c i≠0):dot W a m= -(dot n (tOf W B c (fun _=>0) m) (fun i=>tOf W B c (fun _=>0) m i / c i)):=by
 rw[h.work (fun w d f=>h.1 w d f)]
 congr 1
 refine Qac n _ _ _ _ (fun i g=>?_);have:=b i g;unfold tOf;grind
theorem Qia(m a:Vec)(i:Nat):sOf W B (fun w=>m w+a w) i=sOf W B m i+sOf W B a i:=by
 unfold sOf;rw[d_add];grind
theorem Qox(m a:Vec)(i:Nat):sOf W B (fun w=>m w - a w) i=sOf W B m i - sOf W B a i:=by
 unfold sOf;rw[Qd1];grind
theorem Settles.add{fr:Nat->Bool}{a f m g:Vec}(h:Settles W n B c (fun _=>0) fr (fun _=>0) a m)(j:Settles W n B c (fun _=>0) fr (fun _=>0) f g):Settles W n B c (fun _=>0) fr (fun _=>0) (fun w=>a w+f w) (fun w=>m w+g w):=by
 refine⟨fun w b d=>by show m w+g w=0;rw[h.1 w b d,j.1 w b d];grind,fun w b d=>?_⟩
 show _=a w+f w
 rw[<-h.2 w b d,<-j.2 w b d];unfold putF;rw[<-d_add];refine Qac n _ _ _ _ (fun i _=>?_);unfold tOf;rw[Qia];grind
theorem Settles.diff{fr:Nat->Bool}{k a m g x l:Vec}{j b:Nat->Rat}(h:Settles W n B c e fr k a m)(o:Settles W n B c e fr k a g)(p:Settles W n B c j fr b l x):Settles W n B c j fr b l (fun w=>x w+(m w - g w)):=by
 refine⟨fun w d f=>by show x w+(m w - g w)=b w;rw[h.1 w d f,o.1 w d f,p.1 w d f];grind,fun w d f=>?_⟩;have q:=h.2 w d f;have r:=o.2 w d f;rw[<-p.2 w d f];have s:dot n (B w) (fun i=>tOf W B c e m i - tOf W B c e g i)=0:=by
  rw[Qd1];unfold putF at q r;rw[q,r];grind
 unfold putF;have t:dot n (B w) (tOf W B c j (fun w=>x w+(m w - g w)))=dot n (B w) (fun i=>tOf W B c j x i+(tOf W B c e m i - tOf W B c e g i)):=by
  refine Qac n _ _ _ _ (fun i _=>?_);unfold tOf;rw[Qia,Qox];grind
 rw[t,d_add,s];grind
def frs(fr:Nat->Bool)(W:Nat):List Nat:=(List.range W).filter fr
theorem frs_succ(fr:Nat->Bool)(W:Nat):frs fr (W+1)=if fr W=true then frs fr W++ [W] else frs fr W:=by
 unfold frs;rw[List.range_succ,List.filter_append];cases h:fr W<;>simp[h]
theorem frs_mem{fr:Nat->Bool}{W w:Nat}:w∈ frs fr W↔w<W/\fr w=true:=by
 unfold frs;rw[List.mem_filter,List.mem_range]
theorem frs_len(fr:Nat->Bool)(W:Nat):(frs fr W).length<=W:=by
 unfold frs;exact Nat.le_trans (List.length_filter_le _ _) (by rw[List.length_range];exact Nat.le_refl _)
theorem Qib(fr:Nat->Bool)(f g:Vec):∀W,dot W f (fun w=>if fr w=true then g w else 0)=dot (frs fr W).length (fun j=>f ((frs fr W).getD j 0)) (fun j=>g ((frs fr W).getD j 0))
 |0=>rfl
 |W+1=>by
  have h:=Qib fr f g W;rw[frs_succ];have e:dot (W+1) f (fun w=>if fr w=true then g w else 0)=dot W f (fun w=>if fr w=true then g w else 0)+f W*(if fr W=true then g W else 0):=rfl;rw[e,h];cases hf:fr W with
  |false=>simp;grind
  |true=>
   simp only[if_true,List.length_append,List.length_cons,List.length_nil,Nat.zero_add];generalize frs fr W=l;have a:dot (l.length+1) (fun j=>f ((l++ [W]).getD j 0)) (fun j=>g ((l++ [W]).getD j 0))=dot l.length (fun j=>f ((l++ [W]).getD j 0)) (fun j=>g ((l++ [W]).getD j 0))+f ((l++ [W]).getD l.length 0)*g ((l++ [W]).getD l.length 0):=rfl;rw[a,show (l++ [W]).getD l.length 0=W by simp]
   congr 1
   refine Qac _ _ _ _ _ (fun j b=>?_);rw[show (l++ [W]).getD j 0=l.getD j 0 by simp[List.getElem?_append_left b]]
theorem put_on{fr:Nat->Bool}{m m0:Vec}(b:∀w,w<W->fr w=true->m0 w=0)(d:∀w,w<W->fr w=false->m w=m0 w)(w:Nat):
 putF n B (tOf W B c e m) w=putF n B (tOf W B c e m0) w - dot (frs fr W).length (fun j=>stf n B c w ((frs fr W).getD j 0)) (fun j=>m ((frs fr W).getD j 0)):=by
 have f:∀i,sOf W B m i=sOf W B m0 i - dot (frs fr W).length (fun j=>B ((frs fr W).getD j 0) i) (fun j=>m ((frs fr W).getD j 0)):=fun i=>by
  rw[<-Qib fr (fun w=>B w i) m W];unfold sOf;have e:dot W (fun w=>B w i) m=dot W (fun w=>B w i) (fun w=>m0 w+if fr w=true then m w else 0):=by
   refine Qac _ _ _ _ _ (fun v a=>?_);cases hf:fr v with
   |false=>rw[d v a hf];simp;grind
   |true=>rw[b v a hf];simp;grind
  rw[e,d_add];grind
 have g:dot (frs fr W).length (fun j=>stf n B c w ((frs fr W).getD j 0)) (fun j=>m ((frs fr W).getD j 0))=dot n (B w) (fun i=>c i*dot (frs fr W).length (fun j=>B ((frs fr W).getD j 0) i) (fun j=>m ((frs fr W).getD j 0))):=by
  generalize (fun j=>m ((frs fr W).getD j 0))=x;generalize (frs fr W).length=L;have h:(fun j=>stf n B c w ((frs fr W).getD j 0))=(fun j=>dot n (fun i=>c i*B ((frs fr W).getD j 0) i) (B w)):=funext fun j=>dc n _ _
  rw[h,dc,Qfi L n (fun j i=>c i*B ((frs fr W).getD j 0) i) x (B w)];refine Qac _ _ _ _ _ (fun i _=>?_);rw[d_mul,dc L x]
 rw[g];unfold putF;rw[<-Qd1];refine Qac _ _ _ _ _ (fun i _=>?_);unfold tOf;rw[f];grind
end Giv
def FB(q:Rat)(k:Nat)(w:Vz)(g:Nat):Prop:=∃x y z,SB w g 107 #[x,y,z]/\FF q k (.agg #[x,y,z]) w
theorem FB.below{q:Rat}{k:Nat}{w a:Vz}{g:Nat}(h:FB q k w g)(b:Bl w a):FB q k a g:=by
 obtain⟨x,y,z,c,d⟩:=h;exact⟨x,y,z,c.below b c.lt,d.below b⟩
theorem FB.mono{q:Rat}{k j:Nat}{w:Vz}{g:Nat}(h:FB q k w g)(a:k<=j):FB q j w g:=by
 obtain⟨x,y,z,b,c⟩:=h;exact⟨x,y,z,b,c.mono a⟩
theorem FB.set{q p:Rat}{k j:Nat}{w:Vz}{g:Nat}{x y z:Value}(h:FB q k w g)(b:FF p j (.agg #[x,y,z]) w):FB p j (((w.setCell ⟨g,0,none⟩ x).setCell ⟨g,1,none⟩ y).setCell ⟨g,2,none⟩ z) g:=by
 obtain⟨d,e,f,c,a⟩:=h;have l:NoU64 #[d,e,f]:=fun i n=>by
  have:=a.1.no64 n
  match i with
  |0=>simpa using this.1
  |1=>simpa using this.2.1
  |2=>simpa using this.2.2
  |i+3=>simp
 refine⟨x,y,z,?_,?_,b.2⟩
 . have:=((c.set 0 x).set 1 y).set 2 z
   simpa using this
 . exact b.1.only ((((Only.refl g w).setCell 0 _).setCell 1 _).setCell 2 _) c l
theorem Qn9{ts a:List FE}{k:Nat}{e s:FE}(b:ts[k]?=some e)(c:a[k]?=some s):dot (k+1) (qAt ts) (qAt a)=dot k (qAt ts) (qAt a)+e.q*s.q:=by
 show dot k (qAt ts) (qAt a)+qAt ts k*qAt a k=_
 rw[Qbb b,Qbb c]
theorem Qoa(a a':Vx)(R cap' n m K1 K2:Nat)(ts B:List FE)(w:Vz)(h:QRow w a R ts)(h':QRow w a' cap' B)(hn:ts.length=n)(hm:B.length=m)(a6:n<=m)(a7:m<=1000)(k1:∀t,t∈ ts->t.k<=K1)(k2:∀t,t∈ B->t.k<=K2)(d:n*(K1+K2+1)+1<68719476000):
 Calls prog 116 #[.slice a n R,.slice a' m cap'] w (Makes w (FF (dot n (qAt ts) (qAt B)) (n*(K1+K2+1)+1))):=by
 obtain⟨HH,HG,HN,ap,aq,HK⟩:=Ie h h' (And.intro hn hm) k1 k2 d;clear h h' hn hm k1 k2 d;go_enter func116,ntmps116;go_wp2_with fail;obtain⟨W,hW⟩:=nm ((w.alloc (.cells #[.bool false,.slice none 0 0,.slice none 0 0] 107)).alloc (.cells #[.bool false,.slice none 0 0,.slice none 0 0] 107));have ar:=Ub hW;have au:=Ud hW;have S:O (FB 0 1 W (w.heap.size+1)):=Hi ⟨_,_,_,by rw[<-hW];exact SB.new2 w _ _ _ _,FF.zero _⟩;obtain⟨G,hG⟩:=nm (w.heap.size+1);rw[hG] at S;have T:O (w.heap.size<G):=Hi (by omega);obtain⟨av,aw⟩:=Ia hW hG;clear hW hG
 try rw[av.o]
 try simp only[aw.o]
 go_loopw [9] (fun iv wr=>∃k:Nat,k<=n/\iv=.int .i64 k/\FB (dot k (qAt ts) (qAt B)) (k*(K1+K2+1)+1) wr G/\SB wr w.heap.size 107 #[.bool false,.slice none 0 0,.slice none 0 0]/\Below w.heap.size w wr) (fun iv _=>n - (intOf iv).toNat)
 case atStart=>exact⟨0,by omega,rfl,by simpa [dot] using S.o,au.o,ar.o⟩
 case round=>
  obtain⟨k,hk,rfl,U,hr,b⟩:=hrel;obtain⟨V,M,C⟩:=Ib b U hr;clear b U hr;by_cases a8:k<n
  .
   obtain⟨e,X⟩:∃e,ts[k]?=some e:=⟨ts[k]'(by have:=HN.o;omega),gE (by have:=HN.o;omega)⟩;obtain⟨s,Y⟩:∃s,B[k]?=some s:=⟨B[k]'(by have:=HN.o;omega),gE (by have:=HN.o;omega)⟩;obtain⟨fb,a9,rfl,Z,D0,D1,D2⟩:=HH.o.at X;obtain⟨sb,a4,rfl,aa,E0,E1,E2⟩:=HG.o.at Y;have HX:O (FF e.q K1 (.agg #[e.x,e.y,e.z]) w):=Hi (FF.mono (HH.o.get X) (ap.o e (mO X)));have HY:O (FF s.q K2 (.agg #[s.x,s.y,s.z]) w):=Hi (FF.mono (HG.o.get Y) (aq.o s (mO Y)));obtain⟨N,ax,ay,az,ab,ad,ae⟩:=If (Qn9 X Y) D0 D1 D2 E0 E1 E2;obtain⟨d0,d1,d2⟩:=Jb V.o Z D0 D1 D2;have q1:((k:Int)<(n:Int)):=by omega
   have q2:((k:Int)<(m:Int)):=by omega
   clear X Y D0 D1 D2 E0 E1 E2;go_wp2_with fail;refine Makes.use ((HX.o.below V.o).isZero) ?_;intro v4 w4 b hv;obtain rfl:v4=.bool (decide (e.q=0)):=hv;obtain⟨D,E,I⟩:=Ib (V.o.trans (b.mono V.o.size)) (M.o.below b) (C.o.below b C.o.lt);clear b d0 d1 d2 M C;by_cases F:e.q=0
   .
    rw[decide_eq_true F];have HE:O (dot (k+1) (qAt ts) (qAt B)=dot k (qAt ts) (qAt B)):=Hi (by rw[N.o,F];grind);clear F;go_wp2;go_roundw
    case rel=>exact⟨k+1,by omega,by go_num,by rw[HE.o];exact E.o.mono (by rw[Nat.succ_mul];omega),I.o,D.o⟩
    case measure=>simp[intOf];omega
   .
    rw[decide_eq_false F];obtain⟨d0,d1,d2⟩:=Jb D.o aa ab.o ad.o ae.o;clear F;go_wp2_with fail;refine Makes.use ((HY.o.below D.o).isZero) ?_;intro v5 w5 b hv;obtain rfl:v5=.bool (decide (s.q=0)):=hv;obtain⟨P,r,J⟩:=Ib (D.o.trans (b.mono D.o.size)) (E.o.below b) (I.o.below b I.o.lt);clear b d0 d1 d2 E I;by_cases F:s.q=0
    .
     rw[decide_eq_true F];have HE:O (dot (k+1) (qAt ts) (qAt B)=dot k (qAt ts) (qAt B)):=Hi (by rw[N.o,F];grind);clear F;go_wp2;go_roundw
     case rel=>exact⟨k+1,by omega,by go_num,by rw[HE.o];exact r.o.mono (by rw[Nat.succ_mul];omega),J.o,P.o⟩
     case measure=>simp[intOf];omega
    .
     rw[decide_eq_false F];clear F;go_wp2_with fail;obtain⟨x,y,z,g,u⟩:=r.o;have A:Bl w5 w5.drew:=bR.drew;have l:=g.below A g.lt;obtain⟨af,ag,ah⟩:=Ib (l.cell 0) (l.cell 1) (l.cell 2);simp only[List.getElem?_toArray,List.getElem?_cons_zero,List.getElem?_cons_succ] at af ag ah;obtain⟨Q,L,f,ai,aj⟩:=Id l (u.below A) (P.o.trans (A.mono P.o.size)) (r.o.below A) (J.o.below A J.o.lt);have ak:k*(K1+K2+1)+1+(K1+K2)<68719476000:=by
      have:=HK.o;have h2:(k+1)*(K1+K2+1)<=n*(K1+K2+1):=Nat.mul_le_mul_right _ (by omega);rw[Nat.succ_mul] at h2;omega
     have a0:=Hi ak;have a1:O (K1+K2<68719476000):=Hi (by omega);clear g l u A ak r J;refine RegG.bg 11 (fun j=>some (26+j)) ?_;refine RegG.pu (c:=?_) [] (fun w b=>?_) ?_;rotate_left
     .
      intro K d;obtain⟨d0,d1,d2⟩:=Jb b Q.o.lt af.o ag.o ah.o;go_simp;exact d
     refine RegG.pu (c:=?_) [] (fun w b=>?_) ?_;rotate_left
     .
      intro K d;go_simp;exact d
     refine RegG.pu (c:=?_) [] (fun w b=>?_) ?_;rotate_left
     .
      intro K d;go_simp;exact d
     refine RegG.pu (c:=?_) [1,2] (fun w b=>?_) ?_;rotate_left
     .
      intro K d;go_simp;exact d
     refine RegG.pu (c:=?_) [3] (fun w b=>?_) ?_;rotate_left
     .
      intro K d;have hz:=f.o.trans (b.mono f.o.size);obtain⟨d0,d1,d2⟩:=Jb hz Z ax.o ay.o az.o;go_simp;exact d
     refine RegG.pu (c:=?_) [] (fun w b=>?_) ?_;rotate_left
     .
      intro K d;go_simp;exact d
     refine RegG.pu (c:=?_) [] (fun w b=>?_) ?_;rotate_left
     .
      intro K d;go_simp;exact d
     refine RegG.pu (c:=?_) [5,6] (fun w b=>?_) ?_;rotate_left
     .
      intro K d;go_simp;exact d
     refine RegG.pu (c:=?_) [7] (fun w b=>?_) ?_;rotate_left
     .
      intro K d;have hz:=f.o.trans (b.mono f.o.size);obtain⟨d0,d1,d2⟩:=Jb hz aa ab.o ad.o ae.o;go_simp;exact d
     refine RegG.ca (φ:=FF (e.q*s.q) (K1+K2)) [4,8] (FF.stays _ _) (fun w b=>?_) ?_
     .
      intro K d;go_simp;exact Makes.use ((HX.o.below (f.o.trans (b.mono f.o.size))).times (HY.o.below (f.o.trans (b.mono f.o.size))) a1.o) d
     refine RegG.ca (φ:=FF (dot k (qAt ts) (qAt B)+e.q*s.q) (k*(K1+K2+1)+1+(K1+K2)+1)) [0,9] (FF.stays _ _) (fun w b=>?_) ?_
     .
      intro v9 h9;intro K d;go_simp;exact Makes.use ((L.o.below b).plus h9 a0.o) d
     refine RegG.last (by simp only[List.nil_append,List.cons_append,List.length_append,List.length_cons,List.length_nil,Nat.reduceAdd]) (by rfl) (by rfl) (by kernel_rfl) (fun x2 b=>?_);simp only[FinG,List.nil_append,List.cons_append,Qad,Act.put,List.setIfInBounds_toArray,List.set_cons_zero,List.set_cons_succ,Nat.reduceAdd,Nat.reduceBEq,cond_true,cond_false];intro v9 _ ba H K d;obtain⟨x',y',z',rfl⟩:=H.parts;obtain⟨o1,o2,o3⟩:=H.1.one;have al:=Qaa prog o1;have am:=Qaa prog o2;have an:=Qaa prog o3;have p:=Q.o.below b Q.o.lt;have f0:=p.free 0;have f1:=p.free 1;have f2:=p.free 2;have c0:=p.cell 0;have c1:=p.cell 1;have c2:=p.cell 2;simp only[List.getElem?_toArray,List.getElem?_cons_zero,List.getElem?_cons_succ] at c0 c1 c2;obtain⟨a5,ao,a2⟩:=Ib H ((ai.o.below b).set H) (aj.o.below b aj.o.lt)
     have a3:=Hi (f.o.trans (b.mono f.o.size));clear o1 o2 o3 p H b;go_simp;refine d _ _ ?_;clear d c0 c1 c2 f0 f1 f2 al am an;go_wp2;go_roundw
     case rel=>
      have ho:=((((Only.refl G x2).setCell 0 x').setCell 1 y').setCell 2 z');exact⟨k+1,by omega,by go_num,by rw[N.o,show (k+1)*(K1+K2+1)+1=k*(K1+K2+1)+1+(K1+K2)+1 by rw[Nat.succ_mul];omega];exact ao.o,a2.o.only ho (by have:=T.o;omega),Only.fresh a3.o ho (Nat.le_of_lt T.o)⟩
     case measure=>simp[intOf];omega
  .
   obtain rfl:k=n:=by omega
   obtain⟨x,y,z,g,u⟩:=M.o;have c0:=g.cell 0;have c1:=g.cell 1;have c2:=g.cell 2;have r0:=C.o.cell 0;have r1:=C.o.cell 1;have r2:=C.o.cell 2;have f0:=C.o.free 0;have f1:=C.o.free 1;have f2:=C.o.free 2;simp only[List.getElem?_toArray,List.getElem?_cons_zero,List.getElem?_cons_succ] at c0 c1 c2 r0 r1 r2;obtain⟨o1,o2,o3⟩:=u.1.one;have al:=Qaa prog o1;have am:=Qaa prog o2;have an:=Qaa prog o3;have L:=Hi u;clear g u o1 o2 o3;go_wp2;have ho:=((((Only.refl w.heap.size wr).setCell 0 x).setCell 1 y).setCell 2 z);refine bodyPost_ret (v:=.agg #[x,y,z]) (results_cell_row rfl _ _ w.heap.size 107 #[x,y,z] (0,0) _ rfl (((C.o.set 0 x).set 1 y).set 2 z) underlying107 rfl Tryz.fracInfo) rfl ?_;refine⟨_,rfl,Only.fresh V.o ho lZ,L.o.1.only ho C.o ?_,L.o.2⟩;intro i n
   match i with
   |0=>simp
   |1=>simp
   |2=>simp
   |i+3=>simp
end Go.Proofs.YtkkadnoecklepaaGreatDoor
