import Derived.Test.YtfgclhpgdanmfaaGreatDoorS20RFa
namespace Go.Proofs.YtfgclhpgdanmfaaGreatDoor
set_option linter.defProp false
open Go.RowKit
open Go.Proofs.Tryz
set_option linter.unusedSimpArgs false
set_option linter.unusedVariables false
set_option maxHeartbeats 8000000
set_option maxRecDepth 1000000
variable{a:Vx}{c cap g i k m:Nat}{b:Ah}{X Y w w':Vz}{t:Vr}{d:Ac}
def xU{s:Vs}{q:Rat}(h:il s.data.toList q)(a:s.size<=1048576):s.size<=1073741824/\Fits q 4194305:=⟨oO,(h.fits (n:=1048576) (by rw[qL];exact a)).mono dD⟩
def Tk{a:Ak}{o:H3}(h:a[i]?=some o)(b:i<m):(o.j,o.w)∈ li (a.take m):=by unfold li;exact bZ.2 ⟨o,mO (i:=i) (by rw[aW b];exact h),rfl⟩
def Tj{b:Ak}{h:H3}(d:∀(t:Nat)(x:H3),t<m->b[t]?=some x->¬(x.j=h.j/\x.w=h.w)):(h.j,h.w) ∉ li (b.take m):=by intro c;unfold li at c;obtain⟨x,f,e⟩:=bZ.1 c;obtain⟨t,a⟩:=dM f;have hl:=(gZ a).1;rw[cI]at hl;rw[aW oO]at a;simp only[fZ]at e;exact d t x oO a e
def Ti{h:Nat}{a b c:Ac}(k:SB X g t #[a,b])(l:SB X h t #[c,d])(hb:Bl X Y):Y.cell? ⟨g,0,none⟩=some a/\Y.cell? ⟨g,1,none⟩=some b/\Y.cell? ⟨h,0,none⟩=some c/\Y.cell? ⟨h,1,none⟩=some d:=
 ⟨(k.below hb k.lt).cell 0,(k.below hb k.lt).cell 1,(l.below hb l.lt).cell 0,(l.below hb l.lt).cell 1⟩
def Hz{a b c e f:Ac}(k:SB X g t #[a,b,c,d,e,f])(hb:Bl X Y):Y.cell? ⟨g,2,none⟩=some c/\Y.cell? ⟨g,4,none⟩=some e/\Y.cell? ⟨g,5,none⟩=some f:=
 ⟨(k.below hb k.lt).cell 2,(k.below hb k.lt).cell 4,(k.below hb k.lt).cell 5⟩
def TT(a1 a2 a3:Vx)(c1 c2 c3:Nat)(r:Ad)(J:Ap)(G:Ak)(w:Vz)(hg:jq w)(hf:ja w a1 a2 a3 c1 c2 c3 r J G)(hz:jL r J G)(hm:¬te r.length J.length G.length):
 Calls prog 18 #[.agg #[.slice a1 r.length c1,.slice a2 J.length c2,.slice a3 G.length c3]] w fun e w'=>∃c ba,e=.returned (.agg #[.int .i64 c,.int .i64 ba])/\dW r J G c ba/\Below w.heap.size w w':=by
 have n0:=gP fun h=>hm (.inl h)
 have n1:=gP fun h=>hm (.inr (.inl h))
 have n2:=gP fun h=>hm (.inr (.inr (.inl h)))
 have n3:=gP fun h=>hm (.inr (.inr (.inr h)))
 have R:=Hi hm;have q1:((r.length:Int) == 0)=false:=by rw[aJ];omega
 have q2:¬((10:Int)<(r.length:Int)):=oO;have q3:¬((24:Int)<(J.length:Int)):=oO;have q4:¬((20:Int)<(G.length:Int)):=oO;clear hm;obtain⟨HG,HF,HZ⟩:=Ib hg hf hz;clear hg hf hz;go_enter func18,ntmps18;obtain⟨W,hW⟩:=nm ((w.alloc (.cells #[.slice a1 r.length c1,.slice a2 J.length c2,.slice a3 G.length c3] 26)).alloc (.cells #[.int .i64 0,.int .i64 0] 41));have g:=Ub hW;have L:=Ud hW;have F:=Ue hW;have bb:O (Bl W W):=Hi bR;have B:=L.o.below bb.o L.o.lt;have hy:=F.o.below bb.o F.o.lt;obtain⟨x0,x1,x2,-⟩:=zc B;obtain⟨z0,z1,-⟩:=zc hy;have f0:=hy.free 0;have f1:=hy.free 1;clear B hy;rw[<-hW]at x0 x1 x2 z0 z1 f0 f1;have HW:=Hi hW;clear hW;go_wp2_with fail;rw[HW.o];clear x0 x1 x2 z0 z1 f0 f1 q1 q2 q3 q4;go_loopw [38] (fun iv wr=>∃k:Nat,k<=J.length/\iv=.int .i64 k/\(∀(i:Nat)(x:B6),i<k->J[i]?=some x->jc r x 0)/\Below W.heap.size W wr) (fun iv _=>J.length - (intOf iv).toNat)
 case atStart=>exact⟨0,oO,rfl,fun i x hi=>oO,ac _ _⟩
 case round=>
  obtain⟨k,hk,rfl,an,hb⟩:=hrel;obtain⟨H,HB,cb⟩:=Ib an hb (g.o.trans (hb.mono g.o.size));clear an hb;by_cases cc:k<J.length
  .
   obtain⟨f,ao⟩:∃f,J[k]?=some f:=⟨J[k],gE cc⟩;obtain⟨fb,cd,rfl,ce,d0,d1,d2,d3,d4,d5⟩:=(HF.o.b.below cb.o).bar ao;have aa:=Hi ao;have q5:((k:Int)<(J.length:Int)):=oO;obtain⟨V,hV⟩:=nm (wr.alloc (.cells #[.int .i64 f.a,.int .i64 f.b,.string f.c,.string f.e,.string f.l,.string f.m] 72));have A:O (Bl W V):=Hi (by rw[<-hV];exact HB.o.alloc HB.o.size _);have N:=Uc hV;have HV:=Hi hV;clear ao hV;by_cases gg:f.a<0∨f.b<0∨(r.length:Int)<=f.a∨(r.length:Int)<=f.b
   . have cf:O (¬(qn r.length f.a/\qn r.length f.b)):=Hi (fun h=>by unfold qn at h;omega);rcases(show f.a<0∨¬f.a<0/\f.b<0∨¬f.a<0/\¬f.b<0/\(r.length:Int)<=f.a∨¬f.a<0/\¬f.b<0/\¬(r.length:Int)<=f.a/\(r.length:Int)<=f.b by omega) with g1|⟨g1,g2⟩|⟨g1,g2,g3⟩|⟨g1,g2,g3,g4⟩
     all_goals
      clear gg;go_wp2_with fail;rw[HV.o];clear d0 d1 d2 d3 d4 d5;go_fit (pC 4 (k:Int) V);rintro e w9 ⟨rfl,D⟩;have E:=Hi (A.o.trans (D.mono A.o.size));have d:=Hi (F.o.below E.o F.o.lt);obtain⟨z0,z1,-⟩:=zc d.o;have f0:=d.o.free 0;have f1:=d.o.free 1;clear D;go_wp2;refine bK (v:=.agg #[.int .i64 4,.int .i64 (k:Int)]) (bG rfl _ _ (w.heap.size+1) 41 #[.int .i64 4,.int .i64 (k:Int)] (0,0) _ rfl ((d.o.set 0 _).set 1 _) underlying41 rfl iy) rfl ?_;exact⟨_,_,rfl,pL (fT ⟨R.o,k,f,aa.o,H.o,fT ⟨cf.o,rfl⟩,dD,rfl⟩),((g.o.trans (E.o.mono g.o.size)).setCell (dU _) _).setCell (dU _) _⟩
   obtain⟨g1,g2,g3,g4⟩:¬f.a<0/\¬f.b<0/\¬(r.length:Int)<=f.a/\¬(r.length:Int)<=f.b:=oO;clear gg;have ae:qn r.length f.a:=⟨oO,oO⟩;have bc:qn r.length f.b:=⟨oO,oO⟩;obtain⟨ap,aq⟩:=Ia ae bc;clear ae bc;obtain⟨ka,bd⟩:=jX ap.o.1;obtain⟨kb,be⟩:=jX aq.o.1;obtain⟨p,hp⟩:∃p,r[ka]?=some p:=⟨_,gE (oB ap.o.2)⟩;obtain⟨q,hq⟩:∃q,r[kb]?=some q:=⟨_,gE (oB aq.o.2)⟩;obtain⟨ar,au,HP,HQ⟩:=Ic bd be hp hq;clear bd be hp hq;go_wp2_with fail;rw[HV.o,ar.o,au.o];clear d0 d1 d2 d3 d4 d5;obtain⟨jb,jo,ae,cr,d0,d1⟩:=((HF.o.j.below g.o).below A.o).spot HP.o;obtain⟨cs,ct,bf,cn,d2,d3⟩:=((HF.o.j.below g.o).below A.o).spot HQ.o;subst ae;cases bf;have B:=L.o.below A.o L.o.lt;obtain⟨x0,-⟩:=zc B;have y0:V.cell? ⟨wr.heap.size,0,none⟩=some (.int .i64 (ka:Int)):=by rw[<-ar.o];exact N.o.cell 0
   have y1:V.cell? ⟨wr.heap.size,1,none⟩=some (.int .i64 (kb:Int)):=by rw[<-au.o];exact N.o.cell 1
   have i1:((0:Int)<=(ka:Int)):=oO;have i2:((0:Int)<=(kb:Int)):=oO;have i3:((ka:Int)<(r.length:Int)):=oB ((gZ HP.o).1);have i4:((kb:Int)<(r.length:Int)):=oB ((gZ HQ.o).1);have l0:=L.o.lt;have l1:=A.o.size;have l2:=N.o.lt;have m1:V.heap.size≠w.heap.size:=oO;have m2:V.heap.size≠wr.heap.size:=oO;have m3:V.heap.size≠jb:=oO;have m4:V.heap.size+1≠w.heap.size:=oO;have m5:V.heap.size+1≠wr.heap.size:=oO;have m6:V.heap.size+1≠jb:=oO;clear B;go_cut [6,7] (fun s6 s7 wx=>∃g6 g7:Nat,s6=.pointer (some ⟨g6,0,none⟩)/\s7=.pointer (some ⟨g7,0,none⟩)/\SB wx g6 34 #[.string p.x,.string p.y]/\SB wx g7 34 #[.string q.x,.string q.y]/\Below V.heap.size V wx)
   case first=>
    go_region_held3 (fun v=>v.cell? ⟨w.heap.size,0,none⟩=some (.slice (some ⟨jb,jo,none⟩) r.length c1)/\v.cell? ⟨wr.heap.size,0,none⟩=some (.int .i64 (ka:Int))/\v.cell? ⟨wr.heap.size,1,none⟩=some (.int .i64 (kb:Int))/\v.cell? ⟨jb,jo+ka*2,none⟩=some (.string p.x)/\v.cell? ⟨jb,jo+ka*2+1,none⟩=some (.string p.y)/\v.cell? ⟨jb,jo+kb*2,none⟩=some (.string q.x)/\v.cell? ⟨jb,jo+kb*2+1,none⟩=some (.string q.y)) ((first|(simp [*];done)|go_keep)) (fail)
    all_goals
     go_wp2_with fail;go_meet
     case rel=>
      first
       |exact⟨_,_,rfl,rfl,zE ((cK V _ _).alloc _),zE (xE V _ _ _ _),(lN V _ _).drew⟩
       |exact⟨_,_,rfl,rfl,zE (xE V _ _ _ _),zE ((cK V _ _).alloc _),(lN V _ _).drew⟩
   case rest=>
    obtain⟨g6,g7,rfl,rfl,bh,bi,av⟩:=hcut;obtain⟨wx,rfl⟩:∃wx,wx=wc:=⟨wc,rfl⟩;obtain⟨aw,ax,bj,af⟩:=Ic bh bi (N.o.below av N.o.lt) (A.o.trans (av.mono A.o.size));have HR:=Hi (lM ((HG.o.below g.o).below af.o).most);obtain⟨px,bk⟩:=j9 p.x.data.toList;obtain⟨py,bl⟩:=j9 p.y.data.toList;obtain⟨qx,bm⟩:=j9 q.x.data.toList;obtain⟨qy,bn⟩:=j9 q.y.data.toList;obtain⟨vc,bo⟩:=j9 f.c.data.toList;obtain⟨vl,bp⟩:=j9 f.l.data.toList;obtain⟨vm,br⟩:=j9 f.m.data.toList;obtain⟨Q1,Q2,Q3,Q4,Q5,Q6,Q7,Z1,Z2⟩:=Ih bk bl bm bn bo bp br (HZ.o.j p (mO HP.o)) (HZ.o.j q (mO HQ.o));have Z3:=Hi (HZ.o.b f (mO aa.o));have bt:O (∀c,c=(if px=qx/\py=qy then 5 else if lJ vc.num<=0∨0<lJ vl.num∨lJ vm.num<0 then 5 else 0)->jc r f c):=Hi (fun c hc=>.inr ⟨ap.o,aq.o,p,q,by rw[ar.o];exact HP.o,by rw[au.o];exact HQ.o,px,py,qx,qy,vc,vl,vm,Q1.o,Q2.o,Q3.o,Q4.o,Q5.o,Q6.o,Q7.o,hc⟩);clear bh bi av bk bl bm bn bo bp br x0 y0 y1 d0 d1 d2 d3 i1 i2 i3 i4 l0 l1 l2 m1 m2 m3 m4 m5 m6;obtain⟨r0,r1,r2,r3⟩:=Ti aw.o ax.o HR.o.base;go_wp2_with fail;go_cut [94] (fun s wy=>s=.bool (decide (px=qx/\py=qy))/\Below wx.heap.size wx wy)
    case first=>
     obtain⟨O1,O2,O3,O4⟩:=Ic (xU Q1.o Z1.o.1) (xU Q2.o Z1.o.2) (xU Q3.o Z2.o.1) (xU Q4.o Z2.o.2);obtain⟨C1,bu⟩:∃C,Bz px qx=C:=⟨_,rfl⟩;obtain⟨C2,bv⟩:∃C,Bz py qy=C:=⟨_,rfl⟩;obtain⟨ay,bw⟩:=Ia bu bv;obtain⟨Y,hY⟩:=nm wx.drew;have ab:Bl wx Y:=by rw[<-hY];exact(ac _ _).drew
     obtain⟨ag,ah,ai,aj,cg⟩:=Id (aw.o.below ab aw.o.lt) (ax.o.below ab ax.o.lt) (((HG.o.below g.o).below af.o).below ab) ab hY;clear bu bv hY ab r0 r1 r2 r3;refine ou 18 (fun j=>some (77+j)) ?_;rw[cg.o];refine cV [] ?_;refine gJ (c:=?_) [0] (fun w hb=>?_) ?_;rotate_left
     . intro K M;have d0:=(ag.o.below hb ag.o.lt).cell 0;simp only[aK,aI]at d0;go_simp;exact M
     refine fP (φ:=RF px 4194305) [1] (xF _ _) (fun w hb=>?_) ?_
     . intro K M;go_simp;exact fB (zO (ai.o.below hb) Q1.o O1.o.1 O1.o.2 dD) M
     refine cV [] ?_;refine gJ (c:=?_) [3] (fun w hb=>?_) ?_;rotate_left
     . intro K M;have d0:=(ah.o.below hb ah.o.lt).cell 0;simp only[aK,aI]at d0;go_simp;exact M
     refine fP (φ:=RF qx 4194305) [4] (xF _ _) (fun w hb=>?_) ?_
     . intro K M;go_simp;exact fB (zO (ai.o.below hb) Q3.o O3.o.1 O3.o.2 dD) M
     refine fP (φ:=Is (.int .i64 C1)) [2,5] (Is.eL _) (fun w hb=>?_) ?_
     . intro v2 h2 v5 h5;intro K M;go_simp;exact fB (ay.o ▸ RF.D7 h2 h5 dD) M
     refine cV [6] ?_;refine cV [7] ?_;by_cases Q:px=qx
     .
      have e7:(C1 == 0)=true:=by rw[mK,<-ay.o];exact(Lv _ _).2 Q
      have az:O ((C2 == 0)=decide (px=qx/\py=qy)):=Hi (by rw[<-bw.o,Bool.eq_iff_iff,mK,decide_eq_true_iff,Lv];exact⟨fun h=>⟨Q,h⟩,fun h=>h.2⟩);clear Q;refine cV [8] ?_;refine gJ (c:=?_) [8,9] (fun w hb=>?_) ?_;rotate_left
      . intro K M;have d0:=(ag.o.below hb ag.o.lt).cell 1;simp only[aK,aI,aM]at d0;go_simp;exact M
      refine fP (φ:=RF py 4194305) [8,10] (xF _ _) (fun w hb=>?_) ?_
      . intro K M;go_simp;exact fB (zO (ai.o.below hb) Q2.o O2.o.1 O2.o.2 dD) M
      refine cV [8] ?_;refine gJ (c:=?_) [8,12] (fun w hb=>?_) ?_;rotate_left
      . intro K M;have d0:=(ah.o.below hb ah.o.lt).cell 1;simp only[aK,aI,aM]at d0;go_simp;exact M
      refine fP (φ:=RF qy 4194305) [8,13] (xF _ _) (fun w hb=>?_) ?_
      . intro K M;go_simp;exact fB (zO (ai.o.below hb) Q4.o O4.o.1 O4.o.2 dD) M
      refine fP (φ:=Is (.int .i64 C2)) [8,11,14] (Is.eL _) (fun w hb=>?_) ?_
      . intro v2 h2 v5 h5;intro K M;go_simp;exact fB (bw.o ▸ RF.D7 h2 h5 dD) M
      refine cV [8,15] ?_;refine cV [8,16] ?_;refine bA.fi (fun u hb=>?_);intro v2 _ v5 _ cu _ cv _;have Z:=Hi (aj.o.trans (hb.mono aj.o.size));clear hb;go_wp2_with fail;go_meet
      case rel=>exact⟨by rw[az.o],Z.o⟩
     . have e7:(C1 == 0)=false:=by rw[aJ,<-ay.o];exact fun h=>Q ((Lv _ _).1 h)
       have az:=Hi (bS (show ¬(px=qx/\py=qy) from fun h=>Q h.1)).symm;clear Q;refine cV [8] ?_;refine cV [8,9] ?_;refine cV [8,10] ?_;refine cV [8] ?_;refine cV [8,12] ?_;refine cV [8,13] ?_;refine cV [8,11,14] ?_;refine cV [8,15] ?_;refine cV [8,16] ?_;refine bA.fi (fun u hb=>?_);intro v2 _ v5 _;have Z:=Hi (aj.o.trans (hb.mono aj.o.size));clear hb;go_wp2_with fail;go_meet
       case rel=>exact⟨by rw[az.o],Z.o⟩
    case rest=>
     obtain⟨rfl,a0⟩:=hcut;obtain⟨S,ak⟩:=Ia (af.o.trans (a0.mono af.o.size)) (bj.o.below a0 bj.o.lt);clear a0 r0 r1 r2 r3;by_cases Q:px=qx/\py=qy
     . have T:=Hi (bt.o 5 (by rw[aN Q]));rw[dC Q];clear Q;go_wp2_with fail;go_fit (pC 5 (k:Int) wc);rintro e w9 ⟨rfl,D⟩;have E:=Hi (S.o.trans (D.mono S.o.size));have d:=Hi (F.o.below E.o F.o.lt);obtain⟨z0,z1,-⟩:=zc d.o;have f0:=d.o.free 0;have f1:=d.o.free 1;clear D;go_wp2;refine bK (v:=.agg #[.int .i64 5,.int .i64 (k:Int)]) (bG rfl _ _ (w.heap.size+1) 41 #[.int .i64 5,.int .i64 (k:Int)] (0,0) _ rfl ((d.o.set 0 _).set 1 _) underlying41 rfl iy) rfl ?_;exact⟨_,_,rfl,pL (fT ⟨R.o,k,f,aa.o,H.o,T.o,dD,rfl⟩),((g.o.trans (E.o.mono g.o.size)).setCell (dU _) _).setCell (dU _) _⟩
     .
      rw[bS Q];obtain⟨sc,a4⟩:=nm (lJ vc.num);obtain⟨sl,a5⟩:=nm (lJ vl.num);obtain⟨sm,a6⟩:=nm (lJ vm.num);obtain⟨a7,SC,SL,SM⟩:=Ic (fun c hc=>bt.o c (by rw[aH Q,a4,a5,a6];exact hc)) a4 a5 a6;clear a4 a5 a6 Q;have z:=Hi (lM ((HG.o.below g.o).below S.o).most);obtain⟨r4,r5,r6⟩:=Hz ak.o z.o.base;have gg:sc<=0/\O (jc r f 5)∨¬sc<=0/\0<sl/\O (jc r f 5)∨¬sc<=0/\¬0<sl/\sm<0/\O (jc r f 5)∨¬sc<=0/\¬0<sl/\¬sm<0/\O (jc r f 0):=by
       have y:=fun h=>Hi (a7.o 5 (by rw[aN h]))
       by_cases s1:sc<=0
       . exact .inl ⟨s1,y (.inl s1)⟩
       by_cases s2:0<sl
       . exact .inr (.inl ⟨s1,s2,y (.inr (.inl s2))⟩)
       by_cases s3:sm<0
       . exact .inr (.inr (.inl ⟨s1,s2,s3,y (.inr (.inr s3))⟩))
       exact .inr (.inr (.inr ⟨s1,s2,s3,Hi (a7.o 0 (by rw[aH oO]))⟩))
      clear a7;rcases gg with ⟨s1,T⟩|⟨s1,s2,T⟩|⟨s1,s2,s3,T⟩|⟨s1,s2,s3,T⟩
      all_goals
       go_wp2_with (first
        |
         (go_at_call_of 36 (Value.string f.c)
          apply cM;apply zQ (w0:=wc) (n:=1048576);(focus(first|exact z.o|exact z.o.drew));exact Z3.o.1;decide;rintro e wn ⟨qq,hq,bq,rfl,I⟩;obtain rfl:=Q5.o.inj hq;clear z;have z:=Hi I;clear hq I;obtain⟨r4,r5,r6⟩:=Hz ak.o z.o.base
          skip)
        |
         (go_at_call_of 36 (Value.string f.l)
          apply cM;apply zQ (w0:=wc) (n:=1048576);(focus(first|exact z.o|exact z.o.drew));exact Z3.o.2.2.1;decide;rintro e wn ⟨qq,hq,bq,rfl,I⟩;obtain rfl:=Q6.o.inj hq;clear z;have z:=Hi I;clear hq I;obtain⟨r4,r5,r6⟩:=Hz ak.o z.o.base
          skip)
        |
         (go_at_call_of 36 (Value.string f.m)
          apply cM;apply zQ (w0:=wc) (n:=1048576);(focus(first|exact z.o|exact z.o.drew));exact Z3.o.2.2.2;decide;rintro e wn ⟨qq,hq,bq,rfl,I⟩;obtain rfl:=Q7.o.inj hq;clear z;have z:=Hi I;clear hq I;obtain⟨r4,r5,r6⟩:=Hz ak.o z.o.base
          skip)
        |
         (go_at_call 59
          apply cM;apply eT.yE (w0:=wc);(focus(first|exact z.o|exact z.o.drew));(repeat(first|exact mH|apply mT));rintro e wn ⟨rfl,rfl⟩
          (first|rw[SC.o]|rw[SL.o]|rw[SM.o]))
        |fail)
       first
        |(
         have HN:=Hi (S.o.trans (z.o.base.mono S.o.size));go_fit (pC 5 (k:Int) _);rintro e w9 ⟨rfl,D⟩;have E:=Hi (HN.o.trans (D.mono HN.o.size));have d:=Hi (F.o.below E.o F.o.lt);obtain⟨z0,z1,-⟩:=zc d.o;have f0:=d.o.free 0;have f1:=d.o.free 1;clear D;go_wp2;refine bK (v:=.agg #[.int .i64 5,.int .i64 (k:Int)]) (bG rfl _ _ (w.heap.size+1) 41 #[.int .i64 5,.int .i64 (k:Int)] (0,0) _ rfl ((d.o.set 0 _).set 1 _) underlying41 rfl iy) rfl ?_;exact⟨_,_,rfl,pL (fT ⟨R.o,k,f,aa.o,H.o,T.o,dD,rfl⟩),((g.o.trans (E.o.mono g.o.size)).setCell (dU _) _).setCell (dU _) _⟩
         skip)
        |(
         go_roundw
         case rel=>
          refine⟨k+1,oO,by go_num,?_,S.o.trans (z.o.base.mono S.o.size)⟩;intro i x hi B;rcases bB i k with h|h
          . exact H.o i x h B
          . obtain rfl:i=k:=oO;obtain rfl:=aD (aa.o.symm.trans B);exact T.o
         case measure=>simp[intOf];omega)
  .
   have ch:k=J.length:=oO;subst ch;have B:=L.o.below HB.o L.o.lt;obtain⟨-,-,x2,-⟩:=zc B;clear B;go_wp2_with fail;clear x2;obtain⟨wq,rfl⟩:∃wq,wq=wr:=⟨wr,rfl⟩;go_loopw [122] (fun iv wr=>∃m:Nat,m<=G.length/\iv=.int .i64 m/\(∀(i:Nat)(x:H3),i<m->G[i]?=some x->jp r.length G i x=0)/\Below W.heap.size W wr) (fun iv _=>G.length - (intOf iv).toNat)
   case atStart=>exact⟨0,oO,rfl,fun i x hi=>oO,HB.o⟩
   case round=>
    obtain⟨m,hm,rfl,bx,hb⟩:=hrel;obtain⟨ad,HC,bz⟩:=Ib bx hb (g.o.trans (hb.mono g.o.size));clear bx hb;by_cases ci:m<G.length
    .
     obtain⟨h,a8⟩:∃h,G[m]?=some h:=⟨G[m],gE ci⟩;obtain⟨fb,cd,b0,ce,d0,d1,d2⟩:=(HF.o.h.below bz.o).sJ a8;obtain⟨cw,al⟩:=Ia b0 a8;have q5:((m:Int)<(G.length:Int)):=oO;subst b0;obtain⟨V,hV⟩:=nm (wr.alloc (.cells #[.int .i64 h.j,.int .i64 h.w,.string h.q] 74));have A:O (Bl W V):=Hi (by rw[<-hV];exact HC.o.alloc HC.o.size _);have N:=Uc hV;have B:=L.o.below A.o L.o.lt;obtain⟨-,x1,x2,-⟩:=zc B;rw[<-hV]at x1 x2;have HV:=Hi hV;clear a8 hV B;by_cases gg:h.j<0∨(r.length:Int)<=h.j
     . have X:O (jp r.length G m h=4):=Hi (by unfold jp qE;rw[aH oO]);rcases(show h.j<0∨¬h.j<0/\(r.length:Int)<=h.j by omega) with g1|⟨g1,g2⟩
       all_goals
        clear gg;go_wp2_with fail;rw[HV.o];clear x1 x2 d0 d1 d2;go_fit (pC 4 ((J.length:Int)+(m:Int)) V);rintro e w9 ⟨rfl,D⟩;have E:=Hi (A.o.trans (D.mono A.o.size));have d:=Hi (F.o.below E.o F.o.lt);obtain⟨z0,z1,-⟩:=zc d.o;have f0:=d.o.free 0;have f1:=d.o.free 1;clear D;go_wp2;refine bK (v:=.agg #[.int .i64 4,.int .i64 ((J.length:Int)+(m:Int))]) (bG rfl _ _ (w.heap.size+1) 41 #[.int .i64 4,.int .i64 ((J.length:Int)+(m:Int))] (0,0) _ rfl ((d.o.set 0 _).set 1 _) underlying41 rfl iy) rfl ?_;exact⟨_,_,rfl,pL (pL ⟨R.o,fun i x B=>H.o i x (gZ B).1 B,fT ⟨m,h,al.o,ad.o,X.o,dD,rfl⟩⟩),((g.o.trans (E.o.mono g.o.size)).setCell (dU _) _).setCell (dU _) _⟩
     obtain⟨g1,g2⟩:¬h.j<0/\¬(r.length:Int)<=h.j:=oO;clear gg;have q6:((m:Int)<=(c3:Int)):=oB HF.o.h.fit;by_cases g3:h.w=1∨h.w=2
     .
      have b3:O (∀tw,jp r.length G m h=qE r.length h.j h.w tw->tw=decide ((h.j,h.w)∈ li (G.take m))->jp r.length G m h=if tw=true then 7 else 0):=Hi (fun tw e et=>by rw[e];unfold qE;rw[aN oO,aH oO]);have gg:(h.w != 1)=false∨(h.w != 1)=true/\(h.w != 2)=false:=by
       by_cases g4:h.w=1
       . exact .inl (by rw[vR];exact g4)
       . exact .inr ⟨by rw[jk];exact g4,by rw[vR];omega⟩
      rcases gg with Q|⟨Q,e2⟩
      all_goals
       clear g3;go_wp2_with fail;rw[HV.o];clear x1 x2 d0 d1 d2;obtain⟨wv,rfl⟩:∃wv,wv=wr:=⟨wr,rfl⟩;go_loopw [158] (fun iv wr=>∃i:Nat,i<=m/\iv=.int .i64 i/\(∀(t:Nat)(x:H3),t<i->G[t]?=some x->¬(x.j=h.j/\x.w=h.w))/\Below V.heap.size V wr) (fun iv _=>m - (intOf iv).toNat)
       case atStart=>exact⟨0,oO,rfl,fun t x ht=>oO,ac _ _⟩
       case round=>
        obtain⟨i,hi,rfl,b4,hb⟩:=hrel;obtain⟨b5,HD,b6⟩:=Ib b4 hb (A.o.trans (hb.mono A.o.size));clear b4 hb;by_cases cj:i<m
        .
         obtain⟨o,a9⟩:∃o,G[i]?=some o:=⟨G[i],gE oO⟩;obtain⟨cx,cp,b7,cq,d0,d1,d2⟩:=((HF.o.h.below g.o).below b6.o).sJ a9;cases b7;have b8:=Hi a9;obtain⟨U,hU⟩:=nm (wr.alloc (.cells #[.int .i64 o.j,.int .i64 o.w,.string o.q] 74));have am:Bl V U:=by rw[<-hU];exact HD.o.alloc HD.o.size _
         obtain⟨Z,b9⟩:=Ia (A.o.trans (am.mono A.o.size)) am;obtain⟨v0,v1,-⟩:=zc (N.o.below am N.o.lt);rw[<-hU]at v0 v1;have HU:=Hi hU;have q7:((i:Int)<(m:Int)):=oO;clear a9 hU am;by_cases e3:o.j=h.j/\o.w=h.w
         . have b1:(o.j == h.j)=true:=by rw[mK];exact e3.1
           have b2:(o.w == h.w)=true:=by rw[mK];exact e3.2
           have X:O (jp r.length G m h=7):=Hi (by
            have P:(h.j,h.w)∈ li (G.take m):=by rw[<-e3.1,<-e3.2];exact Tk b8.o cj
            rw[b3.o true (by unfold jp;rw[dC P]) (dC P).symm,aN rfl])
           clear e3;go_wp2_with fail;rw[HU.o];clear v0 v1 d0 d1 d2;go_fit (pC 7 ((J.length:Int)+(m:Int)) U);rintro e w9 ⟨rfl,D⟩;have E:=Hi (Z.o.trans (D.mono Z.o.size));have d:=Hi (F.o.below E.o F.o.lt);obtain⟨z0,z1,-⟩:=zc d.o;have f0:=d.o.free 0;have f1:=d.o.free 1;clear D;go_wp2;refine bK (v:=.agg #[.int .i64 7,.int .i64 ((J.length:Int)+(m:Int))]) (bG rfl _ _ (w.heap.size+1) 41 #[.int .i64 7,.int .i64 ((J.length:Int)+(m:Int))] (0,0) _ rfl ((d.o.set 0 _).set 1 _) underlying41 rfl iy) rfl ?_;exact⟨_,_,rfl,pL (pL ⟨R.o,fun i x B=>H.o i x (gZ B).1 B,fT ⟨m,h,al.o,ad.o,X.o,dD,rfl⟩⟩),((g.o.trans (E.o.mono g.o.size)).setCell (dU _) _).setCell (dU _) _⟩
         .
          have ck:=Hi e3;have gg:(o.j == h.j)=false∨(o.j == h.j)=true/\(o.w == h.w)=false:=by
           by_cases e4:o.j=h.j
           . exact .inr ⟨by rw[mK];exact e4,by rw[aJ];exact fun h=>e3 ⟨e4,h⟩⟩
           . exact .inl (by rw[aJ];exact e4)
          clear e3;rcases gg with b1|⟨b1,b2⟩
          all_goals
           go_wp2;go_roundw
           case rel=>
            refine⟨i+1,oO,by go_num,?_,by rw[HU.o];exact b9.o⟩;intro t x ht B;rcases bB t i with h'|h'
            . exact b5.o t x h' B
            . obtain rfl:t=i:=oO;obtain rfl:=aD (b8.o.symm.trans B);exact ck.o
           case measure=>exact mI
           skip
        . have cl:i=m:=oO;subst cl;have X:O (jp r.length G i h=0):=Hi (by
           have P:=Tj b5.o
           rw[b3.o false (by unfold jp;rw[bS P]) (bS P).symm,aH sS])
          go_wp2;go_roundw
          case rel=>
           refine⟨i+1,oO,by go_num,?_,b6.o⟩;intro t x ht B;rcases bB t i with h'|h'
           . exact ad.o t x h' B
           . obtain rfl:t=i:=oO;obtain rfl:=aD (al.o.symm.trans B);exact X.o
          case measure=>exact mI
       skip
     . have X:O (jp r.length G m h=3):=Hi (by unfold jp qE;rw[aN oO,aN oO]);have Q:(h.w != 1)=true:=by rw[jk];omega
       have e2:(h.w != 2)=true:=by rw[jk];omega
       clear g3;go_wp2_with fail;rw[HV.o];clear x1 x2 d0 d1 d2;go_fit (pC 3 ((J.length:Int)+(m:Int)) V);rintro e w9 ⟨rfl,D⟩;have E:=Hi (A.o.trans (D.mono A.o.size));have d:=Hi (F.o.below E.o F.o.lt);obtain⟨z0,z1,-⟩:=zc d.o;have f0:=d.o.free 0;have f1:=d.o.free 1;clear D;go_wp2;refine bK (v:=.agg #[.int .i64 3,.int .i64 ((J.length:Int)+(m:Int))]) (bG rfl _ _ (w.heap.size+1) 41 #[.int .i64 3,.int .i64 ((J.length:Int)+(m:Int))] (0,0) _ rfl ((d.o.set 0 _).set 1 _) underlying41 rfl iy) rfl ?_;exact⟨_,_,rfl,pL (pL ⟨R.o,fun i x B=>H.o i x (gZ B).1 B,fT ⟨m,h,al.o,ad.o,X.o,dD,rfl⟩⟩),((g.o.trans (E.o.mono g.o.size)).setCell (dU _) _).setCell (dU _) _⟩
    . have cm:m=G.length:=oO;subst cm;have d:=Hi (F.o.below HC.o F.o.lt);obtain⟨z0,z1,-⟩:=zc d.o;have f0:=d.o.free 0;have f1:=d.o.free 1;go_wp2;refine bK (v:=.agg #[.int .i64 0,.int .i64 0]) (bG rfl _ _ (w.heap.size+1) 41 #[.int .i64 0,.int .i64 0] (0,0) _ rfl ((d.o.set 0 _).set 1 _) underlying41 rfl iy) rfl ?_;exact⟨0,0,rfl,pL (pL ⟨R.o,fun i x B=>H.o i x (gZ B).1 B,pL ⟨fun i x B=>ad.o i x (gZ B).1 B,rfl,rfl⟩⟩),(bz.o.setCell (dU _) _).setCell (dU _) _⟩
   skip
def NQ(g h i:Vx)(c1 c2 c3:Nat)(a:Ad)(b:Ap)(d:Ak)(w:Vz)(j:jq w)(k:ja w g h i c1 c2 c3 a b d)(l:jL a b d):
 Calls prog 18 #[.agg #[.slice g a.length c1,.slice h b.length c2,.slice i d.length c3]] w fun e w'=>∃c f,e=.returned (.agg #[.int .i64 c,.int .i64 f])/\dW a b d c f/\Below w.heap.size w w':=by
 by_cases m:te a.length b.length d.length
 . exact Tl g h i c1 c2 c3 a b d w j k l m
 . exact TT g h i c1 c2 c3 a b d w j k l m
def SB.tL{α:Type}{c:α->List Value}{C:Vw}{a:List α}(h:SB w g t C)(b:C.toList=a.flatMap c)(hl:a.length<=cap):eO c w (some ⟨g,0,none⟩) cap a:=by refine⟨hl,⟨fun j u d=>⟨g,0,rfl,h.lt,?_⟩⟩⟩;rw[cC,h.cell j,<-dF,b];exact d
abbrev Gm:ByteArray:=⟨#[48]⟩
abbrev EF:ByteArray:=⟨#[49]⟩
def mF:List S2:=[⟨Gm,Gm⟩,⟨EF,Gm⟩,⟨Gm,EF⟩]
def qN(a b:Int):B6:=⟨a,b,EF,⟨#[]⟩,⟨#[45,49]⟩,⟨#[50]⟩⟩
def xZ:List B6:=[qN 0 1,qN 1 2,qN 2 0]
def xY:List H3:=[⟨0,1,⟨#[]⟩⟩,⟨0,2,⟨#[]⟩⟩,⟨1,2,⟨#[]⟩⟩]
def Ng(a b c:Vx)(c1 c2 c3 n m k:Nat)(w:Vz)(d:m<=24)(hk:k<=20):
 Calls prog 52 #[.agg #[.slice a n c1,.slice b m c2,.slice c k c3]] w fun e w'=>e=.returned (.int .i64 ((m:Int)+(k:Int)))/\Below w.heap.size w w':=by
 go_enter func52,ntmps52;go_wp2;go_ret;exact⟨rfl,bR.alloc lZ _⟩
def Fv(a b c:Vx)(c1 c2 c3 n m k:Nat)(w:Vz)(d:n<=10):
 Calls prog 87 #[.agg #[.slice a n c1,.slice b m c2,.slice c k c3]] w fun e w'=>e=.returned (.int .i64 (2*(n:Int)))/\Below w.heap.size w w':=by
 go_enter func87,ntmps87;go_wp2;go_ret;exact⟨rfl,bR.alloc lZ _⟩
def Fu(j:Nat)(w:Vz)(a:j<=10):Calls prog 88 #[.int .i64 j] w fun e w'=>e=.returned (.int .i64 (2*(j:Int)))/\w'=w:=by go_enter func88,ntmps88;go_wp2;go_ret;exact⟨rfl,rfl⟩
def Ft(j:Nat)(w:Vz)(a:j<=10):Calls prog 89 #[.int .i64 j] w fun e w'=>e=.returned (.int .i64 (2*(j:Int)+1))/\w'=w:=by go_enter func89,ntmps89;go_wp2;go_ret;exact⟨rfl,rfl⟩
def Iy(j:Nat)(a:Int)(q:Vs)(w:Vz)(b:j<=10):Calls prog 46 #[.agg #[.int .i64 j,.int .i64 a,.string q]] w fun e w'=>e=.returned (.int .i64 (if a=1 then 2*(j:Int) else 2*(j:Int)+1))/\Below w.heap.size w w':=by
 have c:=Hi ((ac w.heap.size w).alloc lZ (.cells #[.int .i64 j,.int .i64 a,.string q] 74));by_cases h:a=1
 . subst h;rw[aN rfl];go_enter func46,ntmps46;go_wp2_with fail;go_fit (Fu j _ b);rintro e w1 ⟨rfl,rfl⟩;go_wp2;go_ret;exact⟨rfl,c.o⟩
 . rw[aH h];have d:(a == 1)=false:=by rw[aJ];exact h
   clear h;go_enter func46,ntmps46;go_wp2_with fail;go_fit (Ft j _ b);rintro e w1 ⟨rfl,rfl⟩;go_wp2;go_ret;exact⟨rfl,c.o⟩
def FE.cells(t:FE):List Value:=[t.x,t.y,t.z]
structure lK (w:Vz) (a:Vx) (cap:Nat) (ts:Ah):Prop where
 row:eO FE.cells w a cap ts
 ts:∀t,t∈ ts->eF w (.agg #[t.x,t.y,t.z]) t.q/\Fits t.q t.k/\0<t.k
def lK.below(h:lK w a cap b)(hb:Bl w w'):lK w' a cap b:=
 ⟨h.row.below hb,fun t c=>⟨(h.ts t c).1.below hb,(h.ts t c).2⟩⟩
def lK.at{f:Ah}(h:lK w a cap f){e:FE}(g:f[i]?=some e):
 ∃b c,a=some ⟨b,c,none⟩/\b<w.heap.size/\w.cell? ⟨b,c+i*3,none⟩=some e.x/\w.cell? ⟨b,c+i*3+1,none⟩=some e.y/\w.cell? ⟨b,c+i*3+2,none⟩=some e.z:=by
 obtain⟨b,c,j,k,d⟩:=h.row.at (sz:=3) (fun _=>rfl) dD g;exact⟨b,c,j,k,d 0 _ rfl,d 1 _ rfl,d 2 _ rfl⟩
def lK.get(h:lK w a cap b){e:FE}(c:b[i]?=some e):eF w (.agg #[e.x,e.y,e.z]) e.q/\Fits e.q e.k/\0<e.k:=h.ts e (mO c)
def lV(ts:Ah):Nat:=ts.countP fun t=>!decide (t.q=0)
def Sf{a:Ah}{e:FE}(h:a[k]?=some e):lV (a.take (k+1))=lV (a.take k)+if e.q=0 then 0 else 1:=by unfold lV;rw[jU,h,List.countP_append];by_cases b:e.q=0<;>simp[b]
def MQ(a:Ah):lV a<=a.length:=List.countP_le_length
def Se(a:Vx)(cap:Nat)(b:Ah)(w:Vz)(h:lK w a cap b)(hl:b.length<=1000):
 Calls prog 221 #[.slice a b.length cap] w fun e w'=>e=.returned (.int .i64 (lV b:Nat))/\Below w.heap.size w w':=by
 have A:=Hi h;clear h;go_enter func221,ntmps221;go_wp2_with fail;go_loopw [3,8] (fun n i wr=>∃k:Nat,k<=b.length/\i=.int .i64 k/\n=.int .i64 (lV (b.take k):Nat)/\Below w.heap.size w wr) (fun _ i _=>b.length - (intOf i).toNat)
 case atStart=>exact⟨0,oO,rfl,rfl,ac _ _⟩
 case round=>
  obtain⟨k,hk,rfl,rfl,hb⟩:=hrel;have j:=Hi hb;clear hb;by_cases s:k<b.length
  .
   obtain⟨f,r⟩:∃f,b[k]?=some f:=⟨b[k],gE s⟩;obtain⟨P,F,rfl,G,d0,d1,d2⟩:=(A.o.below j.o).at r;obtain⟨t,_,_⟩:=(A.o.below j.o).get r;have c:=Hi (Sf r);have H:lV (b.take k)<=1000:=by have Q:=MQ (b.take k);have R:=List.length_take_le k b;omega
   obtain⟨B,C,D⟩:=t.one;obtain⟨m,E⟩:=nm (lV (b.take k));rw[E]at H c ⊢;have I:=Hi t;have S:((k:Int)<(b.length:Int)):=oO;obtain⟨V,u⟩:=nm (wr.alloc (.cells #[f.x,f.y,f.z] 99));have d:=Ua u;have J:=Hi u;have K:=ns prog B;have L:=ns prog C;have M:=ns prog D;clear r t E u B C D;go_wp2_with fail;rw[J.o];go_fit (EM (I.o.below d.o));rintro e T ⟨rfl,l⟩;have p:=Hi (j.o.trans ((d.o.trans (l.mono d.o.size)).mono j.o.size));clear l d0 d1 d2 K L M;by_cases g:f.q=0
   . rw[dC g];rw[aN g]at c;clear g;go_wp2;go_roundw
     case rel=>exact⟨k+1,oO,by go_num,by rw[c.o];rfl,p.o⟩
     case measure=>exact mI
   . rw[bS g];rw[aH g]at c;clear g;go_wp2;go_roundw
     case rel=>exact⟨k+1,oO,by go_num,by rw[c.o];go_num,p.o⟩
     case measure=>exact mI
  . have v:k=b.length:=oO;subst v;have N:O (lV (b.take b.length)=lV b):=Hi (by rw[dB]);rw[N.o];go_wp2;go_ret;exact⟨rfl,j.o⟩
structure MR where
 a:Option Addr
 cap:Nat
 ts:List FE
abbrev AA:=List MR
def MR.cells(r:MR):List Value:=[.slice r.a r.ts.length r.cap]
def MR.q(r:MR)(c:Nat):Rat:=(r.ts.map (·.q)).getD c 0
def MR.q_at{r:MR}{c:Nat}{e:FE}(h:r.ts[c]?=some e):r.q c=e.q:=by unfold MR.q;simp[List.getD,h]
def nQ:=@MR.q_at
structure sD (w:Vz) (a:Vx) (cap wide:Nat) (rs:List MR):Prop where
 row:eO MR.cells w a cap rs
 rs:∀r,r∈ rs->lK w r.a r.cap r.ts/\r.ts.length=wide
def sD.below{wide:Nat}{rs:List MR}(h:sD w a cap wide rs)(hb:Bl w w'):sD w' a cap wide rs:=
 ⟨h.row.below hb,fun t b=>⟨(h.rs t b).1.below hb,(h.rs t b).2⟩⟩
def sD.at{wide:Nat}{rs:List MR}(h:sD w a cap wide rs){r:MR}(d:rs[i]?=some r):
 ∃b c,a=some ⟨b,c,none⟩/\b<w.heap.size/\w.cell? ⟨b,c+i,none⟩=some (.slice r.a r.ts.length r.cap):=by
 obtain⟨b,c,e,f,g⟩:=h.row.at (sz:=1) (fun _=>rfl) dD d;refine⟨b,c,e,f,?_⟩;have:=g 0 _ rfl;rw[eP]at this;exact this
def sD.get{wide:Nat}{rs:List MR}(h:sD w a cap wide rs){r:MR}(b:rs[i]?=some r):lK w r.a r.cap r.ts/\r.ts.length=wide:=h.rs r (mO b)
def pW(rs:List MR)(c:Nat)(v:Int):Prop:=
 (v= -1/\∀r∈ rs,r.q c=0)∨∃j r,rs[j]?=some r/\v=(j:Nat)/\r.q c≠0
def pW.skip{rs:List MR}{v:Int}{r:MR}(h:pW (rs.take k) c v)(e:rs[k]?=some r)(f:r.q c=0):pW (rs.take (k+1)) c v:=by
 rw[jU,e];rcases h with ⟨b,d⟩|⟨j,s,b,d,g⟩
 .
  refine .inl ⟨b,fun x a=>?_⟩;rcases bD.1 a with a|a
  . exact d x a
  . obtain rfl:x=r:=sU a
    exact f
 . exact .inr ⟨j,s,by rw[aR (gZ b).1];exact b,d,g⟩
def pW.keep{rs:List MR}{j:Nat}{r:MR}(h:pW (rs.take k) c (j:Nat))(d:rs[k]?=some r):pW (rs.take (k+1)) c (j:Nat):=by
 rw[jU,d];rcases h with ⟨a,b⟩|⟨i,s,a,b,e⟩
 . omega
 . exact .inr ⟨i,s,by rw[aR (gZ a).1];exact a,b,e⟩
def pW.this{rs:List MR}{r:MR}(a:rs[k]?=some r)(b:r.q c≠0):pW (rs.take (k+1)) c (k:Nat):=
 .inr ⟨k,r,by rw[aW (nJ k)];exact a,rfl,b⟩
def Sd(a:Vx)(cap wide c:Nat)(rs:List MR)(w:Vz)(h:sD w a cap wide rs)(hl:rs.length<=1000)(hw:wide<=1000)(N:c<wide):
 Calls prog 188 #[.slice a rs.length cap,.int .i64 c] w fun e w'=>(∃v,e=.returned (.int .i64 v)/\pW rs c v)/\Below w.heap.size w w':=by
 have P:=Hi h;clear h;go_enter func188,ntmps188;go_wp2_with fail;go_loopw [5,6,12] (fun u f i wr=>∃(k m:Nat)(v:Int),k<=rs.length/\i=.int .i64 k/\u=.int .i64 v/\f=.int .i64 m/\m<=1000/\pW (rs.take k) c v/\Below w.heap.size w wr) (fun _ _ i _=>rs.length - (intOf i).toNat)
 case atStart=>exact⟨0,0,-1,oO,rfl,rfl,rfl,oO,.inl ⟨rfl,fun r s=>by simp at s⟩,ac _ _⟩
 case round=>
  obtain⟨k,m,v,hk,rfl,rfl,rfl,Q,R,hb⟩:=hrel;obtain⟨x,A⟩:=Ia hb R;clear hb R;by_cases G:k<rs.length
  .
   obtain⟨r,s⟩:∃r,rs[k]?=some r:=⟨rs[k],gE G⟩;obtain⟨fb,T,rfl,U,d⟩:=(P.o.below x.o).at s;obtain⟨B,H⟩:=(P.o.below x.o).get s;obtain⟨e,C⟩:∃e,r.ts[c]?=some e:=⟨r.ts[c],gE oO⟩;obtain⟨rb,ro,b,V,d0,d1,d2⟩:=B.at C;obtain⟨D,_,_⟩:=B.get C;obtain⟨W,E,S,X⟩:=Ic B s (MR.q_at C) D;have q1:((k:Int)<(rs.length:Int)):=oO;have q2:((c:Int)<(r.ts.length:Int)):=oO;rw[b]at d;have I:=Hi b;clear s B C D b;go_wp2_with fail;go_fit (EM X.o);rintro Y Z ⟨rfl,l⟩;obtain⟨n,J⟩:=Ia (x.o.trans (l.mono x.o.size)) (W.o.below l);clear l d0 d1 d2 d;by_cases t:e.q=0
   . rw[dC t];have F:=Hi (S.o.trans t);clear t;go_wp2;go_roundw
     case measure=>exact mI
     case rel=>exact⟨k+1,m,v,oO,by go_num,rfl,rfl,Q,A.o.skip E.o F.o,n.o⟩
   .
    rw[bS t];have F:O (r.q c≠0):=Hi (fun N=>t (S.o.symm.trans N));have hf:=MQ r.ts;clear t;go_wp2_with fail;have K:=Hi (Se r.a r.cap r.ts Z J.o oO);rw[I.o,H]at K;obtain⟨g,y⟩:=nm (lV r.ts);rw[y]at K hf;clear y;go_fit K.o;rintro Y w5 ⟨rfl,z⟩;have p:=Hi (n.o.trans (z.mono n.o.size));clear z;have y:g<=1000:=oO;by_cases D:v<0
    . clear A;go_wp2;go_roundw
      case measure=>exact mI
      case rel=>exact⟨k+1,g,k,oO,by go_num,rfl,rfl,y,pW.this E.o F.o,p.o⟩
    .
     obtain⟨j,rfl⟩:∃j:Nat,v=j:=⟨v.toNat,oO⟩;clear D;by_cases aa:(g:Int)<(m:Int)
     . go_wp2;go_roundw
       case measure=>exact mI
       case rel=>exact⟨k+1,g,k,oO,by go_num,rfl,rfl,y,pW.this E.o F.o,p.o⟩
     . go_wp2;go_roundw
       case measure=>exact mI
       case rel=>exact⟨k+1,m,j,oO,by go_num,rfl,rfl,Q,A.o.keep E.o,p.o⟩
  . have L:k=rs.length:=oO;subst L;have M:=Hi (by have:=A.o;rw[dB]at this;exact this);go_wp2;go_ret;exact⟨⟨v,rfl,M.o⟩,x.o⟩
def FE.zero:FE:=⟨.bool false,.slice none 0 0,.slice none 0 0,0,1⟩
structure iQ (w:Vz) (g:Nat) (ts:Ah):Prop where
 blk:SB w g 99 (ts.flatMap FE.cells).toArray
 ts:∀t,t∈ ts->eF w (.agg #[t.x,t.y,t.z]) t.q/\Fits t.q t.k/\0<t.k
def iQ.row{a:Ah}(h:iQ w g a):lK w (some ⟨g,0,none⟩) a.length a:=⟨h.blk.tL rfl lZ,h.ts⟩
def iQ.below{a:Ah}(h:iQ w g a)(hb:Bl w w'):iQ w' g a:=⟨h.blk.below hb h.blk.lt,fun t b=>⟨(h.ts t b).1.below hb,(h.ts t b).2⟩⟩
def iQ.no64(h:iQ w g b):pX (b.flatMap FE.cells).toArray:=by
 refine Ps fun v a n=>?_
 obtain⟨t,c,a⟩:=mp.1 a;obtain⟨d,e,f⟩:=(h.ts t c).1.no64 n;simp[FE.cells]at a;rcases a with rfl|rfl|rfl
 . exact d
 . exact e
 . exact f
theorem MP:∀(a:Ah)(k:Nat)(e:FE),k<a.length->(a.set k e).flatMap FE.cells=(((a.flatMap FE.cells).set (k*3) e.x).set (k*3+1) e.y).set (k*3+2) e.z
 | [],k,e,h=>by simp at h
 |t :: l,0,e,_=>by simp[FE.cells]
 |t :: l,k+1,e,h=>by have b:=MP l k e (sU h);rw[bX,fJ,b,fJ];simp only[FE.cells,bO,cH];rw[show (k+1)*3=k*3+1+1+1 by omega];simp only[bX,gT]
def iQ.set{a:Ah}(h:iQ w g a){e:FE}(hk:k<a.length)(c:eF w (.agg #[e.x,e.y,e.z]) e.q/\Fits e.q e.k/\0<e.k):
 iQ (((w.setCell ⟨g,k*3,none⟩ e.x).setCell ⟨g,k*3+1,none⟩ e.y).setCell ⟨g,k*3+2,none⟩ e.z) g (a.set k e):=by
 have d:cE g w (((w.setCell ⟨g,k*3,none⟩ e.x).setCell ⟨g,k*3+1,none⟩ e.y).setCell ⟨g,k*3+2,none⟩ e.z):=(((cX g w).setCell _ _).setCell _ _).setCell _ _;refine⟨?_,fun t b=>?_⟩
 . have:=((h.blk.set (k*3) e.x).set (k*3+1) e.y).set (k*3+2) e.z;rw[MP a k e hk]
   simpa using this
 .
  rcases dN b with b|rfl
  . exact⟨(h.ts t b).1.only d h.blk h.no64,(h.ts t b).2⟩
  . exact⟨c.1.only d h.blk h.no64,c.2⟩
def iQ.new(w:Vz)(n:Nat)(C:Vw)(hC:C=((List.replicate n FE.zero).flatMap FE.cells).toArray):iQ (w.alloc (.cells C 99)) w.heap.size (List.replicate n FE.zero):=by subst hC;refine⟨cK _ _ _,fun t a=>?_⟩;obtain⟨_,rfl⟩:=fM.1 a;exact⟨nR _,nr,dD⟩
def DL:=@iQ.new
def Sc(n:Nat):madeCells (Value.cells (.agg #[.bool false,.slice none 0 0,.slice none 0 0])) (n*3)=((List.replicate n FE.zero).flatMap FE.cells).toArray:=by
 apply tT;apply fK;intro i;by_cases d:i<n*3
 .
  have b:(List.replicate n FE.zero)[i / 3]?=some FE.zero:=by rw[fW,aN oO]
  have a:i % 3=0∨i % 3=1∨i % 3=2:=oO;have e:Value.cells (.agg #[.bool false,.slice none 0 0,.slice none 0 0])=#[.bool false,.slice none 0 0,.slice none 0 0]:=by rfl
  have f:i / 3*3+i % 3=i:=oO;have g:(madeCells (Value.cells (.agg #[.bool false,.slice none 0 0,.slice none 0 0])) (n*3)).toList[i]?=some ((#[Value.bool false,.slice none 0 0,.slice none 0 0]:Array Value)[i % 3]!):=by rw[e];simp[madeCells,d]
  rw[g];have c:∀u,(FE.cells FE.zero)[i % 3]?=some u->((List.replicate n FE.zero).flatMap FE.cells)[i]?=some u:=fun u h=>by have:=EO (sz:=3) (fun _=>rfl) _ _ _ _ _ b h;rw[f]at this;exact this
  simp only[ik];rcases a with a|a|a
  all_goals
   rw[a]at c ⊢;exact(c _ rfl).symm
 . have b:((List.replicate n FE.zero).flatMap FE.cells).length=n*3:=by rw[xz (sz:=3) (fun _=>rfl)];simp
   have j:=wN (Value.cells (.agg #[.bool false,.slice none 0 0,.slice none 0 0])) (n*3);rw[aO (by rw[qL,j];omega),aO (by simp only[ik];rw[b];omega)]
def Hv:(prog.info? 99).map (fun i=>(i.zero,i.size,i.bytes))=some (some (.agg #[.bool false,.slice none 0 0,.slice none 0 0]),3,56):=kK
def B3(n:Nat)(d:n<=1048576)(w:Vz):(Instr.makeSlice 90 (.int .i64 n) (.int .i64 n)).run prog w=.ok (.slice (some ⟨w.heap.size,0,none⟩) n n) (w.alloc (.cells ((List.replicate n FE.zero).flatMap FE.cells).toArray 99)):=by obtain⟨i,a,h⟩:=aZ.1 Hv;simp only[fZ]at h;obtain⟨b,c,hb⟩:=h;have:=qJ w 90 99 i _ underlying90 a b .i64 .i64 n n oO oO (rO hb) oO;rw[fC,c,Sc]at this;exact this
def Made(f:Nat->Rat->Rat)(B:Nat)(ts us:Ah)(k:Nat):Prop:=
 us.length=ts.length/\∀i e,i<k->ts[i]?=some e->∃u,us[i]?=some u/\u.q=f i e.q/\u.k<=B
def Made.start(f:Nat->Rat->Rat)(B:Nat)(a:Ah):Made f B a (List.replicate a.length FE.zero) 0:=⟨sS,fun i e b=>oO⟩
def Made.step{f:Nat->Rat->Rat}{B:Nat}{a us:Ah}{e u:FE}(h:Made f B a us k)(c:a[k]?=some e)(g:u.q=f k e.q)(hB:u.k<=B):Made f B a (us.set k u) (k+1):=by
 have hk:=(gZ c).1;refine⟨by rw[aQ];exact h.1,fun i x n d=>?_⟩;rcases bB i k with b|j
 . obtain⟨y,l,m⟩:=h.2 i x b d
   exact⟨y,by rw[bN oO];exact l,m⟩
 . obtain rfl:i=k:=oO;obtain rfl:=aD (c.symm.trans d);exact⟨u,by rw[bP (by rw[h.1];exact hk)],g,hB⟩
def Sb(a:Vx)(cap B j:Nat)(b:Ah)(b1 b2 A:Ac)(q:Rat)(w:Vz)(h:lK w a cap b)(hl:b.length<=1000)(hv:eF w (.agg #[b1,b2,A]) q)(hq:Fits q j)(hj:0<j)(hB:∀t∈ b,t.k+j<=B)(an:B<68719476000):
 Calls prog 192 #[.slice a b.length cap,.agg #[b1,b2,A]] w fun e w'=>(∃g us,e=.returned (.slice (some ⟨g,0,none⟩) b.length b.length)/\w.heap.size<=g/\iQ w' g us/\Made (fun _ x=>x / q) B b us b.length)/\Below w.heap.size w w':=by
 obtain⟨R,HV,S,T⟩:=Ic h hv hq hB;have E:=fun w=>B3 b.length oO w
 obtain⟨MC,l⟩:=nm (((List.replicate b.length FE.zero).flatMap FE.cells).toArray);rw[l]at E;have U:=Hi l.symm;clear h hv hq hB l;go_enter func192,ntmps192;go_wp2_with fail;clear E;obtain⟨g,V⟩:=nm (w.heap.size+1);have m:w.heap.size<g:=oO;obtain⟨W,hW⟩:=nm ((w.alloc (.cells #[b1,b2,A] 99)).alloc (.cells MC 99));have X:=Ub hW;have Y:=Ud hW;have Z:O (iQ W g (List.replicate b.length FE.zero)):=Hi (by rw[<-hW,<-V];have:=DL (w.alloc (.cells #[b1,b2,A] 99)) b.length MC U.o;simpa using this)
 try rw[hW]
 try rw[V]
 clear hW V;go_loopw [12] (fun i wr=>∃(k:Nat)(us:Ah),k<=b.length/\i=.int .i64 k/\Made (fun _ x=>x / q) B b us k/\iQ wr g us/\SB wr w.heap.size 99 #[b1,b2,A]/\Below w.heap.size w wr) (fun i _=>b.length - (intOf i).toNat)
 case atStart=>exact⟨0,_,oO,rfl,Made.start _ _ _,Z.o,Y.o,X.o⟩
 case round=>
  obtain⟨k,us,hk,rfl,hm,n,hs,hb⟩:=hrel;obtain⟨C,HM,HQ,HS⟩:=Ic hb hm n hs;have ao:=hm.1;have ap:=n.blk.lt;clear hb hm n hs;by_cases aa:k<b.length
  .
   obtain⟨e,D⟩:∃e,b[k]?=some e:=⟨b[k],gE aa⟩;obtain⟨Q,r,rfl,aq,_⟩:=R.o.at D;obtain⟨ar,al,ab,ad,d0,d1,d2⟩:=(R.o.below C.o).at D;cases ab;have n1:g≠Q:=oO;have n2:g≠w.heap.size:=oO;obtain⟨hx,F,G⟩:=(R.o.below C.o).get D;have ae:=T.o e (mO D);obtain⟨y0,H⟩:∃y0,us[k]?=some y0:=⟨us[k],gE oO⟩;obtain⟨HE,HX,s,HY⟩:=Ic D hx F (HV.o.below C.o);obtain⟨k0,k1,k2,-⟩:=zc HS.o;have q1:((k:Int)<(b.length:Int)):=oO;obtain⟨af,D0,D1,D2⟩:=Ic H d0 d1 d2;clear D hx F H;go_wp2_with fail;go_region_held3 (fun v=>v.cell? ⟨Q,r+k*3,none⟩=some e.x/\v.cell? ⟨Q,r+k*3+1,none⟩=some e.y/\v.cell? ⟨Q,r+k*3+2,none⟩=some e.z/\v.cell? ⟨w.heap.size,0,none⟩=some b1/\v.cell? ⟨w.heap.size,1,none⟩=some b2/\v.cell? ⟨w.heap.size,2,none⟩=some A) ((first|(simp [*];done)|go_keep)) (first
    |(
     go_at_call_of 56 e.x;apply cM
     first
      |exact FH HX.o HY.o s.o S.o oO
      |exact FH (HX.o.below bR.drew) (HY.o.below bR.drew) s.o S.o oO
     rintro e' w5 ⟨⟨v5,rfl,f⟩,u⟩;obtain⟨I,J,K,c5,L,M,N,rfl,f⟩:=f
     first
      |have c:O (Bl wr w5):=Hi u
      |have c:O (Bl wr w5):=Hi (bR.drew.trans u)
     have ag:O (eF w5 (.agg #[.bool I,.slice J K c5,.slice L M N]) (e.q / q)):=Hi ⟨I,J,K,c5,L,M,N,rfl,f⟩;clear f u;have d:=Hi (HQ.o.below c.o);obtain⟨v0,v1,v2⟩:=Jb c.o ad D0.o D1.o D2.o;have P:=Hi (HS.o.below c.o HS.o.lt);obtain⟨u0,u1,u2,-⟩:=zc P.o;have f0:=d.o.blk.free (k*3);have f1:=d.o.blk.free (k*3+1);have f2:=d.o.blk.free (k*3+2);obtain⟨gb,am,ah,_,t0,t1,t2⟩:=d.o.row.at af.o;cases ah;simp only[cC]at t0 t1 t2
     skip))
   all_goals
    go_wp2_with fail;obtain⟨HN,ai,aj⟩:=Ib (d.o.set (k:=k) (e:=⟨.bool I,.slice J K c5,.slice L M N,e.q / q,e.k+j⟩) oO ⟨ag.o,s.o.div S.o G hj,Nat.lt_add_right j G⟩) (((P.o.other n2.symm (k*3) (.bool I)).other n2.symm (k*3+1) (.slice J K c5)).other n2.symm (k*3+2) (.slice L M N)) ((((C.o.trans (c.o.mono C.o.size)).setCell (p:=⟨g,k*3,none⟩) (dO m) (.bool I)).setCell (p:=⟨g,k*3+1,none⟩) (dO m) (.slice J K c5)).setCell (p:=⟨g,k*3+2,none⟩) (dO m) (.slice L M N));refine⟨⟨k+1,_,oO,by go_num,HM.o.step HE.o rfl ae,HN.o,ai.o,aj.o⟩,?_⟩;simp[intOf];omega
  . have ak:k=b.length:=oO;subst ak;go_wp2;go_ret;exact⟨⟨g,us,rfl,oO,HQ.o,HM.o⟩,C.o⟩
end Go.Proofs.YtfgclhpgdanmfaaGreatDoor
