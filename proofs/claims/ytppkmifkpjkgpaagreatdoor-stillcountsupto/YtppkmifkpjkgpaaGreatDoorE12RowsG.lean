import Derived.Test.YtppkmifkpjkgpaaGreatDoorE11RefC
namespace Go.Proofs.YtppkmifkpjkgpaaGreatDoor
open Go.RowKit
open Go.Proofs.Tryz
set_option linter.unusedSimpArgs false
set_option linter.unusedVariables false
set_option maxHeartbeats 8000000
set_option maxRecDepth 1000000
theorem Qtw{hs:List H3}{m i:Nat}{o:H3}(h:hs[i]?=some o)(a:i<m):(o.j,o.w)∈ places (hs.take m):=by
 unfold places;exact List.mem_map.2 ⟨o,mO (i:=i) (by rw[List.getElem?_take_of_lt a];exact h),rfl⟩
theorem Qtx{hs:List H3}{m:Nat}{h:H3}(c:∀(t:Nat) (x:H3),t<m->hs[t]?=some x->¬(x.j=h.j/\x.w=h.w)):(h.j,h.w) ∉ places (hs.take m):=by
 intro b;unfold places at b;obtain⟨x,d,e⟩:=List.mem_map.1 b;obtain⟨t,a⟩:=List.getElem?_of_mem d;have hl:=(gZ a).1;rw[List.length_take] at hl;rw[List.getElem?_take_of_lt (by omega)] at a;simp only[Prod.mk.injEq] at e;exact c t x (by omega) a e
theorem Qaj{X Y:Vz}{g h:Nat}{t:Vr}{a b c d:Value}(k:SB X g t #[a,b])(l:SB X h t #[c,d])(e:Bl X Y):Y.cell? ⟨g,0,none⟩=some a/\Y.cell? ⟨g,1,none⟩=some b/\Y.cell? ⟨h,0,none⟩=some c/\Y.cell? ⟨h,1,none⟩=some d:=
 ⟨(k.below e k.lt).cell 0,(k.below e k.lt).cell 1,(l.below e l.lt).cell 0,(l.below e l.lt).cell 1⟩
theorem Qen{X Y:Vz}{g:Nat}{t:Vr}{a b c d e f:Value}(k:SB X g t #[a,b,c,d,e,f])(h:Bl X Y):Y.cell? ⟨g,2,none⟩=some c/\Y.cell? ⟨g,4,none⟩=some e/\Y.cell? ⟨g,5,none⟩=some f:=
 ⟨(k.below h k.lt).cell 2,(k.below h k.lt).cell 4,(k.below h k.lt).cell 5⟩
theorem Qty(a1 a2 a3:Vx)(c1 c2 c3:Nat)(A:List S2)(K:List B6)(hs:List H3)(w:Vz)(hg:Glob w)(hf:FrRow w a1 a2 a3 c1 c2 c3 A K hs)(hz:FrSized A K hs)(hm:¬Many A.length K.length hs.length):
 Calls prog 7 #[.agg #[.slice a1 A.length c1,.slice a2 K.length c2,.slice a3 hs.length c3]] w fun e w'=>∃c a6,e=.returned (.agg #[.int .i64 c,.int .i64 a6])/\FrameFault A K hs c a6/\Below w.heap.size w w':=by
 have n0:=Nat.le_of_not_lt fun h=>hm (.inl h)
 have n1:=Nat.le_of_not_lt fun h=>hm (.inr (.inl h))
 have n2:=Nat.le_of_not_lt fun h=>hm (.inr (.inr (.inl h)))
 have n3:=Nat.le_of_not_lt fun h=>hm (.inr (.inr (.inr h)))
 have Y:=Hi hm;have q1:((A.length:Int) == 0)=false:=by rw[beq_eq_false_iff_ne];omega
 have q2:¬((10:Int)<(A.length:Int)):=by omega
 have q3:¬((24:Int)<(K.length:Int)):=by omega
 have q4:¬((20:Int)<(hs.length:Int)):=by omega
 clear hm;obtain⟨HG,HF,HZ⟩:=Ib hg hf hz;clear hg hf hz;go_enter func7,ntmps7;obtain⟨W,hW⟩:=nm ((w.alloc (.cells #[.slice a1 A.length c1,.slice a2 K.length c2,.slice a3 hs.length c3] 26)).alloc (.cells #[.int .i64 0,.int .i64 0] 31));have z:=Ub hW;have M:=Ud hW;have I:=Ue hW;have a7:O (Bl W W):=Hi bR;have F:=M.o.below a7.o M.o.lt;have hy:=I.o.below a7.o I.o.lt;obtain⟨x0,x1,-⟩:=zc F
 obtain⟨-,-,x2,-⟩:=zc F;obtain⟨z0,z1,-⟩:=zc hy;have f0:=hy.free 0;have f1:=hy.free 1;clear F hy;rw[<-hW] at x0 x1 x2 z0 z1 f0 f1;have HW:=Hi hW;clear hW;go_wp2_with fail;rw[HW.o];clear x0 x1 x2 z0 z1 f0 f1 q1 q2 q3 q4;go_loopw [38] (fun iv wr=>∃k:Nat,k<=K.length/\iv=.int .i64 k/\(∀(i:Nat) (x:B6),i<k->K[i]?=some x->BarCode A x 0)/\Below W.heap.size W wr) (fun iv _=>K.length - (intOf iv).toNat)
 case atStart=>exact⟨0,by omega,rfl,fun i x hi=>by omega,Below.refl _ _⟩
 case round=>
  obtain⟨k,hk,rfl,al,hb⟩:=hrel;obtain⟨J,HB,b3⟩:=Ib al hb (z.o.trans (hb.mono z.o.size));clear al hb;by_cases b4:k<K.length
  .
   obtain⟨f,am⟩:∃f,K[k]?=some f:=⟨K[k],gE b4⟩;obtain⟨fb,b5,rfl,b6,d0,d1,d2,d3,d4,d5⟩:=(HF.o.b.below b3.o).bar am;have ad:=Hi am;have q5:((k:Int)<(K.length:Int)):=by omega
   obtain⟨V,hV⟩:=nm (wr.alloc (.cells #[.int .i64 f.a,.int .i64 f.b,.string f.c,.string f.e,.string f.l,.string f.m] 80));have C:O (Bl W V):=Hi (by rw[<-hV];exact HB.o.alloc HB.o.size _);have T:=Uc hV;have HV:=Hi hV;clear am hV;by_cases gg:f.a<0∨f.b<0∨(A.length:Int)<=f.a∨(A.length:Int)<=f.b
   .
    have b7:O (¬(IsJ A.length f.a/\IsJ A.length f.b)):=Hi (fun h=>by unfold IsJ at h;omega);rcases(show f.a<0∨¬f.a<0/\f.b<0∨¬f.a<0/\¬f.b<0/\(A.length:Int)<=f.a∨¬f.a<0/\¬f.b<0/\¬(A.length:Int)<=f.a/\(A.length:Int)<=f.b by omega) with g1|⟨g1,g2⟩|⟨g1,g2,g3⟩|⟨g1,g2,g3,g4⟩
    all_goals
     clear gg;go_wp2_with fail;rw[HV.o];clear d0 d1 d2 d3 d4 d5;go_fit (ref_F 4 (k:Int) V);rintro e w9 ⟨rfl,G⟩;have H:=Hi (C.o.trans (G.mono C.o.size));have r:=Hi (I.o.below H.o I.o.lt);obtain⟨z0,z1,-⟩:=zc r.o;have f0:=r.o.free 0;have f1:=r.o.free 1;clear G;go_wp2;refine bodyPost_ret (v:=.agg #[.int .i64 4,.int .i64 (k:Int)]) (results_cell_row rfl _ _ (w.heap.size+1) 31 #[.int .i64 4,.int .i64 (k:Int)] (0,0) _ rfl ((r.o.set 0 _).set 1 _) underlying31 rfl Tryz.faultInfo) rfl ?_;exact⟨_,_,rfl,Or.inr (Or.inl ⟨Y.o,k,f,ad.o,J.o,Or.inl ⟨b7.o,rfl⟩,by decide,rfl⟩),((z.o.trans (H.o.mono z.o.size)).setCell (Nat.le_succ _) _).setCell (Nat.le_succ _) _⟩
   obtain⟨g1,g2,g3,g4⟩:¬f.a<0/\¬f.b<0/\¬(A.length:Int)<=f.a/\¬(A.length:Int)<=f.b:=by omega
   clear gg;have ah:IsJ A.length f.a:=⟨by omega,by omega⟩;have a8:IsJ A.length f.b:=⟨by omega,by omega⟩;obtain⟨an,ao⟩:=Ia ah a8;clear ah a8;obtain⟨ka,a9⟩:=Int.eq_ofNat_of_zero_le an.o.1;obtain⟨kb,ba⟩:=Int.eq_ofNat_of_zero_le ao.o.1;obtain⟨p,hp⟩:∃p,A[ka]?=some p:=⟨_,gE (by have:=an.o.2;omega)⟩;obtain⟨q,u⟩:∃q,A[kb]?=some q:=⟨_,gE (by have:=ao.o.2;omega)⟩;obtain⟨ap,aq,HP,HQ⟩:=Ic a9 ba hp u;clear a9 ba hp u;go_wp2_with fail;rw[HV.o,ap.o,aq.o];clear d0 d1 d2 d3 d4 d5;obtain⟨jb,jo,ah,cj,d0,d1⟩:=((HF.o.j.below z.o).below C.o).spot HP.o;obtain⟨ck,cl,bb,cg,d2,d3⟩:=((HF.o.j.below z.o).below C.o).spot HQ.o;subst ah;cases bb;have F:=M.o.below C.o M.o.lt
   obtain⟨x0,-⟩:=zc F;have y0:V.cell? ⟨wr.heap.size,0,none⟩=some (.int .i64 (ka:Int)):=by rw[<-ap.o];exact T.o.cell 0
   have y1:V.cell? ⟨wr.heap.size,1,none⟩=some (.int .i64 (kb:Int)):=by rw[<-aq.o];exact T.o.cell 1
   have i1:((0:Int)<=(ka:Int)):=by omega
   have i2:((0:Int)<=(kb:Int)):=by omega
   have i3:((ka:Int)<(A.length:Int)):=by have:=(gZ HP.o).1;omega
   have i4:((kb:Int)<(A.length:Int)):=by have:=(gZ HQ.o).1;omega
   have l0:=M.o.lt;have l1:=C.o.size;have l2:=T.o.lt;have m1:V.heap.size≠w.heap.size:=by omega
   have m2:V.heap.size≠wr.heap.size:=by omega
   have m3:V.heap.size≠jb:=by omega
   have m4:V.heap.size+1≠w.heap.size:=by omega
   have m5:V.heap.size+1≠wr.heap.size:=by omega
   have m6:V.heap.size+1≠jb:=by omega
   clear F;go_cut [6,7] (fun s6 s7 wx=>∃g6 g7:Nat,s6=.pointer (some ⟨g6,0,none⟩)/\s7=.pointer (some ⟨g7,0,none⟩)/\SB wx g6 56 #[.string p.x,.string p.y]/\SB wx g7 56 #[.string q.x,.string q.y]/\Below V.heap.size V wx)
   case first=>
    go_region_held3 (fun v=>v.cell? ⟨w.heap.size,0,none⟩=some (.slice (some ⟨jb,jo,none⟩) A.length c1)/\v.cell? ⟨wr.heap.size,0,none⟩=some (.int .i64 (ka:Int))/\v.cell? ⟨wr.heap.size,1,none⟩=some (.int .i64 (kb:Int))/\v.cell? ⟨jb,jo+ka*2,none⟩=some (.string p.x)/\v.cell? ⟨jb,jo+ka*2+1,none⟩=some (.string p.y)/\v.cell? ⟨jb,jo+kb*2,none⟩=some (.string q.x)/\v.cell? ⟨jb,jo+kb*2+1,none⟩=some (.string q.y)) ((first|(simp [*];done)|go_keep)) (fail)
    all_goals
     go_wp2_with fail;go_meet
     case rel=>
      first
       |exact⟨_,_,rfl,rfl,SB.drew ((SB.new V _ _).alloc _),SB.drew (SB.new2 V _ _ _ _),(Below.new2 V _ _).drew⟩
       |exact⟨_,_,rfl,rfl,SB.drew (SB.new2 V _ _ _ _),SB.drew ((SB.new V _ _).alloc _),(Below.new2 V _ _).drew⟩
   case rest=>
    obtain⟨g6,g7,rfl,rfl,bc,bd,ar⟩:=hcut;obtain⟨wx,rfl⟩:∃wx,wx=wc:=⟨wc,rfl⟩;obtain⟨D,E,be,au⟩:=Ic bc bd (T.o.below ar T.o.lt) (C.o.trans (ar.mono C.o.size));have g:=Hi (RBag.start ((HG.o.below z.o).below au.o).most);obtain⟨px,bf⟩:=QOf.ex p.x.data.toList;obtain⟨py,bg⟩:=QOf.ex p.y.data.toList;obtain⟨qx,bh⟩:=QOf.ex q.x.data.toList;obtain⟨qy,bi⟩:=QOf.ex q.y.data.toList;obtain⟨vc,bj⟩:=QOf.ex f.c.data.toList;obtain⟨vl,bk⟩:=QOf.ex f.l.data.toList;obtain⟨vm,bl⟩:=QOf.ex f.m.data.toList;obtain⟨Q1,Q2,Q3,Q4,Q5,Q6,Q7,Z1,Z2⟩:=Ih bf bg bh bi bj bk bl (HZ.o.j p (mO HP.o)) (HZ.o.j q (mO HQ.o));have Z3:=Hi (HZ.o.b f (mO ad.o))
    have bm:O (∀c,c=(if px=qx/\py=qy then 5 else if sgn3 vc.num<=0∨0<sgn3 vl.num∨sgn3 vm.num<0 then 5 else 0)->BarCode A f c):=Hi (fun c hc=>.inr ⟨an.o,ao.o,p,q,by rw[ap.o];exact HP.o,by rw[aq.o];exact HQ.o,px,py,qx,qy,vc,vl,vm,Q1.o,Q2.o,Q3.o,Q4.o,Q5.o,Q6.o,Q7.o,hc⟩);clear bc bd ar bf bg bh bi bj bk bl x0 y0 y1 d0 d1 d2 d3 i1 i2 i3 i4 l0 l1 l2 m1 m2 m3 m4 m5 m6;obtain⟨N,P,Q,R⟩:=Qaj D.o E.o g.o.base;go_wp2_with fail;go_cut [94] (fun s wy=>s=.bool (decide (px=qx/\py=qy))/\Below wx.heap.size wx wy)
    case first=>
     by_cases S:px=qx
     .
      by_cases e2:py=qy
      .
       obtain⟨ae,av,af⟩:=Ib S e2 (decide_eq_true (show px=qx/\py=qy from ⟨S,e2⟩));clear S e2;go_region_held3 (fun v=>v.cell? ⟨g6,0,none⟩=some (.string p.x)/\v.cell? ⟨g6,1,none⟩=some (.string p.y)/\v.cell? ⟨g7,0,none⟩=some (.string q.x)/\v.cell? ⟨g7,1,none⟩=some (.string q.y)) ((first|(simp [*];done)|go_keep)) (first
        |
         (go_at_call_of 33 (Value.string p.x)
          apply cM;apply RBag.of (w0:=wx) (n:=1048576);(focus(first|exact g.o|exact g.o.drew));exact Z1.o.1;decide;rintro e L ⟨qq,u,bq,rfl,d⟩;obtain rfl:=Q1.o.inj u;clear g;have g:=Hi d;clear u d;obtain⟨N,P,Q,R⟩:=Qaj D.o E.o g.o.base
          skip)
        |
         (go_at_call_of 33 (Value.string p.y)
          apply cM;apply RBag.of (w0:=wx) (n:=1048576);(focus(first|exact g.o|exact g.o.drew));exact Z1.o.2;decide;rintro e L ⟨qq,u,bq,rfl,d⟩;obtain rfl:=Q2.o.inj u;clear g;have g:=Hi d;clear u d;obtain⟨N,P,Q,R⟩:=Qaj D.o E.o g.o.base
          skip)
        |
         (go_at_call_of 33 (Value.string q.x)
          apply cM;apply RBag.of (w0:=wx) (n:=1048576);(focus(first|exact g.o|exact g.o.drew));exact Z2.o.1;decide;rintro e L ⟨qq,u,bq,rfl,d⟩;obtain rfl:=Q3.o.inj u;clear g;have g:=Hi d;clear u d;obtain⟨N,P,Q,R⟩:=Qaj D.o E.o g.o.base
          skip)
        |
         (go_at_call_of 33 (Value.string q.y)
          apply cM;apply RBag.of (w0:=wx) (n:=1048576);(focus(first|exact g.o|exact g.o.drew));exact Z2.o.2;decide;rintro e L ⟨qq,u,bq,rfl,d⟩;obtain rfl:=Q4.o.inj u;clear g;have g:=Hi d;clear u d;obtain⟨N,P,Q,R⟩:=Qaj D.o E.o g.o.base
          skip)
        |
         (go_at_call 34
          apply cM;apply RBag.cmpT (w0:=wx);(focus(first|exact g.o|exact g.o.drew));repeat(first|exact mH|apply mT);decide;exact ae.o;rintro e L ⟨rfl,d⟩;clear g;have g:=Hi d;clear d;obtain⟨N,P,Q,R⟩:=Qaj D.o E.o g.o.base
          skip)
        |
         (go_at_call 34
          apply cM;apply RBag.cmpT (w0:=wx);(focus(first|exact g.o|exact g.o.drew));repeat(first|exact mH|apply mT);decide;exact av.o;rintro e L ⟨rfl,d⟩;clear g;have g:=Hi d;clear d;obtain⟨N,P,Q,R⟩:=Qaj D.o E.o g.o.base
          skip)
        )
       all_goals
        go_wp2_with fail;go_meet
        case rel=>exact⟨by simp[af.o, *],g.o.base⟩
        skip
      .
       obtain⟨ae,av,af⟩:=Ib S e2 (decide_eq_false (show ¬(px=qx/\py=qy) from fun h=>e2 h.2));clear S e2;go_region_held3 (fun v=>v.cell? ⟨g6,0,none⟩=some (.string p.x)/\v.cell? ⟨g6,1,none⟩=some (.string p.y)/\v.cell? ⟨g7,0,none⟩=some (.string q.x)/\v.cell? ⟨g7,1,none⟩=some (.string q.y)) ((first|(simp [*];done)|go_keep)) (first
        |
         (go_at_call_of 33 (Value.string p.x)
          apply cM;apply RBag.of (w0:=wx) (n:=1048576);(focus(first|exact g.o|exact g.o.drew));exact Z1.o.1;decide;rintro e L ⟨qq,u,bq,rfl,d⟩;obtain rfl:=Q1.o.inj u;clear g;have g:=Hi d;clear u d;obtain⟨N,P,Q,R⟩:=Qaj D.o E.o g.o.base
          skip)
        |
         (go_at_call_of 33 (Value.string p.y)
          apply cM;apply RBag.of (w0:=wx) (n:=1048576);(focus(first|exact g.o|exact g.o.drew));exact Z1.o.2;decide;rintro e L ⟨qq,u,bq,rfl,d⟩;obtain rfl:=Q2.o.inj u;clear g;have g:=Hi d;clear u d;obtain⟨N,P,Q,R⟩:=Qaj D.o E.o g.o.base
          skip)
        |
         (go_at_call_of 33 (Value.string q.x)
          apply cM;apply RBag.of (w0:=wx) (n:=1048576);(focus(first|exact g.o|exact g.o.drew));exact Z2.o.1;decide;rintro e L ⟨qq,u,bq,rfl,d⟩;obtain rfl:=Q3.o.inj u;clear g;have g:=Hi d;clear u d;obtain⟨N,P,Q,R⟩:=Qaj D.o E.o g.o.base
          skip)
        |
         (go_at_call_of 33 (Value.string q.y)
          apply cM;apply RBag.of (w0:=wx) (n:=1048576);(focus(first|exact g.o|exact g.o.drew));exact Z2.o.2;decide;rintro e L ⟨qq,u,bq,rfl,d⟩;obtain rfl:=Q4.o.inj u;clear g;have g:=Hi d;clear u d;obtain⟨N,P,Q,R⟩:=Qaj D.o E.o g.o.base
          skip)
        |
         (go_at_call 34
          apply cM;apply RBag.cmpT (w0:=wx);(focus(first|exact g.o|exact g.o.drew));repeat(first|exact mH|apply mT);decide;exact ae.o;rintro e L ⟨rfl,d⟩;clear g;have g:=Hi d;clear d;obtain⟨N,P,Q,R⟩:=Qaj D.o E.o g.o.base
          skip)
        |
         (go_at_call 34
          apply cM;apply RBag.cmpF (w0:=wx);(focus(first|exact g.o|exact g.o.drew));repeat(first|exact mH|apply mT);decide;exact av.o;rintro e L ⟨⟨cc,rfl,b8⟩,d⟩;clear g;have g:=Hi d;clear d;obtain⟨N,P,Q,R⟩:=Qaj D.o E.o g.o.base
          skip)
        )
       all_goals
        go_wp2_with fail;go_meet
        case rel=>exact⟨by simp[af.o, *],g.o.base⟩
        skip
     .
      obtain⟨ae,af⟩:=Ia S (decide_eq_false (show ¬(px=qx/\py=qy) from fun h=>S h.1));clear S
      first
       |(
        go_region_with (first
         |
          (go_at_call_of 33 (Value.string p.x)
           apply cM;apply RBag.of (w0:=wx) (n:=1048576);(focus(first|exact g.o|exact g.o.drew));exact Z1.o.1;decide;rintro e L ⟨qq,u,bq,rfl,d⟩;obtain rfl:=Q1.o.inj u;clear g;have g:=Hi d;clear u d;obtain⟨N,P,Q,R⟩:=Qaj D.o E.o g.o.base
           skip)
         |
          (go_at_call_of 33 (Value.string p.y)
           apply cM;apply RBag.of (w0:=wx) (n:=1048576);(focus(first|exact g.o|exact g.o.drew));exact Z1.o.2;decide;rintro e L ⟨qq,u,bq,rfl,d⟩;obtain rfl:=Q2.o.inj u;clear g;have g:=Hi d;clear u d;obtain⟨N,P,Q,R⟩:=Qaj D.o E.o g.o.base
           skip)
         |
          (go_at_call_of 33 (Value.string q.x)
           apply cM;apply RBag.of (w0:=wx) (n:=1048576);(focus(first|exact g.o|exact g.o.drew));exact Z2.o.1;decide;rintro e L ⟨qq,u,bq,rfl,d⟩;obtain rfl:=Q3.o.inj u;clear g;have g:=Hi d;clear u d;obtain⟨N,P,Q,R⟩:=Qaj D.o E.o g.o.base
           skip)
         |
          (go_at_call_of 33 (Value.string q.y)
           apply cM;apply RBag.of (w0:=wx) (n:=1048576);(focus(first|exact g.o|exact g.o.drew));exact Z2.o.2;decide;rintro e L ⟨qq,u,bq,rfl,d⟩;obtain rfl:=Q4.o.inj u;clear g;have g:=Hi d;clear u d;obtain⟨N,P,Q,R⟩:=Qaj D.o E.o g.o.base
           skip)
         |
          (go_at_call 34
           apply cM;apply RBag.cmpF (w0:=wx);(focus(first|exact g.o|exact g.o.drew));repeat(first|exact mH|apply mT);decide;exact ae.o;rintro e L ⟨⟨cc,rfl,b8⟩,d⟩;clear g;have g:=Hi d;clear d;obtain⟨N,P,Q,R⟩:=Qaj D.o E.o g.o.base
           skip)
         ))
       |fail
      all_goals
       go_wp2_with fail;go_meet
       case rel=>exact⟨by simp[af.o, *],g.o.base⟩
       skip
    case rest=>
     obtain⟨rfl,aw⟩:=hcut;obtain⟨Z,ai⟩:=Ia (au.o.trans (aw.mono au.o.size)) (be.o.below aw be.o.lt);clear aw N P Q R;by_cases S:px=qx/\py=qy
     .
      have aa:=Hi (bm.o 5 (by rw[if_pos S]));rw[decide_eq_true S];clear S;go_wp2_with fail;go_fit (ref_F 5 (k:Int) wc);rintro e w9 ⟨rfl,G⟩;have H:=Hi (Z.o.trans (G.mono Z.o.size));have r:=Hi (I.o.below H.o I.o.lt);obtain⟨z0,z1,-⟩:=zc r.o;have f0:=r.o.free 0;have f1:=r.o.free 1;clear G;go_wp2;refine bodyPost_ret (v:=.agg #[.int .i64 5,.int .i64 (k:Int)]) (results_cell_row rfl _ _ (w.heap.size+1) 31 #[.int .i64 5,.int .i64 (k:Int)] (0,0) _ rfl ((r.o.set 0 _).set 1 _) underlying31 rfl Tryz.faultInfo) rfl ?_;exact⟨_,_,rfl,Or.inr (Or.inl ⟨Y.o,k,f,ad.o,J.o,aa.o,by decide,rfl⟩),((z.o.trans (H.o.mono z.o.size)).setCell (Nat.le_succ _) _).setCell (Nat.le_succ _) _⟩
     .
      rw[decide_eq_false S];obtain⟨sc,ax⟩:=nm (sgn3 vc.num);obtain⟨sl,ay⟩:=nm (sgn3 vl.num);obtain⟨sm,az⟩:=nm (sgn3 vm.num);obtain⟨a0,SC,SL,SM⟩:=Ic (fun c hc=>bm.o c (by rw[if_neg S,ax,ay,az];exact hc)) ax ay az;clear ax ay az S;have B:=Hi (RBag.start ((HG.o.below z.o).below Z.o).most);obtain⟨r4,r5,r6⟩:=Qen ai.o B.o.base;have gg:sc<=0/\O (BarCode A f 5)∨¬sc<=0/\0<sl/\O (BarCode A f 5)∨¬sc<=0/\¬0<sl/\sm<0/\O (BarCode A f 5)∨¬sc<=0/\¬0<sl/\¬sm<0/\O (BarCode A f 0):=by
       have y:=fun h=>Hi (a0.o 5 (by rw[if_pos h]))
       by_cases s1:sc<=0
       . exact .inl ⟨s1,y (.inl s1)⟩
       by_cases s2:0<sl
       . exact .inr (.inl ⟨s1,s2,y (.inr (.inl s2))⟩)
       by_cases s3:sm<0
       . exact .inr (.inr (.inl ⟨s1,s2,s3,y (.inr (.inr s3))⟩))
       exact .inr (.inr (.inr ⟨s1,s2,s3,Hi (a0.o 0 (by rw[if_neg (by omega)]))⟩))
      clear a0;rcases gg with ⟨s1,aa⟩|⟨s1,s2,aa⟩|⟨s1,s2,s3,aa⟩|⟨s1,s2,s3,aa⟩
      all_goals
       go_wp2_with (first
        |
         (go_at_call_of 33 (Value.string f.c)
          apply cM;apply RBag.of (w0:=wc) (n:=1048576);(focus(first|exact B.o|exact B.o.drew));exact Z3.o.1;decide;rintro e L ⟨qq,u,bq,rfl,d⟩;obtain rfl:=Q5.o.inj u;clear B;have B:=Hi d;clear u d;obtain⟨r4,r5,r6⟩:=Qen ai.o B.o.base
          skip)
        |
         (go_at_call_of 33 (Value.string f.l)
          apply cM;apply RBag.of (w0:=wc) (n:=1048576);(focus(first|exact B.o|exact B.o.drew));exact Z3.o.2.2.1;decide;rintro e L ⟨qq,u,bq,rfl,d⟩;obtain rfl:=Q6.o.inj u;clear B;have B:=Hi d;clear u d;obtain⟨r4,r5,r6⟩:=Qen ai.o B.o.base
          skip)
        |
         (go_at_call_of 33 (Value.string f.m)
          apply cM;apply RBag.of (w0:=wc) (n:=1048576);(focus(first|exact B.o|exact B.o.drew));exact Z3.o.2.2.2;decide;rintro e L ⟨qq,u,bq,rfl,d⟩;obtain rfl:=Q7.o.inj u;clear B;have B:=Hi d;clear u d;obtain⟨r4,r5,r6⟩:=Qen ai.o B.o.base
          skip)
        |
         (go_at_call 35
          apply cM;apply RBag.sign (w0:=wc);(focus(first|exact B.o|exact B.o.drew));repeat(first|exact mH|apply mT);rintro e L ⟨rfl,rfl⟩
          (first|rw[SC.o]|rw[SL.o]|rw[SM.o]))
        |fail)
       first
        |(
         have HN:=Hi (Z.o.trans (B.o.base.mono Z.o.size));go_fit (ref_F 5 (k:Int) _);rintro e w9 ⟨rfl,G⟩;have H:=Hi (HN.o.trans (G.mono HN.o.size));have r:=Hi (I.o.below H.o I.o.lt);obtain⟨z0,z1,-⟩:=zc r.o;have f0:=r.o.free 0;have f1:=r.o.free 1;clear G;go_wp2;refine bodyPost_ret (v:=.agg #[.int .i64 5,.int .i64 (k:Int)]) (results_cell_row rfl _ _ (w.heap.size+1) 31 #[.int .i64 5,.int .i64 (k:Int)] (0,0) _ rfl ((r.o.set 0 _).set 1 _) underlying31 rfl Tryz.faultInfo) rfl ?_;exact⟨_,_,rfl,Or.inr (Or.inl ⟨Y.o,k,f,ad.o,J.o,aa.o,by decide,rfl⟩),((z.o.trans (H.o.mono z.o.size)).setCell (Nat.le_succ _) _).setCell (Nat.le_succ _) _⟩
         skip)
        |(
         go_roundw
         case rel=>
          refine⟨k+1,by omega,by go_num,?_,Z.o.trans (B.o.base.mono Z.o.size)⟩;intro i x hi F;rcases Nat.lt_or_ge i k with h|h
          . exact J.o i x h F
          .
           obtain rfl:i=k:=by omega
           obtain rfl:=Option.some.inj (ad.o.symm.trans F);exact aa.o
         case measure=>simp[intOf];omega)
  .
   have b9:k=K.length:=by omega
   subst b9;have F:=M.o.below HB.o M.o.lt;obtain⟨-,-,x2,-⟩:=zc F;clear F;go_wp2_with fail;clear x2;obtain⟨wq,rfl⟩:∃wq,wq=wr:=⟨wr,rfl⟩;go_loopw [122] (fun iv wr=>∃m:Nat,m<=hs.length/\iv=.int .i64 m/\(∀(i:Nat) (x:H3),i<m->hs[i]?=some x->holdAt A.length hs i x=0)/\Below W.heap.size W wr) (fun iv _=>hs.length - (intOf iv).toNat)
   case atStart=>exact⟨0,by omega,rfl,fun i x hi=>by omega,HB.o⟩
   case round=>
    obtain⟨m,hm,rfl,bn,hb⟩:=hrel;obtain⟨ag,HC,bo⟩:=Ib bn hb (z.o.trans (hb.mono z.o.size));clear bn hb;by_cases ca:m<hs.length
    .
     obtain⟨h,a4⟩:∃h,hs[m]?=some h:=⟨hs[m],gE ca⟩;obtain⟨fb,b5,bp,b6,d0,d1,d2⟩:=(HF.o.h.below bo.o).hold a4;obtain⟨cm,aj⟩:=Ia bp a4;have q5:((m:Int)<(hs.length:Int)):=by omega
     subst bp;obtain⟨V,hV⟩:=nm (wr.alloc (.cells #[.int .i64 h.j,.int .i64 h.w,.string h.q] 83));have C:O (Bl W V):=Hi (by rw[<-hV];exact HC.o.alloc HC.o.size _);have T:=Uc hV;have F:=M.o.below C.o M.o.lt;obtain⟨-,x1,x2,-⟩:=zc F;rw[<-hV] at x1 x2;have HV:=Hi hV;clear a4 hV F;by_cases gg:h.j<0∨(A.length:Int)<=h.j
     .
      have ab:O (holdAt A.length hs m h=4):=Hi (by unfold holdAt holdC;rw[if_neg (by omega)]);rcases(show h.j<0∨¬h.j<0/\(A.length:Int)<=h.j by omega) with g1|⟨g1,g2⟩
      all_goals
       clear gg;go_wp2_with fail;rw[HV.o];clear x1 x2 d0 d1 d2;go_fit (ref_F 4 ((K.length:Int)+(m:Int)) V);rintro e w9 ⟨rfl,G⟩;have H:=Hi (C.o.trans (G.mono C.o.size));have r:=Hi (I.o.below H.o I.o.lt);obtain⟨z0,z1,-⟩:=zc r.o;have f0:=r.o.free 0;have f1:=r.o.free 1;clear G;go_wp2;refine bodyPost_ret (v:=.agg #[.int .i64 4,.int .i64 ((K.length:Int)+(m:Int))]) (results_cell_row rfl _ _ (w.heap.size+1) 31 #[.int .i64 4,.int .i64 ((K.length:Int)+(m:Int))] (0,0) _ rfl ((r.o.set 0 _).set 1 _) underlying31 rfl Tryz.faultInfo) rfl ?_
       exact⟨_,_,rfl,Or.inr (Or.inr ⟨Y.o,fun i x F=>J.o i x (gZ F).1 F,Or.inl ⟨m,h,aj.o,ag.o,ab.o,by decide,rfl⟩⟩),((z.o.trans (H.o.mono z.o.size)).setCell (Nat.le_succ _) _).setCell (Nat.le_succ _) _⟩
     obtain⟨g1,g2⟩:¬h.j<0/\¬(A.length:Int)<=h.j:=by omega
     clear gg;have q6:((m:Int)<=(c3:Int)):=by have:=HF.o.h.fit;omega
     by_cases g3:h.w=1∨h.w=2
     .
      have br:O (∀tw,holdAt A.length hs m h=holdC A.length h.j h.w tw->tw=decide ((h.j,h.w)∈ places (hs.take m))->holdAt A.length hs m h=if tw=true then 7 else 0):=Hi (fun tw e et=>by rw[e];unfold holdC;rw[if_pos (by omega),if_neg (by omega)]);have gg:(h.w != 1)=false∨(h.w != 1)=true/\(h.w != 2)=false:=by
       by_cases g4:h.w=1
       . exact .inl (by rw[bne_eq_false_iff_eq];exact g4)
       . exact .inr ⟨by rw[bne_iff_ne];exact g4,by rw[bne_eq_false_iff_eq];omega⟩
      rcases gg with S|⟨S,e2⟩
      all_goals
       clear g3;go_wp2_with fail;rw[HV.o];clear x1 x2 d0 d1 d2;obtain⟨wv,rfl⟩:∃wv,wv=wr:=⟨wr,rfl⟩;go_loopw [158] (fun iv wr=>∃i:Nat,i<=m/\iv=.int .i64 i/\(∀(t:Nat) (x:H3),t<i->hs[t]?=some x->¬(x.j=h.j/\x.w=h.w))/\Below V.heap.size V wr) (fun iv _=>m - (intOf iv).toNat)
       case atStart=>exact⟨0,by omega,rfl,fun t x ht=>by omega,Below.refl _ _⟩
       case round=>
        obtain⟨i,hi,rfl,bt,hb⟩:=hrel;obtain⟨bu,HD,bv⟩:=Ib bt hb (C.o.trans (hb.mono C.o.size));clear bt hb;by_cases cb:i<m
        .
         obtain⟨o,a5⟩:∃o,hs[i]?=some o:=⟨hs[i],gE (by omega)⟩;obtain⟨cn,ch,bw,ci,d0,d1,d2⟩:=((HF.o.h.below z.o).below bv.o).hold a5;cases bw;have bx:=Hi a5;obtain⟨U,hU⟩:=nm (wr.alloc (.cells #[.int .i64 o.j,.int .i64 o.w,.string o.q] 83));have ak:Bl V U:=by rw[<-hU];exact HD.o.alloc HD.o.size _
         obtain⟨bz,b0⟩:=Ia (C.o.trans (ak.mono C.o.size)) ak;obtain⟨v0,v1,-⟩:=zc (T.o.below ak T.o.lt);rw[<-hU] at v0 v1;have HU:=Hi hU;have q7:((i:Int)<(m:Int)):=by omega
         clear a5 hU ak;by_cases e3:o.j=h.j/\o.w=h.w
         .
          have b1:(o.j == h.j)=true:=by rw[beq_iff_eq];exact e3.1
          have b2:(o.w == h.w)=true:=by rw[beq_iff_eq];exact e3.2
          have ab:O (holdAt A.length hs m h=7):=Hi (by
           have X:(h.j,h.w)∈ places (hs.take m):=by
            rw[<-e3.1,<-e3.2];exact Qtw bx.o cb
           rw[br.o true (by unfold holdAt;rw[decide_eq_true X]) (decide_eq_true X).symm,if_pos rfl])
          clear e3;go_wp2_with fail;rw[HU.o];clear v0 v1 d0 d1 d2;go_fit (ref_F 7 ((K.length:Int)+(m:Int)) U);rintro e w9 ⟨rfl,G⟩;have H:=Hi (bz.o.trans (G.mono bz.o.size));have r:=Hi (I.o.below H.o I.o.lt);obtain⟨z0,z1,-⟩:=zc r.o;have f0:=r.o.free 0;have f1:=r.o.free 1;clear G;go_wp2;refine bodyPost_ret (v:=.agg #[.int .i64 7,.int .i64 ((K.length:Int)+(m:Int))]) (results_cell_row rfl _ _ (w.heap.size+1) 31 #[.int .i64 7,.int .i64 ((K.length:Int)+(m:Int))] (0,0) _ rfl ((r.o.set 0 _).set 1 _) underlying31 rfl Tryz.faultInfo) rfl ?_
          exact⟨_,_,rfl,Or.inr (Or.inr ⟨Y.o,fun i x F=>J.o i x (gZ F).1 F,Or.inl ⟨m,h,aj.o,ag.o,ab.o,by decide,rfl⟩⟩),((z.o.trans (H.o.mono z.o.size)).setCell (Nat.le_succ _) _).setCell (Nat.le_succ _) _⟩
         .
          have cd:=Hi e3;have gg:(o.j == h.j)=false∨(o.j == h.j)=true/\(o.w == h.w)=false:=by
           by_cases e4:o.j=h.j
           . exact .inr ⟨by rw[beq_iff_eq];exact e4,by rw[beq_eq_false_iff_ne];exact fun h=>e3 ⟨e4,h⟩⟩
           . exact .inl (by rw[beq_eq_false_iff_ne];exact e4)
          clear e3;rcases gg with b1|⟨b1,b2⟩
          all_goals
           go_wp2;go_roundw
           case rel=>
            refine⟨i+1,by omega,by go_num,?_,by rw[HU.o];exact b0.o⟩;intro t x ht F;rcases Nat.lt_or_ge t i with h'|h'
            . exact bu.o t x h' F
            .
             obtain rfl:t=i:=by omega
             obtain rfl:=Option.some.inj (bx.o.symm.trans F);exact cd.o
           case measure=>simp[intOf];omega
           skip
        .
         have ce:i=m:=by omega
         subst ce;have ab:O (holdAt A.length hs i h=0):=Hi (by
          have X:=Qtx bu.o
          rw[br.o false (by unfold holdAt;rw[decide_eq_false X]) (decide_eq_false X).symm,if_neg (by simp)])
         go_wp2;go_roundw
         case rel=>
          refine⟨i+1,by omega,by go_num,?_,bv.o⟩;intro t x ht F;rcases Nat.lt_or_ge t i with h'|h'
          . exact ag.o t x h' F
          .
           obtain rfl:t=i:=by omega
           obtain rfl:=Option.some.inj (aj.o.symm.trans F);exact ab.o
         case measure=>simp[intOf];omega
       skip
     .
      have ab:O (holdAt A.length hs m h=3):=Hi (by unfold holdAt holdC;rw[if_pos (by omega),if_pos (by omega)]);have S:(h.w != 1)=true:=by rw[bne_iff_ne];omega
      have e2:(h.w != 2)=true:=by rw[bne_iff_ne];omega
      clear g3;go_wp2_with fail;rw[HV.o];clear x1 x2 d0 d1 d2;go_fit (ref_F 3 ((K.length:Int)+(m:Int)) V);rintro e w9 ⟨rfl,G⟩;have H:=Hi (C.o.trans (G.mono C.o.size));have r:=Hi (I.o.below H.o I.o.lt);obtain⟨z0,z1,-⟩:=zc r.o;have f0:=r.o.free 0;have f1:=r.o.free 1;clear G;go_wp2;refine bodyPost_ret (v:=.agg #[.int .i64 3,.int .i64 ((K.length:Int)+(m:Int))]) (results_cell_row rfl _ _ (w.heap.size+1) 31 #[.int .i64 3,.int .i64 ((K.length:Int)+(m:Int))] (0,0) _ rfl ((r.o.set 0 _).set 1 _) underlying31 rfl Tryz.faultInfo) rfl ?_
      exact⟨_,_,rfl,Or.inr (Or.inr ⟨Y.o,fun i x F=>J.o i x (gZ F).1 F,Or.inl ⟨m,h,aj.o,ag.o,ab.o,by decide,rfl⟩⟩),((z.o.trans (H.o.mono z.o.size)).setCell (Nat.le_succ _) _).setCell (Nat.le_succ _) _⟩
    .
     have cf:m=hs.length:=by omega
     subst cf;have r:=Hi (I.o.below HC.o I.o.lt);obtain⟨z0,z1,-⟩:=zc r.o;have f0:=r.o.free 0;have f1:=r.o.free 1;go_wp2;refine bodyPost_ret (v:=.agg #[.int .i64 0,.int .i64 0]) (results_cell_row rfl _ _ (w.heap.size+1) 31 #[.int .i64 0,.int .i64 0] (0,0) _ rfl ((r.o.set 0 _).set 1 _) underlying31 rfl Tryz.faultInfo) rfl ?_;exact⟨0,0,rfl,Or.inr (Or.inr ⟨Y.o,fun i x F=>J.o i x (gZ F).1 F,Or.inr ⟨fun i x F=>ag.o i x (gZ F).1 F,rfl,rfl⟩⟩),(bo.o.setCell (Nat.le_succ _) _).setCell (Nat.le_succ _) _⟩
   skip
theorem Qtz(f g h:Vx)(c1 c2 c3:Nat)(a:List S2)(b:List B6)(hs:List H3)(w:Vz)(i:Glob w)(j:FrRow w f g h c1 c2 c3 a b hs)(k:FrSized a b hs):
 Calls prog 7 #[.agg #[.slice f a.length c1,.slice g b.length c2,.slice h hs.length c3]] w fun e w'=>∃c d,e=.returned (.agg #[.int .i64 c,.int .i64 d])/\FrameFault a b hs c d/\Below w.heap.size w w':=by
 by_cases l:Many a.length b.length hs.length
 . exact Qtv f g h c1 c2 c3 a b hs w i j k l
 . exact Qty f g h c1 c2 c3 a b hs w i j k l
theorem Glob.stay:Stay Glob:=⟨fun _ _ a h=>h.below a⟩
theorem Lent.stay(a b c:Nat)(d:List S2)(e:List B6)(hs:List H3):Stay (fun w=>Lent w a b c d e hs):=⟨fun _ _ f h=>h.below f⟩
theorem FrRow.stay(a b c:Vx)(c1 c2 c3:Nat)(d:List S2)(e:List B6)(hs:List H3):Stay (fun w=>FrRow w a b c c1 c2 c3 d e hs):=⟨fun _ _ f h=>h.below f⟩
theorem SB.arow{α:Type}{c:α->List Value}{w:Vz}{g cap:Nat}{t:Vr}{C:Vw}{a:List α}(h:SB w g t C)(b:C.toList=a.flatMap c)(hl:a.length<=cap):ARow c w (some ⟨g,0,none⟩) cap a:=by
 refine⟨hl,⟨fun j u d=>⟨g,0,rfl,h.lt,?_⟩⟩⟩;rw[Nat.zero_add,h.cell j,<-Array.getElem?_toList,b];exact d
abbrev tx0:ByteArray:=⟨#[48]⟩
abbrev tx1:ByteArray:=⟨#[49]⟩
def cornerJ:List S2:=[⟨tx0,tx0⟩,⟨tx1,tx0⟩,⟨tx0,tx1⟩]
def cornerBar(a b:Int):B6:=⟨a,b,tx1,⟨#[]⟩,⟨#[45,49]⟩,⟨#[50]⟩⟩
def cornerB:List B6:=[cornerBar 0 1,cornerBar 1 2,cornerBar 2 0]
def cornerH:List H3:=[⟨0,1,⟨#[]⟩⟩,⟨0,2,⟨#[]⟩⟩,⟨1,2,⟨#[]⟩⟩]
theorem Tryz.barInfo:(prog.info? 80).map (·.size)=some 6:=by kernel_rfl
theorem Qfa(a b:Int)(w:Vz):Calls prog 61 #[.int .i64 a,.int .i64 b] w fun e w'=>e=.returned (.agg #[.int .i64 a,.int .i64 b,.string ⟨#[49]⟩,.string ⟨#[]⟩,.string ⟨#[45,49]⟩,.string ⟨#[50]⟩])/\Below w.heap.size w w':=by
 go_enter func61,ntmps61;go_wp2;refine bodyPost_ret (results_cell_row rfl _ _ w.heap.size 80 #[.int .i64 a,.int .i64 b,.string ⟨#[49]⟩,.string ⟨#[]⟩,.string ⟨#[45,49]⟩,.string ⟨#[50]⟩] (0,0) _ rfl (SB.new w _ _) underlying80 rfl Tryz.barInfo) rfl ?_;exact⟨rfl,bR.alloc lZ _⟩
theorem Qfb(w:Vz):Calls prog 28 #[] w fun e w'=>∃h f z,e=.returned (.agg #[.slice (some ⟨h,0,none⟩) 3 3,.slice (some ⟨f,0,none⟩) 3 3,.slice (some ⟨z,0,none⟩) 3 3])/\FrRow w' (some ⟨h,0,none⟩) (some ⟨f,0,none⟩) (some ⟨z,0,none⟩) 3 3 3 cornerJ cornerB cornerH/\Below w.heap.size w w':=by
 go_enter func28,ntmps28;go_wp2_with fail;obtain⟨W,r⟩:=nm (w.alloc (.cells #[.slice none 0 0,.slice none 0 0,.slice none 0 0] 26));have a:O (PBag w W [fun v=>SB v w.heap.size 26 #[.slice none 0 0,.slice none 0 0,.slice none 0 0]]):=Hi (by rw[<-r];exact((PBag.start w).below (bR.alloc lZ _)).put (P:=fun v=>SB v w.heap.size 26 #[.slice none 0 0,.slice none 0 0,.slice none 0 0]) (SB.new w _ _) (SB.stay _ _ _));rw[r];clear r;go_fit (Qdl ⟨#[48]⟩ ⟨#[48]⟩ W);rintro e B ⟨rfl,d⟩;have c:=Hi (a.o.below d);clear a d;have a:=c;clear c;go_wp2_with fail;go_fit (Qdl ⟨#[49]⟩ ⟨#[48]⟩ B);rintro e C ⟨rfl,d⟩;have c:=Hi (a.o.below d);clear a d;have a:=c;clear c;go_wp2_with fail;go_fit (Qdl ⟨#[48]⟩ ⟨#[49]⟩ C);rintro e s ⟨rfl,d⟩;have c:=Hi (a.o.below d);clear a d;have a:=c;clear c;obtain⟨h,j⟩:=nm s.heap.size
 obtain⟨A,hv3⟩:=nm (s.alloc (.cells #[.string ⟨#[48]⟩,.string ⟨#[48]⟩,.string ⟨#[49]⟩,.string ⟨#[48]⟩,.string ⟨#[48]⟩,.string ⟨#[49]⟩] 56));have c:=Hi ((a.o.below (w':=A) (by rw[<-hv3];exact(Below.refl _ _).alloc lZ _)).put (P:=fun v=>SB v h 56 #[.string ⟨#[48]⟩,.string ⟨#[48]⟩,.string ⟨#[49]⟩,.string ⟨#[48]⟩,.string ⟨#[48]⟩,.string ⟨#[49]⟩]) (by rw[<-hv3,<-j];exact SB.new s _ _) (SB.stay _ _ _));have k:w.heap.size≠h:=by have:=a.o.base.size;have:=(a.o.get (fun v=>SB v w.heap.size 26 #[.slice none 0 0,.slice none 0 0,.slice none 0 0]) (List.Mem.head _)).lt;omega
 clear a;have a:=c;obtain⟨t,u⟩:=Ia hv3 j;clear c hv3 j;go_wp2_with fail;rw[t.o,u.o];go_fit (Qfa 0 1 A);rintro e D ⟨rfl,d⟩;have c:=Hi (a.o.below d);clear a d;have a:=c;clear c;go_wp2_with fail;go_fit (Qfa 1 2 D);rintro e E ⟨rfl,d⟩;have c:=Hi (a.o.below d);clear a d;have a:=c;clear c;go_wp2_with fail;go_fit (Qfa 2 0 E);rintro e n ⟨rfl,d⟩;have c:=Hi (a.o.below d);clear a d;have a:=c;clear c;obtain⟨f,i⟩:=nm n.heap.size
 obtain⟨q,g⟩:=nm ((n.alloc (.cells #[.int .i64 0,.int .i64 1,.string ⟨#[49]⟩,.string ⟨#[]⟩,.string ⟨#[45,49]⟩,.string ⟨#[50]⟩,.int .i64 1,.int .i64 2,.string ⟨#[49]⟩,.string ⟨#[]⟩,.string ⟨#[45,49]⟩,.string ⟨#[50]⟩,.int .i64 2,.int .i64 0,.string ⟨#[49]⟩,.string ⟨#[]⟩,.string ⟨#[45,49]⟩,.string ⟨#[50]⟩] 80)).alloc (.cells #[.int .i64 0,.int .i64 1,.string ⟨#[]⟩,.int .i64 0,.int .i64 2,.string ⟨#[]⟩,.int .i64 1,.int .i64 2,.string ⟨#[]⟩] 83))
 have c:=Hi (((a.o.below (w':=q) (by rw[<-g];exact Below.new2 n _ _)).put (P:=fun v=>SB v f 80 #[.int .i64 0,.int .i64 1,.string ⟨#[49]⟩,.string ⟨#[]⟩,.string ⟨#[45,49]⟩,.string ⟨#[50]⟩,.int .i64 1,.int .i64 2,.string ⟨#[49]⟩,.string ⟨#[]⟩,.string ⟨#[45,49]⟩,.string ⟨#[50]⟩,.int .i64 2,.int .i64 0,.string ⟨#[49]⟩,.string ⟨#[]⟩,.string ⟨#[45,49]⟩,.string ⟨#[50]⟩]) (by rw[<-g,<-i];exact(SB.new n _ _).alloc _) (SB.stay _ _ _)).put (P:=fun v=>SB v (f+1) 83 #[.int .i64 0,.int .i64 1,.string ⟨#[]⟩,.int .i64 0,.int .i64 2,.string ⟨#[]⟩,.int .i64 1,.int .i64 2,.string ⟨#[]⟩]) (by rw[<-g,<-i];exact SB.new2 n _ _ _ _) (SB.stay _ _ _));have b:=a.o.get (fun v=>SB v w.heap.size 26 #[.slice none 0 0,.slice none 0 0,.slice none 0 0]) (by
  repeat(first|exact mH|apply mT)
  skip)
 have l:w.heap.size≠f:=by have:=b.lt;omega
 have m:w.heap.size≠f+1:=by have:=b.lt;omega
 clear a b;have a:=c;have b:=a.o.get (fun v=>SB v w.heap.size 26 #[.slice none 0 0,.slice none 0 0,.slice none 0 0]) (by
  repeat(first|exact mH|apply mT)
  skip)
 obtain⟨F,G,H,-⟩:=zc b;have f0:=b.free 0;have f1:=b.free 1;have f2:=b.free 2;rw[<-g] at F G H f0 f1 f2;obtain⟨p,x,y⟩:=Ib b g i;clear c g i b;go_wp2;rw[x.o,y.o];have I:=a.o.get (fun v=>SB v h 56 #[.string ⟨#[48]⟩,.string ⟨#[48]⟩,.string ⟨#[49]⟩,.string ⟨#[48]⟩,.string ⟨#[48]⟩,.string ⟨#[49]⟩]) (by
  repeat(first|exact mH|apply mT)
  skip)
 have J:=a.o.get (fun v=>SB v f 80 #[.int .i64 0,.int .i64 1,.string ⟨#[49]⟩,.string ⟨#[]⟩,.string ⟨#[45,49]⟩,.string ⟨#[50]⟩,.int .i64 1,.int .i64 2,.string ⟨#[49]⟩,.string ⟨#[]⟩,.string ⟨#[45,49]⟩,.string ⟨#[50]⟩,.int .i64 2,.int .i64 0,.string ⟨#[49]⟩,.string ⟨#[]⟩,.string ⟨#[45,49]⟩,.string ⟨#[50]⟩]) (by
  repeat(first|exact mH|apply mT)
  skip)
 have K:=a.o.get (fun v=>SB v (f+1) 83 #[.int .i64 0,.int .i64 1,.string ⟨#[]⟩,.int .i64 0,.int .i64 2,.string ⟨#[]⟩,.int .i64 1,.int .i64 2,.string ⟨#[]⟩]) (by
  repeat(first|exact mH|apply mT)
  skip)
 have L:ARow S2.cells q (some ⟨h,0,none⟩) 3 cornerJ:=I.arow rfl (by decide);have M:ARow B6.cells q (some ⟨f,0,none⟩) 3 cornerB:=J.arow rfl (by decide);have N:ARow H3.cells q (some ⟨f+1,0,none⟩) 3 cornerH:=K.arow rfl (by decide);refine bodyPost_ret (results_cell_row rfl _ _ w.heap.size 26 #[.slice (some ⟨h,0,none⟩) 3 3,.slice (some ⟨f,0,none⟩) 3 3,.slice (some ⟨f+1,0,none⟩) 3 3] (0,0) _ rfl (((p.o.set 0 _).set 1 _).set 2 _) underlying26 rfl Tryz.frameInfo) rfl ?_;exact⟨h,f,f+1,rfl,⟨((L.far k).far k).far k,((M.far l).far l).far l,((N.far m).far m).far m⟩,((a.o.base.setCell lZ _).setCell lZ _).setCell lZ _⟩
theorem Qdm(a b c:Vx)(c1 c2 c3 n m k:Nat)(w:Vz)(d:m<=24)(hk:k<=20):
 Calls prog 39 #[.agg #[.slice a n c1,.slice b m c2,.slice c k c3]] w fun e w'=>e=.returned (.int .i64 ((m:Int)+(k:Int)))/\Below w.heap.size w w':=by
 go_enter func39,ntmps39;go_wp2;go_ret;exact⟨rfl,bR.alloc lZ _⟩
theorem Qeu(a b c:Vx)(c1 c2 c3 n m k:Nat)(w:Vz)(d:n<=10):
 Calls prog 40 #[.agg #[.slice a n c1,.slice b m c2,.slice c k c3]] w fun e w'=>e=.returned (.int .i64 (2*(n:Int)))/\Below w.heap.size w w':=by
 go_enter func40,ntmps40;go_wp2;go_ret;exact⟨rfl,bR.alloc lZ _⟩
theorem Qdn(j:Nat)(w:Vz)(a:j<=10):Calls prog 80 #[.int .i64 j] w fun e w'=>e=.returned (.int .i64 (2*(j:Int)))/\w'=w:=by
 go_enter func80,ntmps80;go_wp2;go_ret;exact⟨rfl,rfl⟩
theorem Qdo(j:Nat)(w:Vz)(a:j<=10):Calls prog 81 #[.int .i64 j] w fun e w'=>e=.returned (.int .i64 (2*(j:Int)+1))/\w'=w:=by
 go_enter func81,ntmps81;go_wp2;go_ret;exact⟨rfl,rfl⟩
theorem Qwe(j:Nat)(a:Int)(q:Vs)(w:Vz)(b:j<=10):Calls prog 83 #[.agg #[.int .i64 j,.int .i64 a,.string q]] w fun e w'=>e=.returned (.int .i64 (if a=1 then 2*(j:Int) else 2*(j:Int)+1))/\Below w.heap.size w w':=by
 have c:=Hi ((Below.refl w.heap.size w).alloc lZ (.cells #[.int .i64 j,.int .i64 a,.string q] 83));by_cases h:a=1
 .
  subst h;rw[if_pos rfl];go_enter func83,ntmps83;go_wp2_with fail;go_fit (Qdn j _ b);rintro e d ⟨rfl,rfl⟩;go_wp2;go_ret;exact⟨rfl,c.o⟩
 .
  rw[if_neg h];have f:(a == 1)=false:=by rw[beq_eq_false_iff_ne];exact h
  clear h;go_enter func83,ntmps83;go_wp2_with fail;go_fit (Qdo j _ b);rintro e d ⟨rfl,rfl⟩;go_wp2;go_ret;exact⟨rfl,c.o⟩
def FE.cells(t:FE):List Value:=[t.x,t.y,t.z]
structure QRow (w:Vz) (a:Vx) (cap:Nat) (ts:List FE):Prop where
 row:ARow FE.cells w a cap ts
 ts:∀t,t∈ ts->FracV w (.agg #[t.x,t.y,t.z]) t.q/\Fits t.q t.k/\0<t.k
theorem QRow.below{w w':Vz}{a:Vx}{cap:Nat}{b:List FE}(h:QRow w a cap b)(c:Bl w w'):QRow w' a cap b:=
 ⟨h.row.below c,fun t d=>⟨(h.ts t d).1.below c,(h.ts t d).2⟩⟩
theorem QRow.at{w:Vz}{a:Vx}{cap:Nat}{f:List FE}(h:QRow w a cap f){i:Nat}{e:FE}(g:f[i]?=some e):
 ∃b c,a=some ⟨b,c,none⟩/\b<w.heap.size/\w.cell? ⟨b,c+i*3,none⟩=some e.x/\w.cell? ⟨b,c+i*3+1,none⟩=some e.y/\w.cell? ⟨b,c+i*3+2,none⟩=some e.z:=by
 obtain⟨b,c,j,k,d⟩:=h.row.at (sz:=3) (fun _=>rfl) (by decide) g;exact⟨b,c,j,k,d 0 _ rfl,d 1 _ rfl,d 2 _ rfl⟩
theorem QRow.get{w:Vz}{a:Vx}{cap:Nat}{b:List FE}(h:QRow w a cap b){i:Nat}{e:FE}(c:b[i]?=some e):FracV w (.agg #[e.x,e.y,e.z]) e.q/\Fits e.q e.k/\0<e.k:=h.ts e (mO c)
def filledOf(ts:List FE):Nat:=ts.countP fun t=>!decide (t.q=0)
theorem Qva{a:List FE}{k:Nat}{e:FE}(h:a[k]?=some e):filledOf (a.take (k+1))=filledOf (a.take k)+if e.q=0 then 0 else 1:=by
 unfold filledOf;rw[List.take_add_one,h,List.countP_append];by_cases b:e.q=0<;>simp[b]
theorem Qlb(a:List FE):filledOf a<=a.length:=List.countP_le_length
theorem Qvb(a:Vx)(cap:Nat)(b:List FE)(w:Vz)(h:QRow w a cap b)(hl:b.length<=1000):
 Calls prog 159 #[.slice a b.length cap] w fun e w'=>e=.returned (.int .i64 (filledOf b:Nat))/\Below w.heap.size w w':=by
 have A:=Hi h;clear h;go_enter func159,ntmps159;go_wp2_with fail;go_loopw [3,8] (fun n i wr=>∃k:Nat,k<=b.length/\i=.int .i64 k/\n=.int .i64 (filledOf (b.take k):Nat)/\Below w.heap.size w wr) (fun _ i _=>b.length - (intOf i).toNat)
 case atStart=>exact⟨0,by omega,rfl,rfl,Below.refl _ _⟩
 case round=>
  obtain⟨k,hk,rfl,rfl,B⟩:=hrel;have j:=Hi B;clear B;by_cases s:k<b.length
  .
   obtain⟨f,r⟩:∃f,b[k]?=some f:=⟨b[k],gE s⟩;obtain⟨Q,G,rfl,H,d0,d1,d2⟩:=(A.o.below j.o).at r;obtain⟨t,_,_⟩:=(A.o.below j.o).get r;have c:=Hi (Qva r);have I:filledOf (b.take k)<=1000:=by
    have R:=Qlb (b.take k);have S:=List.length_take_le k b;omega
   obtain⟨C,D,E⟩:=t.one;obtain⟨m,F⟩:=nm (filledOf (b.take k));rw[F] at I c ⊢;have J:=Hi t;have T:((k:Int)<(b.length:Int)):=by omega
   obtain⟨V,u⟩:=nm (wr.alloc (.cells #[f.x,f.y,f.z] 141));have d:=Ua u;have K:=Hi u;have L:=Qao prog C;have M:=Qao prog D;have N:=Qao prog E;clear r t F u C D E;go_wp2_with fail;rw[K.o];go_fit (Qcd (J.o.below d.o));rintro e U ⟨rfl,l⟩;have p:=Hi (j.o.trans ((d.o.trans (l.mono d.o.size)).mono j.o.size));clear l d0 d1 d2 L M N;by_cases g:f.q=0
   .
    rw[decide_eq_true g];rw[if_pos g] at c;clear g;go_wp2;go_roundw
    case rel=>exact⟨k+1,by omega,by go_num,by rw[c.o];rfl,p.o⟩
    case measure=>simp[intOf];omega
   .
    rw[decide_eq_false g];rw[if_neg g] at c;clear g;go_wp2;go_roundw
    case rel=>exact⟨k+1,by omega,by go_num,by rw[c.o];go_num,p.o⟩
    case measure=>simp[intOf];omega
  .
   have v:k=b.length:=by omega
   subst v;have P:O (filledOf (b.take b.length)=filledOf b):=Hi (by rw[List.take_length]);rw[P.o];go_wp2;go_ret;exact⟨rfl,j.o⟩
structure MR where
 a:Option Addr
 cap:Nat
 ts:List FE
def MR.cells(r:MR):List Value:=[.slice r.a r.ts.length r.cap]
def MR.q(r:MR)(c:Nat):Rat:=(r.ts.map (·.q)).getD c 0
theorem MR.q_at{r:MR}{c:Nat}{e:FE}(h:r.ts[c]?=some e):r.q c=e.q:=by
 unfold MR.q;simp[List.getD,h]
structure QMat (w:Vz) (a:Vx) (cap wide:Nat) (rs:List MR):Prop where
 row:ARow MR.cells w a cap rs
 rs:∀r,r∈ rs->QRow w r.a r.cap r.ts/\r.ts.length=wide
theorem QMat.below{w w':Vz}{a:Vx}{cap wide:Nat}{rs:List MR}(h:QMat w a cap wide rs)(b:Bl w w'):QMat w' a cap wide rs:=
 ⟨h.row.below b,fun t c=>⟨(h.rs t c).1.below b,(h.rs t c).2⟩⟩
theorem QMat.at{w:Vz}{a:Vx}{cap wide:Nat}{rs:List MR}(h:QMat w a cap wide rs){i:Nat}{r:MR}(d:rs[i]?=some r):
 ∃b c,a=some ⟨b,c,none⟩/\b<w.heap.size/\w.cell? ⟨b,c+i,none⟩=some (.slice r.a r.ts.length r.cap):=by
 obtain⟨b,c,e,f,g⟩:=h.row.at (sz:=1) (fun _=>rfl) (by decide) d;refine⟨b,c,e,f,?_⟩;have:=g 0 _ rfl;rw[Nat.mul_one] at this;exact this
theorem QMat.get{w:Vz}{a:Vx}{cap wide:Nat}{rs:List MR}(h:QMat w a cap wide rs){i:Nat}{r:MR}(b:rs[i]?=some r):QRow w r.a r.cap r.ts/\r.ts.length=wide:=h.rs r (mO b)
def Picks(rs:List MR)(c:Nat)(v:Int):Prop:=
 (v= -1/\∀r∈ rs,r.q c=0)∨∃j r,rs[j]?=some r/\v=(j:Nat)/\r.q c≠0
theorem Picks.skip{rs:List MR}{c k:Nat}{v:Int}{r:MR}(h:Picks (rs.take k) c v)(e:rs[k]?=some r)(f:r.q c=0):Picks (rs.take (k+1)) c v:=by
 rw[List.take_add_one,e];rcases h with ⟨b,d⟩|⟨j,s,b,d,g⟩
 .
  refine .inl ⟨b,fun x a=>?_⟩;rcases List.mem_append.1 a with a|a
  . exact d x a
  . obtain rfl:x=r:=by simpa using a
    exact f
 . exact .inr ⟨j,s,by rw[List.getElem?_append_left (gZ b).1];exact b,d,g⟩
theorem Picks.keep{rs:List MR}{c k j:Nat}{r:MR}(h:Picks (rs.take k) c (j:Nat))(d:rs[k]?=some r):Picks (rs.take (k+1)) c (j:Nat):=by
 rw[List.take_add_one,d];rcases h with ⟨a,b⟩|⟨i,s,a,b,e⟩
 . omega
 . exact .inr ⟨i,s,by rw[List.getElem?_append_left (gZ a).1];exact a,b,e⟩
theorem Picks.this{rs:List MR}{c k:Nat}{r:MR}(a:rs[k]?=some r)(b:r.q c≠0):Picks (rs.take (k+1)) c (k:Nat):=
 .inr ⟨k,r,by rw[List.getElem?_take_of_lt (Nat.lt_succ_self k)];exact a,rfl,b⟩
theorem Qvc(a:Vx)(cap wide c:Nat)(rs:List MR)(w:Vz)(h:QMat w a cap wide rs)(hl:rs.length<=1000)(hw:wide<=1000)(N:c<wide):
 Calls prog 125 #[.slice a rs.length cap,.int .i64 c] w fun e w'=>(∃v,e=.returned (.int .i64 v)/\Picks rs c v)/\Below w.heap.size w w':=by
 have P:=Hi h;clear h;go_enter func125,ntmps125;go_wp2_with fail;go_loopw [5,6,12] (fun u f i wr=>∃(k m:Nat) (v:Int),k<=rs.length/\i=.int .i64 k/\u=.int .i64 v/\f=.int .i64 m/\m<=1000/\Picks (rs.take k) c v/\Below w.heap.size w wr) (fun _ _ i _=>rs.length - (intOf i).toNat)
 case atStart=>exact⟨0,0,-1,by omega,rfl,rfl,rfl,by omega,.inl ⟨rfl,fun r s=>by simp at s⟩,Below.refl _ _⟩
 case round=>
  obtain⟨k,m,v,hk,rfl,rfl,rfl,Q,R,S⟩:=hrel;obtain⟨x,A⟩:=Ia S R;clear S R;by_cases G:k<rs.length
  .
   obtain⟨r,s⟩:∃r,rs[k]?=some r:=⟨rs[k],gE G⟩;obtain⟨fb,U,rfl,V,d⟩:=(P.o.below x.o).at s;obtain⟨B,H⟩:=(P.o.below x.o).get s;obtain⟨e,C⟩:∃e,r.ts[c]?=some e:=⟨r.ts[c],gE (by omega)⟩;obtain⟨rb,ro,b,W,d0,d1,d2⟩:=B.at C;obtain⟨D,_,_⟩:=B.get C;obtain⟨X,E,T,Y⟩:=Ic B s (MR.q_at C) D;have q1:((k:Int)<(rs.length:Int)):=by omega
   have q2:((c:Int)<(r.ts.length:Int)):=by omega
   rw[b] at d;have I:=Hi b;clear s B C D b;go_wp2_with fail;go_fit (Qcd Y.o);rintro Z w4 ⟨rfl,l⟩;obtain⟨n,J⟩:=Ia (x.o.trans (l.mono x.o.size)) (X.o.below l);clear l d0 d1 d2 d;by_cases t:e.q=0
   .
    rw[decide_eq_true t];have F:O (r.q c=0):=Hi (T.o.trans t);clear t;go_wp2;go_roundw
    case measure=>simp[intOf];omega
    case rel=>exact⟨k+1,m,v,by omega,by go_num,rfl,rfl,Q,A.o.skip E.o F.o,n.o⟩
   .
    rw[decide_eq_false t];have F:O (r.q c≠0):=Hi (fun N=>t (T.o.symm.trans N));have hf:=Qlb r.ts;clear t;go_wp2_with fail;have K:=Hi (Qvb r.a r.cap r.ts w4 J.o (by omega));rw[I.o,H] at K;obtain⟨g,y⟩:=nm (filledOf r.ts);rw[y] at K hf;clear y;go_fit K.o;rintro Z w5 ⟨rfl,z⟩;have p:=Hi (n.o.trans (z.mono n.o.size));clear z;have y:g<=1000:=by omega
    by_cases D:v<0
    .
     clear A;go_wp2;go_roundw
     case measure=>simp[intOf];omega
     case rel=>exact⟨k+1,g,k,by omega,by go_num,rfl,rfl,y,Picks.this E.o F.o,p.o⟩
    .
     obtain⟨j,rfl⟩:∃j:Nat,v=j:=⟨v.toNat,by omega⟩;clear D;by_cases aa:(g:Int)<(m:Int)
     .
      go_wp2;go_roundw
      case measure=>simp[intOf];omega
      case rel=>exact⟨k+1,g,k,by omega,by go_num,rfl,rfl,y,Picks.this E.o F.o,p.o⟩
     .
      go_wp2;go_roundw
      case measure=>simp[intOf];omega
      case rel=>exact⟨k+1,m,j,by omega,by go_num,rfl,rfl,Q,A.o.keep E.o,p.o⟩
  .
   have L:k=rs.length:=by omega
   subst L;have M:O (Picks rs c v):=Hi (by have:=A.o;rw[List.take_length] at this;exact this);go_wp2;go_ret;exact⟨⟨v,rfl,M.o⟩,x.o⟩
def FE.zero:FE:=⟨.bool false,.slice none 0 0,.slice none 0 0,0,1⟩
structure QBlk (w:Vz) (g:Nat) (ts:List FE):Prop where
 blk:SB w g 141 (ts.flatMap FE.cells).toArray
 ts:∀t,t∈ ts->FracV w (.agg #[t.x,t.y,t.z]) t.q/\Fits t.q t.k/\0<t.k
theorem QBlk.row{w:Vz}{g:Nat}{a:List FE}(h:QBlk w g a):QRow w (some ⟨g,0,none⟩) a.length a:=⟨h.blk.arow rfl lZ,h.ts⟩
theorem QBlk.below{w w':Vz}{g:Nat}{a:List FE}(h:QBlk w g a)(b:Bl w w'):QBlk w' g a:=⟨h.blk.below b h.blk.lt,fun t c=>⟨(h.ts t c).1.below b,(h.ts t c).2⟩⟩
theorem QBlk.no64{w:Vz}{g:Nat}{b:List FE}(h:QBlk w g b):NoU64 (b.flatMap FE.cells).toArray:=by
 refine Qih fun v a n=>?_
 obtain⟨t,c,a⟩:=List.mem_flatMap.1 a;obtain⟨d,e,f⟩:=(h.ts t c).1.no64 n;simp[FE.cells] at a;rcases a with rfl|rfl|rfl
 . exact d
 . exact e
 . exact f
theorem Qlc:∀(a:List FE) (k:Nat) (e:FE),k<a.length->(a.set k e).flatMap FE.cells=(((a.flatMap FE.cells).set (k*3) e.x).set (k*3+1) e.y).set (k*3+2) e.z
 | [],k,e,h=>by simp at h
 |t :: l,0,e,_=>by simp[FE.cells]
 |t :: l,k+1,e,h=>by
  have b:=Qlc l k e (by simpa using h);rw[List.set_cons_succ,List.flatMap_cons,b,List.flatMap_cons];simp only[FE.cells,List.cons_append,List.nil_append];rw[show (k+1)*3=k*3+1+1+1 by omega];simp only[List.set_cons_succ,Nat.add_assoc]
theorem QBlk.set{w:Vz}{g:Nat}{a:List FE}(h:QBlk w g a){k:Nat}{e:FE}(hk:k<a.length)(c:FracV w (.agg #[e.x,e.y,e.z]) e.q/\Fits e.q e.k/\0<e.k):
 QBlk (((w.setCell ⟨g,k*3,none⟩ e.x).setCell ⟨g,k*3+1,none⟩ e.y).setCell ⟨g,k*3+2,none⟩ e.z) g (a.set k e):=by
 have d:Only g w (((w.setCell ⟨g,k*3,none⟩ e.x).setCell ⟨g,k*3+1,none⟩ e.y).setCell ⟨g,k*3+2,none⟩ e.z):=(((Only.refl g w).setCell _ _).setCell _ _).setCell _ _;refine⟨?_,fun t b=>?_⟩
 .
  have:=((h.blk.set (k*3) e.x).set (k*3+1) e.y).set (k*3+2) e.z;rw[Qlc a k e hk]
  simpa using this
 .
  rcases List.mem_or_eq_of_mem_set b with b|rfl
  . exact⟨(h.ts t b).1.only d h.blk h.no64,(h.ts t b).2⟩
  . exact⟨c.1.only d h.blk h.no64,c.2⟩
theorem QBlk.new(w:Vz)(n:Nat)(C:Vw)(hC:C=((List.replicate n FE.zero).flatMap FE.cells).toArray):QBlk (w.alloc (.cells C 141)) w.heap.size (List.replicate n FE.zero):=by
 subst hC;refine⟨SB.new _ _ _,fun t a=>?_⟩;obtain⟨_,rfl⟩:=List.mem_replicate.1 a;exact⟨FracV.zero _,Fits.zero,by decide⟩
theorem Qvd(n:Nat):madeCells (Value.cells (.agg #[.bool false,.slice none 0 0,.slice none 0 0])) (n*3)=((List.replicate n FE.zero).flatMap FE.cells).toArray:=by
 apply Array.ext';apply List.ext_getElem?;intro i;by_cases d:i<n*3
 .
  have b:(List.replicate n FE.zero)[i / 3]?=some FE.zero:=by rw[List.getElem?_replicate,if_pos (by omega)]
  have a:i % 3=0∨i % 3=1∨i % 3=2:=by omega
  have e:Value.cells (.agg #[.bool false,.slice none 0 0,.slice none 0 0])=#[.bool false,.slice none 0 0,.slice none 0 0]:=by rfl
  have f:i / 3*3+i % 3=i:=by omega
  have g:(madeCells (Value.cells (.agg #[.bool false,.slice none 0 0,.slice none 0 0])) (n*3)).toList[i]?=some ((#[Value.bool false,.slice none 0 0,.slice none 0 0]:Array Value)[i % 3]!):=by
   rw[e];simp[madeCells,d]
  rw[g];have c:∀u,(FE.cells FE.zero)[i % 3]?=some u->((List.replicate n FE.zero).flatMap FE.cells)[i]?=some u:=fun u h=>by
   have:=Qcb (sz:=3) (fun _=>rfl) _ _ _ _ _ b h;rw[f] at this;exact this
  simp only[List.toList_toArray];rcases a with a|a|a
  all_goals
   rw[a] at c ⊢;exact(c _ rfl).symm
 .
  have b:((List.replicate n FE.zero).flatMap FE.cells).length=n*3:=by rw[Qa9 (sz:=3) (fun _=>rfl)];simp
  have j:=size_madeCells (Value.cells (.agg #[.bool false,.slice none 0 0,.slice none 0 0])) (n*3);rw[List.getElem?_eq_none (by rw[Array.length_toList,j];omega),List.getElem?_eq_none (by simp only[List.toList_toArray];rw[b];omega)]
theorem Qer:(prog.info? 141).map (fun i=>(i.zero,i.size,i.bytes))=some (some (.agg #[.bool false,.slice none 0 0,.slice none 0 0]),3,56):=by kernel_rfl
theorem Qcu(n:Nat)(d:n<=1048576)(w:Vz):(Instr.makeSlice 93 (.int .i64 n) (.int .i64 n)).run prog w=.ok (.slice (some ⟨w.heap.size,0,none⟩) n n) (w.alloc (.cells ((List.replicate n FE.zero).flatMap FE.cells).toArray 141)):=by
 obtain⟨i,a,h⟩:=Option.map_eq_some_iff.1 Qer;simp only[Prod.mk.injEq] at h;obtain⟨b,hs,c⟩:=h;have:=run_make w 93 141 i _ underlying93 a b .i64 .i64 n n (by omega) (by omega) (by rw[c];omega) (by omega);rw[Int.toNat_natCast,hs,Qvd] at this;exact this
def Made(f:Nat->Rat->Rat)(B:Nat)(ts us:List FE)(k:Nat):Prop:=
 us.length=ts.length/\∀i e,i<k->ts[i]?=some e->∃u,us[i]?=some u/\u.q=f i e.q/\u.k<=B
theorem Made.start(f:Nat->Rat->Rat)(B:Nat)(a:List FE):Made f B a (List.replicate a.length FE.zero) 0:=⟨by simp,fun i e b=>by omega⟩
theorem Made.step{f:Nat->Rat->Rat}{B:Nat}{a us:List FE}{k:Nat}{e u:FE}(h:Made f B a us k)(c:a[k]?=some e)(g:u.q=f k e.q)(hB:u.k<=B):Made f B a (us.set k u) (k+1):=by
 have hk:=(gZ c).1;refine⟨by rw[List.length_set];exact h.1,fun i x n d=>?_⟩;rcases Nat.lt_or_ge i k with b|j
 . obtain⟨y,l,m⟩:=h.2 i x b d
   exact⟨y,by rw[List.getElem?_set_ne (by omega)];exact l,m⟩
 .
  obtain rfl:i=k:=by omega
  obtain rfl:=Option.some.inj (c.symm.trans d);exact⟨u,by rw[List.getElem?_set_self (by rw[h.1];exact hk)],g,hB⟩
theorem Qve(a:Vx)(cap B j:Nat)(b:List FE)(A C D:Value)(q:Rat)(w:Vz)(h:QRow w a cap b)(hl:b.length<=1000)(hv:FracV w (.agg #[A,C,D]) q)(hq:Fits q j)(hj:0<j)(hB:∀t∈ b,t.k+j<=B)(aq:B<68719476000):
 Calls prog 136 #[.slice a b.length cap,.agg #[A,C,D]] w fun e w'=>(∃g us,e=.returned (.slice (some ⟨g,0,none⟩) b.length b.length)/\w.heap.size<=g/\QBlk w' g us/\Made (fun _ x=>x / q) B b us b.length)/\Below w.heap.size w w':=by
 obtain⟨U,HV,V,X⟩:=Ic h hv hq hB;have G:=fun w=>Qcu b.length (by omega) w
 obtain⟨MC,l⟩:=nm (((List.replicate b.length FE.zero).flatMap FE.cells).toArray);rw[l] at G;have Y:=Hi l.symm;clear h hv hq hB l;go_enter func136,ntmps136;go_wp2_with fail;clear G;obtain⟨g,Z⟩:=nm (w.heap.size+1);have m:w.heap.size<g:=by omega
 obtain⟨W,H⟩:=nm ((w.alloc (.cells #[A,C,D] 141)).alloc (.cells MC 141));have aa:=Ub H;have ab:=Ud H;have ad:O (QBlk W g (List.replicate b.length FE.zero)):=Hi (by rw[<-H,<-Z];have:=QBlk.new (w.alloc (.cells #[A,C,D] 141)) b.length MC Y.o;simpa using this)
 try rw[H]
 try rw[Z]
 clear H Z;go_loopw [12] (fun i wr=>∃(k:Nat) (us:List FE),k<=b.length/\i=.int .i64 k/\Made (fun _ x=>x / q) B b us k/\QBlk wr g us/\SB wr w.heap.size 141 #[A,C,D]/\Below w.heap.size w wr) (fun i _=>b.length - (intOf i).toNat)
 case atStart=>exact⟨0,_,by omega,rfl,Made.start _ _ _,ad.o,ab.o,aa.o⟩
 case round=>
  obtain⟨k,us,hk,rfl,hm,n,hs,hb⟩:=hrel;obtain⟨E,HM,HQ,HS⟩:=Ic hb hm n hs;have ar:=hm.1;have au:=n.blk.lt;clear hb hm n hs;by_cases ae:k<b.length
  .
   obtain⟨e,F⟩:∃e,b[k]?=some e:=⟨b[k],gE ae⟩;obtain⟨T,r,rfl,av,_⟩:=U.o.at F;obtain⟨aw,ao,af,ag,d0,d1,d2⟩:=(U.o.below E.o).at F;cases af;have n1:g≠T:=by omega
   have n2:g≠w.heap.size:=by omega
   obtain⟨hx,I,J⟩:=(U.o.below E.o).get F;have ah:=X.o e (mO F);obtain⟨y0,K⟩:∃y0,us[k]?=some y0:=⟨us[k],gE (by omega)⟩;obtain⟨HE,HX,s,HY⟩:=Ic F hx I (HV.o.below E.o);obtain⟨k0,k1,k2,-⟩:=zc HS.o;have q1:((k:Int)<(b.length:Int)):=by omega
   obtain⟨ai,D0,D1,D2⟩:=Ic K d0 d1 d2;clear F hx I K;go_wp2_with fail;go_region_held3 (fun v=>v.cell? ⟨T,r+k*3,none⟩=some e.x/\v.cell? ⟨T,r+k*3+1,none⟩=some e.y/\v.cell? ⟨T,r+k*3+2,none⟩=some e.z/\v.cell? ⟨w.heap.size,0,none⟩=some A/\v.cell? ⟨w.heap.size,1,none⟩=some C/\v.cell? ⟨w.heap.size,2,none⟩=some D) ((first|(simp [*];done)|go_keep)) (first
    |(
     go_at_call_of 129 e.x;apply cM
     first
      |exact Qc2 HX.o HY.o s.o V.o (by omega)
      |exact Qc2 (HX.o.below bR.drew) (HY.o.below bR.drew) s.o V.o (by omega)
     rintro e' w5 ⟨⟨v5,rfl,f⟩,u⟩;obtain⟨L,M,N,c5,P,Q,R,rfl,f⟩:=f
     first
      |have c:O (Bl wr w5):=Hi u
      |have c:O (Bl wr w5):=Hi (bR.drew.trans u)
     have aj:O (FracV w5 (.agg #[.bool L,.slice M N c5,.slice P Q R]) (e.q / q)):=Hi ⟨L,M,N,c5,P,Q,R,rfl,f⟩;clear f u;have d:=Hi (HQ.o.below c.o);obtain⟨v0,v1,v2⟩:=Jb c.o ag D0.o D1.o D2.o;have S:=Hi (HS.o.below c.o HS.o.lt);obtain⟨u0,u1,u2,-⟩:=zc S.o;have f0:=d.o.blk.free (k*3);have f1:=d.o.blk.free (k*3+1);have f2:=d.o.blk.free (k*3+2);obtain⟨gb,ap,ak,_,t0,t1,t2⟩:=d.o.row.at ai.o;cases ak;simp only[Nat.zero_add] at t0 t1 t2
     skip))
   all_goals
    go_wp2_with fail;obtain⟨HN,al,am⟩:=Ib (d.o.set (k:=k) (e:=⟨.bool L,.slice M N c5,.slice P Q R,e.q / q,e.k+j⟩) (by omega) ⟨aj.o,s.o.div V.o J hj,Nat.lt_add_right j J⟩) (((S.o.other n2.symm (k*3) (.bool L)).other n2.symm (k*3+1) (.slice M N c5)).other n2.symm (k*3+2) (.slice P Q R)) ((((E.o.trans (c.o.mono E.o.size)).setCell (p:=⟨g,k*3,none⟩) (Nat.le_of_lt m) (.bool L)).setCell (p:=⟨g,k*3+1,none⟩) (Nat.le_of_lt m) (.slice M N c5)).setCell (p:=⟨g,k*3+2,none⟩) (Nat.le_of_lt m) (.slice P Q R));refine⟨⟨k+1,_,by omega,by go_num,HM.o.step HE.o rfl ah,HN.o,al.o,am.o⟩,?_⟩;simp[intOf];omega
  .
   have an:k=b.length:=by omega
   subst an;go_wp2;go_ret;exact⟨⟨g,us,rfl,by omega,HQ.o,HM.o⟩,E.o⟩
def qAt(ss:List FE)(i:Nat):Rat:=(ss.map (·.q)).getD i 0
theorem Qvf{a:List FE}{i:Nat}{e:FE}(h:a[i]?=some e):qAt a i=e.q:=by
 unfold qAt;simp[List.getD,h]
theorem Qg4(a a':Vx)(cap cap' B j:Nat)(c P:List FE)(Q R S:Value)(q:Rat)(w:Vz)(h:QRow w a cap c)(h':QRow w a' cap' P)(be:P.length=c.length)(hl:c.length<=1000)(hv:FracV w (.agg #[Q,R,S]) q)(hq:Fits q j)(hj:0<j)(hB:∀t∈ c,∀s∈ P,t.k+s.k+j+1<=B)(bf:B<68719476000):
 Calls prog 128 #[.slice a c.length cap,.slice a' c.length cap',.agg #[Q,R,S]] w fun e w'=>(∃g us,e=.returned (.slice (some ⟨g,0,none⟩) c.length c.length)/\w.heap.size<=g/\QBlk w' g us/\Made (fun i x=>x - qAt P i*q) B c us c.length)/\Below w.heap.size w w':=by
 obtain⟨HH,HG,HV,T,au⟩:=Id h h' hv hq hB;have ak:=fun w=>Qcu c.length (by omega) w
 obtain⟨MC,U⟩:=nm (((List.replicate c.length FE.zero).flatMap FE.cells).toArray);rw[U] at ak;have av:=Hi U.symm;clear h h' hv hq hB U;go_enter func128,ntmps128;go_wp2_with fail;clear ak;obtain⟨g,hg⟩:=nm (w.heap.size+1);have n:w.heap.size<g:=by omega
 obtain⟨W,hW⟩:=nm ((w.alloc (.cells #[Q,R,S] 141)).alloc (.cells MC 141));have aw:=Ub hW;have ax:=Ud hW;have ay:O (QBlk W g (List.replicate c.length FE.zero)):=Hi (by rw[<-hW,<-hg];have:=QBlk.new (w.alloc (.cells #[Q,R,S] 141)) c.length MC av.o;simpa using this)
 try rw[hW]
 try rw[hg]
 clear hW hg;go_loopw [14] (fun i wr=>∃(k:Nat) (us:List FE),k<=c.length/\i=.int .i64 k/\Made (fun i x=>x - qAt P i*q) B c us k/\QBlk wr g us/\SB wr w.heap.size 141 #[Q,R,S]/\Below w.heap.size w wr) (fun i _=>c.length - (intOf i).toNat)
 case atStart=>exact⟨0,_,by omega,rfl,Made.start _ _ _,ay.o,ax.o,aw.o⟩
 case round=>
  obtain⟨k,us,hk,rfl,hm,V,hs,hb⟩:=hrel;obtain⟨HB,HM,HQ,HS⟩:=Ic hb hm V hs;have bg:=hm.1;have bh:=V.blk.lt;clear hb hm V hs;by_cases az:k<c.length
  .
   obtain⟨e,he⟩:∃e,c[k]?=some e:=⟨c[k],gE az⟩;obtain⟨s,hs⟩:∃s,P[k]?=some s:=⟨P[k],gE (by omega)⟩;obtain⟨fb,X,rfl,F,D0,D1,D2⟩:=HH.o.at he;obtain⟨sb,u,rfl,A,E0,E1,E2⟩:=HG.o.at hs;obtain⟨hx,Y,a0⟩:=HH.o.get he;obtain⟨hy,al,G⟩:=HG.o.get hs;have bi:=au.o e (mO he) s (mO hs);obtain⟨y0,am⟩:∃y0,us[k]?=some y0:=⟨us[k],gE (by omega)⟩;have n1:g≠fb:=by omega
   have n2:g≠w.heap.size:=by omega
   have n3:g≠sb:=by omega
   obtain⟨HE,an,HX,H,HY,l,Z,aa,ab⟩:=Ih he (Qvf hs) hx Y hy al D0 D1 D2;obtain⟨ad,ae,af⟩:=Ib E0 E1 E2;obtain⟨o1,o2,o3⟩:=hx.one;have a1:=Qao prog o1;have a2:=Qao prog o2;have a3:=Qao prog o3;obtain⟨d0,d1,d2⟩:=Jb HB.o F D0 D1 D2;have q1:((k:Int)<(c.length:Int)):=by omega
   have f0:=HQ.o.blk.free (k*3);have f1:=HQ.o.blk.free (k*3+1);have f2:=HQ.o.blk.free (k*3+2);obtain⟨gb,ao,ag,_,t0,t1,t2⟩:=HQ.o.row.at am;cases ag;simp only[Nat.zero_add] at t0 t1 t2;obtain⟨W1,r⟩:=nm (((wr.setCell ⟨g,k*3,none⟩ e.x).setCell ⟨g,k*3+1,none⟩ e.y).setCell ⟨g,k*3+2,none⟩ e.z);have a4:O (QBlk W1 g (us.set k e)):=Hi (by rw[<-r];exact HQ.o.set (by omega) ⟨hx.below HB.o,Y,a0⟩);have ap:O (SB W1 w.heap.size 141 #[Q,R,S]):=Hi (by rw[<-r];exact((HS.o.other n2.symm _ _).other n2.symm _ _).other n2.symm _ _);have C:O (Bl w W1):=Hi (by rw[<-r];exact((HB.o.setCell (p:=⟨g,k*3,none⟩) (Nat.le_of_lt n) _).setCell (p:=⟨g,k*3+1,none⟩) (Nat.le_of_lt n) _).setCell (p:=⟨g,k*3+2,none⟩) (Nat.le_of_lt n) _);obtain⟨s0,s1⟩:=Ja C.o A E0 E1
   have s2:=ce C.o A E2;rw[<-r] at s0 s1 s2;have a7:=Hi r;clear he hs hx Y hy al am r o1 o2 o3 D0 D1 D2 E0 E1 E2;go_wp2_with fail;rw[a7.o];clear s0 s1 s2 d0 d1 d2 f0 f1 f2 t0 t1 t2 a1 a2 a3;go_fit (Qcd (HY.o.below C.o));rintro e' w4 ⟨rfl,I⟩;obtain⟨b,aq,J⟩:=Ib (C.o.trans (I.mono C.o.size)) (a4.o.below I) (ap.o.below I ap.o.lt);clear I;by_cases h0:s.q=0
   .
    rw[decide_eq_true h0];have HZ:O (e.q=e.q - qAt P k*q):=Hi (by rw[an.o,h0,Rat.zero_mul,Rat.sub_eq_add_neg,Rat.neg_zero,Rat.add_zero]);clear h0;go_wp2;go_roundw
    case rel=>exact⟨k+1,_,by omega,by go_num,HM.o.step HE.o HZ.o (by omega),aq.o,J.o,b.o⟩
    case measure=>simp[intOf];omega
   .
    rw[decide_eq_false h0];clear h0;go_wp2_with fail;obtain⟨x0,x1,x2⟩:=Jb b.o F Z.o aa.o ab.o;obtain⟨z0,z1,z2⟩:=Jb b.o A ad.o ae.o af.o;obtain⟨k0,k1,k2,-⟩:=zc J.o;have a8:k<(us.set k e).length:=by rw[List.length_set];omega
    go_region_held3 (fun v=>v.cell? ⟨fb,X+k*3,none⟩=some e.x/\v.cell? ⟨fb,X+k*3+1,none⟩=some e.y/\v.cell? ⟨fb,X+k*3+2,none⟩=some e.z/\v.cell? ⟨sb,u+k*3,none⟩=some s.x/\v.cell? ⟨sb,u+k*3+1,none⟩=some s.y/\v.cell? ⟨sb,u+k*3+2,none⟩=some s.z/\v.cell? ⟨w.heap.size,0,none⟩=some Q/\v.cell? ⟨w.heap.size,1,none⟩=some R/\v.cell? ⟨w.heap.size,2,none⟩=some S) ((first|(simp [*];done)|go_keep)) (first
     |(
      go_at_call 160;apply cM
      first
       |exact Qfp (HY.o.below b.o) (HV.o.below b.o) l.o T.o (by omega)
       |exact Qfp (HY.o.below b.o.drew) (HV.o.below b.o.drew) l.o T.o (by omega)
       |exact Qfp (HY.o.below b.o.drew.drew) (HV.o.below b.o.drew.drew) l.o T.o (by omega)
      rintro e5 E ⟨⟨v5,rfl,K⟩,L⟩;obtain⟨n5,a5,l5,c5,m5,o5,p5,rfl,K⟩:=K
      first
       |have d:O (Bl w4 E):=Hi L
       |have d:O (Bl w4 E):=Hi (bR.drew.trans L)
       |have d:O (Bl w4 E):=Hi (bR.drew.drew.trans L)
      have ah:O (FracV E (.agg #[.bool n5,.slice a5 l5 c5,.slice m5 o5 p5]) (s.q*q)):=Hi ⟨n5,a5,l5,c5,m5,o5,p5,rfl,K⟩;clear K L;obtain⟨m,a9,ai⟩:=Ib (b.o.trans (d.o.mono b.o.size)) (aq.o.below d.o) (J.o.below d.o J.o.lt);obtain⟨x0,x1,x2⟩:=Jb m.o F Z.o aa.o ab.o;obtain⟨z0,z1,z2⟩:=Jb m.o A ad.o ae.o af.o;obtain⟨k0,k1,k2,-⟩:=zc ai.o
      skip)
     |(
      go_at_call 101;apply cM
      first
       |exact Qbj (HX.o.below m.o) ah.o H.o (l.o.mul T.o G) (by omega)
       |exact Qbj (HX.o.below m.o.drew) (ah.o.below bR.drew) H.o (l.o.mul T.o G) (by omega)
       |exact Qbj (HX.o.below m.o.drew.drew) (ah.o.below bR.drew.drew) H.o (l.o.mul T.o G) (by omega)
      rintro e6 w6 ⟨⟨v6,rfl,M⟩,N⟩;obtain⟨n6,a6,l6,c6,m6,o6,p6,rfl,M⟩:=M
      first
       |have f:O (Bl E w6):=Hi N
       |have f:O (Bl E w6):=Hi (bR.drew.trans N)
       |have f:O (Bl E w6):=Hi (bR.drew.drew.trans N)
      have ba:O (FracV w6 (.agg #[.bool n6,.slice a6 l6 c6,.slice m6 o6 p6]) (e.q - s.q*q)):=Hi ⟨n6,a6,l6,c6,m6,o6,p6,rfl,M⟩;clear M N;obtain⟨aj,D,ar⟩:=Ib (m.o.trans (f.o.mono m.o.size)) (a9.o.below f.o) (ai.o.below f.o ai.o.lt);obtain⟨x0,x1,x2⟩:=Jb aj.o F Z.o aa.o ab.o;obtain⟨z0,z1,z2⟩:=Jb aj.o A ad.o ae.o af.o;obtain⟨k0,k1,k2,-⟩:=zc ar.o
      have f0:=D.o.blk.free (k*3);have f1:=D.o.blk.free (k*3+1);have f2:=D.o.blk.free (k*3+2);obtain⟨gb,ao,ag,_,t0,t1,t2⟩:=D.o.row.at (i:=k) (e:=e) (List.getElem?_set_self (by omega));cases ag;simp only[Nat.zero_add] at t0 t1 t2
      skip))
    all_goals
     go_wp2_with fail;obtain⟨HN,bb,bc⟩:=Ib (D.o.set (k:=k) (e:=⟨.bool n6,.slice a6 l6 c6,.slice m6 o6 p6,e.q - s.q*q,e.k+(s.k+j)+1⟩) a8 ⟨ba.o,H.o.sub (l.o.mul T.o G),Nat.succ_pos _⟩) (((ar.o.other n2.symm (k*3) (.bool n6)).other n2.symm (k*3+1) (.slice a6 l6 c6)).other n2.symm (k*3+2) (.slice m6 o6 p6)) (((aj.o.setCell (p:=⟨g,k*3,none⟩) (Nat.le_of_lt n) (.bool n6)).setCell (p:=⟨g,k*3+1,none⟩) (Nat.le_of_lt n) (.slice a6 l6 c6)).setCell (p:=⟨g,k*3+2,none⟩) (Nat.le_of_lt n) (.slice m6 o6 p6));rw[List.set_set] at HN;refine⟨⟨k+1,_,by omega,by go_num,HM.o.step HE.o (by rw[an.o]) (by show e.k+(s.k+j)+1<=B;omega),HN.o,bb.o,bc.o⟩,?_⟩;simp[intOf];omega
  .
   have bd:k=c.length:=by omega
   subst bd;go_wp2;go_ret;exact⟨⟨g,us,rfl,by omega,HQ.o,HM.o⟩,HB.o⟩
theorem mr_sl(rs:List MR):∀v∈ rs.flatMap MR.cells,∃a n c,v=Value.slice a n c:=by
 intro v b;obtain⟨r,_,b⟩:=List.mem_flatMap.1 b;exact⟨_,_,_,by simpa [MR.cells] using b⟩
theorem Qld:∀(rs:List MR) (k:Nat) (r:MR),(rs.set k r).flatMap MR.cells=(rs.flatMap MR.cells).set k (.slice r.a r.ts.length r.cap)
 | [],k,r=>by simp
 |t :: l,0,r=>by simp[MR.cells]
 |t :: l,k+1,r=>by
  have b:=Qld l k r;rw[List.set_cons_succ,List.flatMap_cons,b,List.flatMap_cons];simp[MR.cells]
def MR.none:MR:=⟨.none,0,[]⟩
theorem Qvg(n:Nat):madeCells (Value.cells (.slice .none 0 0)) n=((List.replicate n MR.none).flatMap MR.cells).toArray:=by
 have e:Value.cells (.slice .none 0 0)=#[.slice .none 0 0]:=by rfl
 rw[e];apply Array.ext';rw[toList_madeCells_one]
 induction n with
 |zero=>rfl
 |succ n a=>
  simp only[List.toList_toArray] at a ⊢;rw[List.replicate_succ,List.replicate_succ,List.flatMap_cons,<-a];rfl
theorem Qcv:(prog.info? 93).map (fun i=>(i.zero,i.size,i.bytes))=some (some (.slice .none 0 0),1,24):=by kernel_rfl
theorem Qle(n:Nat)(d:n<=1048576)(w:Vz):(Instr.makeSlice 89 (.int .i64 n) (.int .i64 n)).run prog w=.ok (.slice (some ⟨w.heap.size,0,.none⟩) n n) (w.alloc (.cells ((List.replicate n MR.none).flatMap MR.cells).toArray 93)):=by
 obtain⟨i,a,h⟩:=Option.map_eq_some_iff.1 Qcv;simp only[Prod.mk.injEq] at h;obtain⟨b,hs,c⟩:=h;have:=run_make w 89 93 i _ underlying89 a b .i64 .i64 n n (by omega) (by omega) (by rw[c];omega) (by omega);rw[Int.toNat_natCast,hs,Nat.mul_one,Qvg] at this;exact this
end Go.Proofs.YtppkmifkpjkgpaaGreatDoor
