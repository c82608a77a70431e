import Derived.Test.YtppkmifkpjkgpaaGreatDoorC24RefC
namespace Go.Proofs.YtppkmifkpjkgpaaGreatDoor
open Go.RowKit
open Go.Proofs.Tryz
set_option linter.unusedSimpArgs false
set_option linter.unusedVariables false
set_option maxHeartbeats 8000000
set_option maxRecDepth 1000000
theorem Qsy{a:List H3}{m i:Nat}{o:H3}(h:a[i]?=some o)(b:i<m):(o.j,o.w)∈ places (a.take m):=by
 unfold places;exact List.mem_map.2 ⟨o,mO (i:=i) (by rw[List.getElem?_take_of_lt b];exact h),rfl⟩
theorem Qsz{b:List H3}{m:Nat}{h:H3}(d:∀(t:Nat) (x:H3),t<m->b[t]?=some x->¬(x.j=h.j/\x.w=h.w)):(h.j,h.w) ∉ places (b.take m):=by
 intro c;unfold places at c;obtain⟨x,f,e⟩:=List.mem_map.1 c;obtain⟨t,a⟩:=List.getElem?_of_mem f;have hl:=(gZ a).1;rw[List.length_take] at hl;rw[List.getElem?_take_of_lt (by omega)] at a;simp only[Prod.mk.injEq] at e;exact d t x (by omega) a e
theorem Qai{X Y:Vz}{g h:Nat}{t:Vr}{a b c d:Value}(k:SB X g t #[a,b])(l:SB X h t #[c,d])(e:Below X.heap.size X Y):Y.cell? ⟨g,0,none⟩=some a/\Y.cell? ⟨g,1,none⟩=some b/\Y.cell? ⟨h,0,none⟩=some c/\Y.cell? ⟨h,1,none⟩=some d:=
 ⟨(k.below e k.lt).cell 0,(k.below e k.lt).cell 1,(l.below e l.lt).cell 0,(l.below e l.lt).cell 1⟩
theorem Qel{X Y:Vz}{g:Nat}{t:Vr}{a b c d e f:Value}(k:SB X g t #[a,b,c,d,e,f])(h:Below X.heap.size X Y):Y.cell? ⟨g,2,none⟩=some c/\Y.cell? ⟨g,4,none⟩=some e/\Y.cell? ⟨g,5,none⟩=some f:=
 ⟨(k.below h k.lt).cell 2,(k.below h k.lt).cell 4,(k.below h k.lt).cell 5⟩
theorem Qs0(a1 a2 a3:Vx)(c1 c2 c3:Nat)(z:List S2)(L:List B6)(J:List H3)(w:Vz)(hg:Glob w)(hf:FrRow w a1 a2 a3 c1 c2 c3 z L J)(hz:FrSized z L J)(hm:¬Many z.length L.length J.length):
 Calls prog 7 #[.agg #[.slice a1 z.length c1,.slice a2 L.length c2,.slice a3 J.length c3]] w fun e w'=>∃c a7,e=.returned (.agg #[.int .i64 c,.int .i64 a7])/\FrameFault z L J c a7/\Below w.heap.size w w':=by
 have n0:1<=z.length:=Nat.le_of_not_lt fun h=>hm (.inl h)
 have n1:z.length<=10:=Nat.le_of_not_lt fun h=>hm (.inr (.inl h))
 have n2:L.length<=24:=Nat.le_of_not_lt fun h=>hm (.inr (.inr (.inl h)))
 have n3:J.length<=20:=Nat.le_of_not_lt fun h=>hm (.inr (.inr (.inr h)))
 have Z:=Hi hm;have q1:((z.length:Int) == 0)=false:=by rw[beq_eq_false_iff_ne];omega
 have q2:¬((10:Int)<(z.length:Int)):=by omega
 have q3:¬((24:Int)<(L.length:Int)):=by omega
 have q4:¬((20:Int)<(J.length:Int)):=by omega
 clear hm;obtain⟨HG,HF,HZ⟩:=Ib hg hf hz;clear hg hf hz;go_enter func7,ntmps7;obtain⟨W,hW⟩:=nm ((w.alloc (.cells #[.slice a1 z.length c1,.slice a2 L.length c2,.slice a3 J.length c3] 26)).alloc (.cells #[.int .i64 0,.int .i64 0] 31));have A:=Ub hW;have N:=Ud hW;have I:=Ue hW;have a8:O (Below W.heap.size W W):=Hi bR;have F:=N.o.below a8.o N.o.lt;have hy:=I.o.below a8.o I.o.lt;obtain⟨x0,x1,-⟩:=zc F
 obtain⟨-,-,x2,-⟩:=zc F;obtain⟨z0,z1,-⟩:=zc hy;have f0:=hy.free 0;have f1:=hy.free 1;clear F hy;rw[<-hW] at x0 x1 x2 z0 z1 f0 f1;have HW:=Hi hW;clear hW;go_wp2_with fail;rw[HW.o];clear x0 x1 x2 z0 z1 f0 f1 q1 q2 q3 q4;go_loopw [38] (fun iv wr=>∃k:Nat,k<=L.length/\iv=.int .i64 k/\(∀(i:Nat) (x:B6),i<k->L[i]?=some x->BarCode z x 0)/\Below W.heap.size W wr) (fun iv _=>L.length - (intOf iv).toNat)
 case atStart=>exact⟨0,by omega,rfl,fun i x hi=>by omega,Below.refl _ _⟩
 case round=>
  obtain⟨k,hk,rfl,am,hb⟩:=hrel;obtain⟨K,HB,b4⟩:=Ib am hb (A.o.trans (hb.mono A.o.size));clear am hb;by_cases b5:k<L.length
  .
   obtain⟨f,an⟩:∃f,L[k]?=some f:=⟨L[k],gE b5⟩;obtain⟨fb,b6,rfl,b7,d0,d1,d2,d3,d4,d5⟩:=(HF.o.b.below b4.o).bar an;have ae:=Hi an;have q5:((k:Int)<(L.length:Int)):=by omega
   obtain⟨V,hV⟩:=nm (wr.alloc (.cells #[.int .i64 f.a,.int .i64 f.b,.string f.c,.string f.e,.string f.l,.string f.m] 80));have C:O (Below W.heap.size W V):=Hi (by rw[<-hV];exact HB.o.alloc HB.o.size _);have X:=Uc hV;have HV:=Hi hV;clear an hV;by_cases gg:f.a<0∨f.b<0∨(z.length:Int)<=f.a∨(z.length:Int)<=f.b
   .
    have b8:O (¬(IsJ z.length f.a/\IsJ z.length f.b)):=Hi (fun h=>by unfold IsJ at h;omega);rcases(show f.a<0∨¬f.a<0/\f.b<0∨¬f.a<0/\¬f.b<0/\(z.length:Int)<=f.a∨¬f.a<0/\¬f.b<0/\¬(z.length:Int)<=f.a/\(z.length:Int)<=f.b by omega) with g1|⟨g1,g2⟩|⟨g1,g2,g3⟩|⟨g1,g2,g3,g4⟩
    all_goals
     clear gg;go_wp2_with fail;rw[HV.o];clear d0 d1 d2 d3 d4 d5;go_fit (ref_F 4 (k:Int) V);rintro e w9 ⟨rfl,G⟩;have H:=Hi (C.o.trans (G.mono C.o.size));have r:=Hi (I.o.below H.o I.o.lt);obtain⟨z0,z1,-⟩:=zc r.o;have f0:=r.o.free 0;have f1:=r.o.free 1;clear G;go_wp2;refine bodyPost_ret (v:=.agg #[.int .i64 4,.int .i64 (k:Int)]) (results_cell_row rfl _ _ (w.heap.size+1) 31 #[.int .i64 4,.int .i64 (k:Int)] (0,0) _ rfl ((r.o.set 0 _).set 1 _) underlying31 rfl Tryz.faultInfo) rfl ?_;exact⟨_,_,rfl,Or.inr (Or.inl ⟨Z.o,k,f,ae.o,K.o,Or.inl ⟨b8.o,rfl⟩,by decide,rfl⟩),((A.o.trans (H.o.mono A.o.size)).setCell (Nat.le_succ _) _).setCell (Nat.le_succ _) _⟩
   obtain⟨g1,g2,g3,g4⟩:¬f.a<0/\¬f.b<0/\¬(z.length:Int)<=f.a/\¬(z.length:Int)<=f.b:=by omega
   clear gg;have ai:IsJ z.length f.a:=⟨by omega,by omega⟩;have a9:IsJ z.length f.b:=⟨by omega,by omega⟩;obtain⟨ao,ap⟩:=Ia ai a9;clear ai a9;obtain⟨ka,ba⟩:=Int.eq_ofNat_of_zero_le ao.o.1;obtain⟨kb,bb⟩:=Int.eq_ofNat_of_zero_le ap.o.1;obtain⟨p,hp⟩:∃p,z[ka]?=some p:=⟨_,gE (by have:=ao.o.2;omega)⟩;obtain⟨q,u⟩:∃q,z[kb]?=some q:=⟨_,gE (by have:=ap.o.2;omega)⟩;obtain⟨aq,ar,HP,HQ⟩:=Ic ba bb hp u;clear ba bb hp u;go_wp2_with fail;rw[HV.o,aq.o,ar.o];clear d0 d1 d2 d3 d4 d5;obtain⟨jb,jo,ai,ck,d0,d1⟩:=((HF.o.j.below A.o).below C.o).spot HP.o;obtain⟨cl,cm,bc,ch,d2,d3⟩:=((HF.o.j.below A.o).below C.o).spot HQ.o;subst ai;cases bc;have F:=N.o.below C.o N.o.lt
   obtain⟨x0,-⟩:=zc F;have y0:V.cell? ⟨wr.heap.size,0,none⟩=some (.int .i64 (ka:Int)):=by rw[<-aq.o];exact X.o.cell 0
   have y1:V.cell? ⟨wr.heap.size,1,none⟩=some (.int .i64 (kb:Int)):=by rw[<-ar.o];exact X.o.cell 1
   have i1:((0:Int)<=(ka:Int)):=by omega
   have i2:((0:Int)<=(kb:Int)):=by omega
   have i3:((ka:Int)<(z.length:Int)):=by have:=(gZ HP.o).1;omega
   have i4:((kb:Int)<(z.length:Int)):=by have:=(gZ HQ.o).1;omega
   have l0:=N.o.lt;have l1:=C.o.size;have l2:=X.o.lt;have m1:V.heap.size≠w.heap.size:=by omega
   have m2:V.heap.size≠wr.heap.size:=by omega
   have m3:V.heap.size≠jb:=by omega
   have m4:V.heap.size+1≠w.heap.size:=by omega
   have m5:V.heap.size+1≠wr.heap.size:=by omega
   have m6:V.heap.size+1≠jb:=by omega
   clear F;go_cut [6,7] (fun s6 s7 wx=>∃g6 g7:Nat,s6=.pointer (some ⟨g6,0,none⟩)/\s7=.pointer (some ⟨g7,0,none⟩)/\SB wx g6 56 #[.string p.x,.string p.y]/\SB wx g7 56 #[.string q.x,.string q.y]/\Below V.heap.size V wx)
   case first=>
    go_region_held3 (fun v=>v.cell? ⟨w.heap.size,0,none⟩=some (.slice (some ⟨jb,jo,none⟩) z.length c1)/\v.cell? ⟨wr.heap.size,0,none⟩=some (.int .i64 (ka:Int))/\v.cell? ⟨wr.heap.size,1,none⟩=some (.int .i64 (kb:Int))/\v.cell? ⟨jb,jo+ka*2,none⟩=some (.string p.x)/\v.cell? ⟨jb,jo+ka*2+1,none⟩=some (.string p.y)/\v.cell? ⟨jb,jo+kb*2,none⟩=some (.string q.x)/\v.cell? ⟨jb,jo+kb*2+1,none⟩=some (.string q.y)) ((first|(simp [*];done)|go_keep)) (fail)
    all_goals
     go_wp2_with fail;go_meet
     case rel=>
      first
       |exact⟨_,_,rfl,rfl,SB.drew ((SB.new V _ _).alloc _),SB.drew (SB.new2 V _ _ _ _),(Below.new2 V _ _).drew⟩
       |exact⟨_,_,rfl,rfl,SB.drew (SB.new2 V _ _ _ _),SB.drew ((SB.new V _ _).alloc _),(Below.new2 V _ _).drew⟩
   case rest=>
    obtain⟨g6,g7,rfl,rfl,bd,be,au⟩:=hcut;obtain⟨wx,rfl⟩:∃wx,wx=wc:=⟨wc,rfl⟩;obtain⟨D,E,bf,av⟩:=Ic bd be (X.o.below au X.o.lt) (C.o.trans (au.mono C.o.size));have g:=Hi (RBag.start ((HG.o.below A.o).below av.o).most);obtain⟨px,bg⟩:=QOf.ex p.x.data.toList;obtain⟨py,bh⟩:=QOf.ex p.y.data.toList;obtain⟨qx,bi⟩:=QOf.ex q.x.data.toList;obtain⟨qy,bj⟩:=QOf.ex q.y.data.toList;obtain⟨vc,bk⟩:=QOf.ex f.c.data.toList;obtain⟨vl,bl⟩:=QOf.ex f.l.data.toList;obtain⟨vm,bm⟩:=QOf.ex f.m.data.toList;obtain⟨Q1,Q2,Q3,Q4,Q5,Q6,Q7,Z1,Z2⟩:=Ih bg bh bi bj bk bl bm (HZ.o.j p (mO HP.o)) (HZ.o.j q (mO HQ.o));have Z3:=Hi (HZ.o.b f (mO ae.o))
    have bn:O (∀c,c=(if px=qx/\py=qy then 5 else if sgn3 vc.num<=0∨0<sgn3 vl.num∨sgn3 vm.num<0 then 5 else 0)->BarCode z f c):=Hi (fun c hc=>.inr ⟨ao.o,ap.o,p,q,by rw[aq.o];exact HP.o,by rw[ar.o];exact HQ.o,px,py,qx,qy,vc,vl,vm,Q1.o,Q2.o,Q3.o,Q4.o,Q5.o,Q6.o,Q7.o,hc⟩);clear bd be au bg bh bi bj bk bl bm x0 y0 y1 d0 d1 d2 d3 i1 i2 i3 i4 l0 l1 l2 m1 m2 m3 m4 m5 m6;obtain⟨P,Q,R,S⟩:=Qai D.o E.o g.o.base;go_wp2_with fail;go_cut [94] (fun s wy=>s=.bool (decide (px=qx/\py=qy))/\Below wx.heap.size wx wy)
    case first=>
     by_cases T:px=qx
     .
      by_cases e2:py=qy
      .
       obtain⟨af,aw,ag⟩:=Ib T e2 (decide_eq_true (show px=qx/\py=qy from ⟨T,e2⟩));clear T e2;go_region_held3 (fun v=>v.cell? ⟨g6,0,none⟩=some (.string p.x)/\v.cell? ⟨g6,1,none⟩=some (.string p.y)/\v.cell? ⟨g7,0,none⟩=some (.string q.x)/\v.cell? ⟨g7,1,none⟩=some (.string q.y)) ((first|(simp [*];done)|go_keep)) (first
        |
         (go_at_call_of 33 (Value.string p.x)
          apply cM;apply RBag.of (w0:=wx) (n:=1048576);(focus(first|exact g.o|exact g.o.drew));exact Z1.o.1;decide;rintro e M ⟨qq,u,bq,rfl,d⟩;obtain rfl:=Q1.o.inj u;clear g;have g:=Hi d;clear u d;obtain⟨P,Q,R,S⟩:=Qai D.o E.o g.o.base
          skip)
        |
         (go_at_call_of 33 (Value.string p.y)
          apply cM;apply RBag.of (w0:=wx) (n:=1048576);(focus(first|exact g.o|exact g.o.drew));exact Z1.o.2;decide;rintro e M ⟨qq,u,bq,rfl,d⟩;obtain rfl:=Q2.o.inj u;clear g;have g:=Hi d;clear u d;obtain⟨P,Q,R,S⟩:=Qai D.o E.o g.o.base
          skip)
        |
         (go_at_call_of 33 (Value.string q.x)
          apply cM;apply RBag.of (w0:=wx) (n:=1048576);(focus(first|exact g.o|exact g.o.drew));exact Z2.o.1;decide;rintro e M ⟨qq,u,bq,rfl,d⟩;obtain rfl:=Q3.o.inj u;clear g;have g:=Hi d;clear u d;obtain⟨P,Q,R,S⟩:=Qai D.o E.o g.o.base
          skip)
        |
         (go_at_call_of 33 (Value.string q.y)
          apply cM;apply RBag.of (w0:=wx) (n:=1048576);(focus(first|exact g.o|exact g.o.drew));exact Z2.o.2;decide;rintro e M ⟨qq,u,bq,rfl,d⟩;obtain rfl:=Q4.o.inj u;clear g;have g:=Hi d;clear u d;obtain⟨P,Q,R,S⟩:=Qai D.o E.o g.o.base
          skip)
        |
         (go_at_call 34
          apply cM;apply RBag.cmpT (w0:=wx);(focus(first|exact g.o|exact g.o.drew));(focus(repeat(first|exact mH|apply mT)));(focus(repeat(first|exact mH|apply mT)));decide;exact af.o;rintro e M ⟨rfl,d⟩;clear g;have g:=Hi d;clear d;obtain⟨P,Q,R,S⟩:=Qai D.o E.o g.o.base
          skip)
        |
         (go_at_call 34
          apply cM;apply RBag.cmpT (w0:=wx);(focus(first|exact g.o|exact g.o.drew));(focus(repeat(first|exact mH|apply mT)));(focus(repeat(first|exact mH|apply mT)));decide;exact aw.o;rintro e M ⟨rfl,d⟩;clear g;have g:=Hi d;clear d;obtain⟨P,Q,R,S⟩:=Qai D.o E.o g.o.base
          skip)
        )
       all_goals
        go_wp2_with fail;go_meet
        case rel=>exact⟨by simp[ag.o, *],g.o.base⟩
        skip
      .
       obtain⟨af,aw,ag⟩:=Ib T e2 (decide_eq_false (show ¬(px=qx/\py=qy) from fun h=>e2 h.2));clear T e2;go_region_held3 (fun v=>v.cell? ⟨g6,0,none⟩=some (.string p.x)/\v.cell? ⟨g6,1,none⟩=some (.string p.y)/\v.cell? ⟨g7,0,none⟩=some (.string q.x)/\v.cell? ⟨g7,1,none⟩=some (.string q.y)) ((first|(simp [*];done)|go_keep)) (first
        |
         (go_at_call_of 33 (Value.string p.x)
          apply cM;apply RBag.of (w0:=wx) (n:=1048576);(focus(first|exact g.o|exact g.o.drew));exact Z1.o.1;decide;rintro e M ⟨qq,u,bq,rfl,d⟩;obtain rfl:=Q1.o.inj u;clear g;have g:=Hi d;clear u d;obtain⟨P,Q,R,S⟩:=Qai D.o E.o g.o.base
          skip)
        |
         (go_at_call_of 33 (Value.string p.y)
          apply cM;apply RBag.of (w0:=wx) (n:=1048576);(focus(first|exact g.o|exact g.o.drew));exact Z1.o.2;decide;rintro e M ⟨qq,u,bq,rfl,d⟩;obtain rfl:=Q2.o.inj u;clear g;have g:=Hi d;clear u d;obtain⟨P,Q,R,S⟩:=Qai D.o E.o g.o.base
          skip)
        |
         (go_at_call_of 33 (Value.string q.x)
          apply cM;apply RBag.of (w0:=wx) (n:=1048576);(focus(first|exact g.o|exact g.o.drew));exact Z2.o.1;decide;rintro e M ⟨qq,u,bq,rfl,d⟩;obtain rfl:=Q3.o.inj u;clear g;have g:=Hi d;clear u d;obtain⟨P,Q,R,S⟩:=Qai D.o E.o g.o.base
          skip)
        |
         (go_at_call_of 33 (Value.string q.y)
          apply cM;apply RBag.of (w0:=wx) (n:=1048576);(focus(first|exact g.o|exact g.o.drew));exact Z2.o.2;decide;rintro e M ⟨qq,u,bq,rfl,d⟩;obtain rfl:=Q4.o.inj u;clear g;have g:=Hi d;clear u d;obtain⟨P,Q,R,S⟩:=Qai D.o E.o g.o.base
          skip)
        |
         (go_at_call 34
          apply cM;apply RBag.cmpT (w0:=wx);(focus(first|exact g.o|exact g.o.drew));(focus(repeat(first|exact mH|apply mT)));(focus(repeat(first|exact mH|apply mT)));decide;exact af.o;rintro e M ⟨rfl,d⟩;clear g;have g:=Hi d;clear d;obtain⟨P,Q,R,S⟩:=Qai D.o E.o g.o.base
          skip)
        |
         (go_at_call 34
          apply cM;apply RBag.cmpF (w0:=wx);(focus(first|exact g.o|exact g.o.drew));(focus(repeat(first|exact mH|apply mT)));(focus(repeat(first|exact mH|apply mT)));decide;exact aw.o;rintro e M ⟨⟨cc,rfl,b9⟩,d⟩;clear g;have g:=Hi d;clear d;obtain⟨P,Q,R,S⟩:=Qai D.o E.o g.o.base
          skip)
        )
       all_goals
        go_wp2_with fail;go_meet
        case rel=>exact⟨by simp[ag.o, *],g.o.base⟩
        skip
     .
      obtain⟨af,ag⟩:=Ia T (decide_eq_false (show ¬(px=qx/\py=qy) from fun h=>T h.1));clear T
      first
       |(
        go_region_with (first
         |
          (go_at_call_of 33 (Value.string p.x)
           apply cM;apply RBag.of (w0:=wx) (n:=1048576);(focus(first|exact g.o|exact g.o.drew));exact Z1.o.1;decide;rintro e M ⟨qq,u,bq,rfl,d⟩;obtain rfl:=Q1.o.inj u;clear g;have g:=Hi d;clear u d;obtain⟨P,Q,R,S⟩:=Qai D.o E.o g.o.base
           skip)
         |
          (go_at_call_of 33 (Value.string p.y)
           apply cM;apply RBag.of (w0:=wx) (n:=1048576);(focus(first|exact g.o|exact g.o.drew));exact Z1.o.2;decide;rintro e M ⟨qq,u,bq,rfl,d⟩;obtain rfl:=Q2.o.inj u;clear g;have g:=Hi d;clear u d;obtain⟨P,Q,R,S⟩:=Qai D.o E.o g.o.base
           skip)
         |
          (go_at_call_of 33 (Value.string q.x)
           apply cM;apply RBag.of (w0:=wx) (n:=1048576);(focus(first|exact g.o|exact g.o.drew));exact Z2.o.1;decide;rintro e M ⟨qq,u,bq,rfl,d⟩;obtain rfl:=Q3.o.inj u;clear g;have g:=Hi d;clear u d;obtain⟨P,Q,R,S⟩:=Qai D.o E.o g.o.base
           skip)
         |
          (go_at_call_of 33 (Value.string q.y)
           apply cM;apply RBag.of (w0:=wx) (n:=1048576);(focus(first|exact g.o|exact g.o.drew));exact Z2.o.2;decide;rintro e M ⟨qq,u,bq,rfl,d⟩;obtain rfl:=Q4.o.inj u;clear g;have g:=Hi d;clear u d;obtain⟨P,Q,R,S⟩:=Qai D.o E.o g.o.base
           skip)
         |
          (go_at_call 34
           apply cM;apply RBag.cmpF (w0:=wx);(focus(first|exact g.o|exact g.o.drew));(focus(repeat(first|exact mH|apply mT)));(focus(repeat(first|exact mH|apply mT)));decide;exact af.o;rintro e M ⟨⟨cc,rfl,b9⟩,d⟩;clear g;have g:=Hi d;clear d;obtain⟨P,Q,R,S⟩:=Qai D.o E.o g.o.base
           skip)
         ))
       |fail
      all_goals
       go_wp2_with fail;go_meet
       case rel=>exact⟨by simp[ag.o, *],g.o.base⟩
       skip
    case rest=>
     obtain⟨rfl,ax⟩:=hcut;obtain⟨aa,aj⟩:=Ia (av.o.trans (ax.mono av.o.size)) (bf.o.below ax bf.o.lt);clear ax P Q R S;by_cases T:px=qx/\py=qy
     .
      have ab:O (BarCode z f 5):=Hi (bn.o 5 (by rw[if_pos T]));rw[decide_eq_true T];clear T;go_wp2_with fail;go_fit (ref_F 5 (k:Int) wc);rintro e w9 ⟨rfl,G⟩;have H:=Hi (aa.o.trans (G.mono aa.o.size));have r:=Hi (I.o.below H.o I.o.lt);obtain⟨z0,z1,-⟩:=zc r.o;have f0:=r.o.free 0;have f1:=r.o.free 1;clear G;go_wp2;refine bodyPost_ret (v:=.agg #[.int .i64 5,.int .i64 (k:Int)]) (results_cell_row rfl _ _ (w.heap.size+1) 31 #[.int .i64 5,.int .i64 (k:Int)] (0,0) _ rfl ((r.o.set 0 _).set 1 _) underlying31 rfl Tryz.faultInfo) rfl ?_;exact⟨_,_,rfl,Or.inr (Or.inl ⟨Z.o,k,f,ae.o,K.o,ab.o,by decide,rfl⟩),((A.o.trans (H.o.mono A.o.size)).setCell (Nat.le_succ _) _).setCell (Nat.le_succ _) _⟩
     .
      rw[decide_eq_false T];obtain⟨sc,ay⟩:=nm (sgn3 vc.num);obtain⟨sl,az⟩:=nm (sgn3 vl.num);obtain⟨sm,a0⟩:=nm (sgn3 vm.num);have a4:O (∀c,c=(if sc<=0∨0<sl∨sm<0 then 5 else 0)->BarCode z f c):=Hi (fun c hc=>bn.o c (by rw[if_neg T,ay,az,a0];exact hc));obtain⟨SC,SL,SM⟩:=Ib ay az a0;clear ay az a0 T;have B:=Hi (RBag.start ((HG.o.below A.o).below aa.o).most);obtain⟨r4,r5,r6⟩:=Qel aj.o B.o.base;have gg:sc<=0/\O (BarCode z f 5)∨¬sc<=0/\0<sl/\O (BarCode z f 5)∨¬sc<=0/\¬0<sl/\sm<0/\O (BarCode z f 5)∨¬sc<=0/\¬0<sl/\¬sm<0/\O (BarCode z f 0):=by
       have y:sc<=0∨0<sl∨sm<0->O (BarCode z f 5):=fun h=>Hi (a4.o 5 (by rw[if_pos h]))
       by_cases s1:sc<=0
       . exact .inl ⟨s1,y (.inl s1)⟩
       by_cases s2:0<sl
       . exact .inr (.inl ⟨s1,s2,y (.inr (.inl s2))⟩)
       by_cases s3:sm<0
       . exact .inr (.inr (.inl ⟨s1,s2,s3,y (.inr (.inr s3))⟩))
       exact .inr (.inr (.inr ⟨s1,s2,s3,Hi (a4.o 0 (by rw[if_neg (by omega)]))⟩))
      clear a4;rcases gg with ⟨s1,ab⟩|⟨s1,s2,ab⟩|⟨s1,s2,s3,ab⟩|⟨s1,s2,s3,ab⟩
      all_goals
       go_wp2_with (first
        |
         (go_at_call_of 33 (Value.string f.c)
          apply cM;apply RBag.of (w0:=wc) (n:=1048576);(focus(first|exact B.o|exact B.o.drew));exact Z3.o.1;decide;rintro e M ⟨qq,u,bq,rfl,d⟩;obtain rfl:=Q5.o.inj u;clear B;have B:=Hi d;clear u d;obtain⟨r4,r5,r6⟩:=Qel aj.o B.o.base
          skip)
        |
         (go_at_call_of 33 (Value.string f.l)
          apply cM;apply RBag.of (w0:=wc) (n:=1048576);(focus(first|exact B.o|exact B.o.drew));exact Z3.o.2.2.1;decide;rintro e M ⟨qq,u,bq,rfl,d⟩;obtain rfl:=Q6.o.inj u;clear B;have B:=Hi d;clear u d;obtain⟨r4,r5,r6⟩:=Qel aj.o B.o.base
          skip)
        |
         (go_at_call_of 33 (Value.string f.m)
          apply cM;apply RBag.of (w0:=wc) (n:=1048576);(focus(first|exact B.o|exact B.o.drew));exact Z3.o.2.2.2;decide;rintro e M ⟨qq,u,bq,rfl,d⟩;obtain rfl:=Q7.o.inj u;clear B;have B:=Hi d;clear u d;obtain⟨r4,r5,r6⟩:=Qel aj.o B.o.base
          skip)
        |
         (go_at_call 35
          apply cM;apply RBag.sign (w0:=wc);(focus(first|exact B.o|exact B.o.drew));(focus(repeat(first|exact mH|apply mT)));rintro e M ⟨rfl,rfl⟩
          (first|rw[SC.o]|rw[SL.o]|rw[SM.o]))
        |fail)
       first
        |(
         have HN:=Hi (aa.o.trans (B.o.base.mono aa.o.size));go_fit (ref_F 5 (k:Int) _);rintro e w9 ⟨rfl,G⟩;have H:=Hi (HN.o.trans (G.mono HN.o.size));have r:=Hi (I.o.below H.o I.o.lt);obtain⟨z0,z1,-⟩:=zc r.o;have f0:=r.o.free 0;have f1:=r.o.free 1;clear G;go_wp2;refine bodyPost_ret (v:=.agg #[.int .i64 5,.int .i64 (k:Int)]) (results_cell_row rfl _ _ (w.heap.size+1) 31 #[.int .i64 5,.int .i64 (k:Int)] (0,0) _ rfl ((r.o.set 0 _).set 1 _) underlying31 rfl Tryz.faultInfo) rfl ?_;exact⟨_,_,rfl,Or.inr (Or.inl ⟨Z.o,k,f,ae.o,K.o,ab.o,by decide,rfl⟩),((A.o.trans (H.o.mono A.o.size)).setCell (Nat.le_succ _) _).setCell (Nat.le_succ _) _⟩
         skip)
        |(
         go_roundw
         case rel=>
          refine⟨k+1,by omega,by go_num,?_,aa.o.trans (B.o.base.mono aa.o.size)⟩;intro i x hi F;rcases Nat.lt_or_ge i k with h|h
          . exact K.o i x h F
          .
           obtain rfl:i=k:=by omega
           obtain rfl:=Option.some.inj (ae.o.symm.trans F);exact ab.o
         case measure=>simp[intOf];omega)
  .
   have ca:k=L.length:=by omega
   subst ca;have F:=N.o.below HB.o N.o.lt;obtain⟨-,-,x2,-⟩:=zc F;clear F;go_wp2_with fail;clear x2;obtain⟨wq,rfl⟩:∃wq,wq=wr:=⟨wr,rfl⟩;go_loopw [122] (fun iv wr=>∃m:Nat,m<=J.length/\iv=.int .i64 m/\(∀(i:Nat) (x:H3),i<m->J[i]?=some x->holdAt z.length J i x=0)/\Below W.heap.size W wr) (fun iv _=>J.length - (intOf iv).toNat)
   case atStart=>exact⟨0,by omega,rfl,fun i x hi=>by omega,HB.o⟩
   case round=>
    obtain⟨m,hm,rfl,bo,hb⟩:=hrel;obtain⟨ah,HC,bp⟩:=Ib bo hb (A.o.trans (hb.mono A.o.size));clear bo hb;by_cases cb:m<J.length
    .
     obtain⟨h,a5⟩:∃h,J[m]?=some h:=⟨J[m],gE cb⟩;obtain⟨fb,b6,br,b7,d0,d1,d2⟩:=(HF.o.h.below bp.o).hold a5;obtain⟨cn,ak⟩:=Ia br a5;have q5:((m:Int)<(J.length:Int)):=by omega
     subst br;obtain⟨V,hV⟩:=nm (wr.alloc (.cells #[.int .i64 h.j,.int .i64 h.w,.string h.q] 83));have C:O (Below W.heap.size W V):=Hi (by rw[<-hV];exact HC.o.alloc HC.o.size _);have X:=Uc hV;have F:=N.o.below C.o N.o.lt;obtain⟨-,x1,x2,-⟩:=zc F;rw[<-hV] at x1 x2;have HV:=Hi hV;clear a5 hV F;by_cases gg:h.j<0∨(z.length:Int)<=h.j
     .
      have ad:O (holdAt z.length J m h=4):=Hi (by unfold holdAt holdC;rw[if_neg (by omega)]);rcases(show h.j<0∨¬h.j<0/\(z.length:Int)<=h.j by omega) with g1|⟨g1,g2⟩
      all_goals
       clear gg;go_wp2_with fail;rw[HV.o];clear x1 x2 d0 d1 d2;go_fit (ref_F 4 ((L.length:Int)+(m:Int)) V);rintro e w9 ⟨rfl,G⟩;have H:=Hi (C.o.trans (G.mono C.o.size));have r:=Hi (I.o.below H.o I.o.lt);obtain⟨z0,z1,-⟩:=zc r.o;have f0:=r.o.free 0;have f1:=r.o.free 1;clear G;go_wp2;refine bodyPost_ret (v:=.agg #[.int .i64 4,.int .i64 ((L.length:Int)+(m:Int))]) (results_cell_row rfl _ _ (w.heap.size+1) 31 #[.int .i64 4,.int .i64 ((L.length:Int)+(m:Int))] (0,0) _ rfl ((r.o.set 0 _).set 1 _) underlying31 rfl Tryz.faultInfo) rfl ?_
       exact⟨_,_,rfl,Or.inr (Or.inr ⟨Z.o,fun i x F=>K.o i x (gZ F).1 F,Or.inl ⟨m,h,ak.o,ah.o,ad.o,by decide,rfl⟩⟩),((A.o.trans (H.o.mono A.o.size)).setCell (Nat.le_succ _) _).setCell (Nat.le_succ _) _⟩
     obtain⟨g1,g2⟩:¬h.j<0/\¬(z.length:Int)<=h.j:=by omega
     clear gg;have q6:((m:Int)<=(c3:Int)):=by have:=HF.o.h.fit;omega
     by_cases g3:h.w=1∨h.w=2
     .
      have bt:O (∀tw,holdAt z.length J m h=holdC z.length h.j h.w tw->tw=decide ((h.j,h.w)∈ places (J.take m))->holdAt z.length J m h=if tw=true then 7 else 0):=Hi (fun tw e et=>by rw[e];unfold holdC;rw[if_pos (by omega),if_neg (by omega)]);have gg:(h.w != 1)=false∨(h.w != 1)=true/\(h.w != 2)=false:=by
       by_cases g4:h.w=1
       . exact .inl (by rw[bne_eq_false_iff_eq];exact g4)
       . exact .inr ⟨by rw[bne_iff_ne];exact g4,by rw[bne_eq_false_iff_eq];omega⟩
      rcases gg with T|⟨T,e2⟩
      all_goals
       clear g3;go_wp2_with fail;rw[HV.o];clear x1 x2 d0 d1 d2;obtain⟨wv,rfl⟩:∃wv,wv=wr:=⟨wr,rfl⟩;go_loopw [158] (fun iv wr=>∃i:Nat,i<=m/\iv=.int .i64 i/\(∀(t:Nat) (x:H3),t<i->J[t]?=some x->¬(x.j=h.j/\x.w=h.w))/\Below V.heap.size V wr) (fun iv _=>m - (intOf iv).toNat)
       case atStart=>exact⟨0,by omega,rfl,fun t x ht=>by omega,Below.refl _ _⟩
       case round=>
        obtain⟨i,hi,rfl,bu,hb⟩:=hrel;obtain⟨bv,HD,bw⟩:=Ib bu hb (C.o.trans (hb.mono C.o.size));clear bu hb;by_cases cd:i<m
        .
         obtain⟨o,a6⟩:∃o,J[i]?=some o:=⟨J[i],gE (by omega)⟩;obtain⟨cp,ci,bx,cj,d0,d1,d2⟩:=((HF.o.h.below A.o).below bw.o).hold a6;cases bx;have bz:=Hi a6;obtain⟨U,hU⟩:=nm (wr.alloc (.cells #[.int .i64 o.j,.int .i64 o.w,.string o.q] 83));have al:Below V.heap.size V U:=by rw[<-hU];exact HD.o.alloc HD.o.size _
         obtain⟨b0,b3⟩:=Ia (C.o.trans (al.mono C.o.size)) al;obtain⟨v0,v1,-⟩:=zc (X.o.below al X.o.lt);rw[<-hU] at v0 v1;have HU:=Hi hU;have q7:((i:Int)<(m:Int)):=by omega
         clear a6 hU al;by_cases e3:o.j=h.j/\o.w=h.w
         .
          have b1:(o.j == h.j)=true:=by rw[beq_iff_eq];exact e3.1
          have b2:(o.w == h.w)=true:=by rw[beq_iff_eq];exact e3.2
          have ad:O (holdAt z.length J m h=7):=Hi (by
           have Y:(h.j,h.w)∈ places (J.take m):=by
            rw[<-e3.1,<-e3.2];exact Qsy bz.o cd
           rw[bt.o true (by unfold holdAt;rw[decide_eq_true Y]) (decide_eq_true Y).symm,if_pos rfl])
          clear e3;go_wp2_with fail;rw[HU.o];clear v0 v1 d0 d1 d2;go_fit (ref_F 7 ((L.length:Int)+(m:Int)) U);rintro e w9 ⟨rfl,G⟩;have H:=Hi (b0.o.trans (G.mono b0.o.size));have r:=Hi (I.o.below H.o I.o.lt);obtain⟨z0,z1,-⟩:=zc r.o;have f0:=r.o.free 0;have f1:=r.o.free 1;clear G;go_wp2;refine bodyPost_ret (v:=.agg #[.int .i64 7,.int .i64 ((L.length:Int)+(m:Int))]) (results_cell_row rfl _ _ (w.heap.size+1) 31 #[.int .i64 7,.int .i64 ((L.length:Int)+(m:Int))] (0,0) _ rfl ((r.o.set 0 _).set 1 _) underlying31 rfl Tryz.faultInfo) rfl ?_
          exact⟨_,_,rfl,Or.inr (Or.inr ⟨Z.o,fun i x F=>K.o i x (gZ F).1 F,Or.inl ⟨m,h,ak.o,ah.o,ad.o,by decide,rfl⟩⟩),((A.o.trans (H.o.mono A.o.size)).setCell (Nat.le_succ _) _).setCell (Nat.le_succ _) _⟩
         .
          have ce:=Hi e3;have gg:(o.j == h.j)=false∨(o.j == h.j)=true/\(o.w == h.w)=false:=by
           by_cases e4:o.j=h.j
           . exact .inr ⟨by rw[beq_iff_eq];exact e4,by rw[beq_eq_false_iff_ne];exact fun h=>e3 ⟨e4,h⟩⟩
           . exact .inl (by rw[beq_eq_false_iff_ne];exact e4)
          clear e3;rcases gg with b1|⟨b1,b2⟩
          all_goals
           go_wp2;go_roundw
           case rel=>
            refine⟨i+1,by omega,by go_num,?_,by rw[HU.o];exact b3.o⟩;intro t x ht F;rcases Nat.lt_or_ge t i with h'|h'
            . exact bv.o t x h' F
            .
             obtain rfl:t=i:=by omega
             obtain rfl:=Option.some.inj (bz.o.symm.trans F);exact ce.o
           case measure=>simp[intOf];omega
           skip
        .
         have cf:i=m:=by omega
         subst cf;have ad:O (holdAt z.length J i h=0):=Hi (by
          have Y:(h.j,h.w) ∉ places (J.take i):=Qsz bv.o
          rw[bt.o false (by unfold holdAt;rw[decide_eq_false Y]) (decide_eq_false Y).symm,if_neg (by simp)])
         go_wp2;go_roundw
         case rel=>
          refine⟨i+1,by omega,by go_num,?_,bw.o⟩;intro t x ht F;rcases Nat.lt_or_ge t i with h'|h'
          . exact ah.o t x h' F
          .
           obtain rfl:t=i:=by omega
           obtain rfl:=Option.some.inj (ak.o.symm.trans F);exact ad.o
         case measure=>simp[intOf];omega
       skip
     .
      have ad:O (holdAt z.length J m h=3):=Hi (by unfold holdAt holdC;rw[if_pos (by omega),if_pos (by omega)]);have T:(h.w != 1)=true:=by rw[bne_iff_ne];omega
      have e2:(h.w != 2)=true:=by rw[bne_iff_ne];omega
      clear g3;go_wp2_with fail;rw[HV.o];clear x1 x2 d0 d1 d2;go_fit (ref_F 3 ((L.length:Int)+(m:Int)) V);rintro e w9 ⟨rfl,G⟩;have H:=Hi (C.o.trans (G.mono C.o.size));have r:=Hi (I.o.below H.o I.o.lt);obtain⟨z0,z1,-⟩:=zc r.o;have f0:=r.o.free 0;have f1:=r.o.free 1;clear G;go_wp2;refine bodyPost_ret (v:=.agg #[.int .i64 3,.int .i64 ((L.length:Int)+(m:Int))]) (results_cell_row rfl _ _ (w.heap.size+1) 31 #[.int .i64 3,.int .i64 ((L.length:Int)+(m:Int))] (0,0) _ rfl ((r.o.set 0 _).set 1 _) underlying31 rfl Tryz.faultInfo) rfl ?_
      exact⟨_,_,rfl,Or.inr (Or.inr ⟨Z.o,fun i x F=>K.o i x (gZ F).1 F,Or.inl ⟨m,h,ak.o,ah.o,ad.o,by decide,rfl⟩⟩),((A.o.trans (H.o.mono A.o.size)).setCell (Nat.le_succ _) _).setCell (Nat.le_succ _) _⟩
    .
     have cg:m=J.length:=by omega
     subst cg;have r:=Hi (I.o.below HC.o I.o.lt);obtain⟨z0,z1,-⟩:=zc r.o;have f0:=r.o.free 0;have f1:=r.o.free 1;go_wp2;refine bodyPost_ret (v:=.agg #[.int .i64 0,.int .i64 0]) (results_cell_row rfl _ _ (w.heap.size+1) 31 #[.int .i64 0,.int .i64 0] (0,0) _ rfl ((r.o.set 0 _).set 1 _) underlying31 rfl Tryz.faultInfo) rfl ?_;exact⟨0,0,rfl,Or.inr (Or.inr ⟨Z.o,fun i x F=>K.o i x (gZ F).1 F,Or.inr ⟨fun i x F=>ah.o i x (gZ F).1 F,rfl,rfl⟩⟩),(bp.o.setCell (Nat.le_succ _) _).setCell (Nat.le_succ _) _⟩
   skip
end Go.Proofs.YtppkmifkpjkgpaaGreatDoor
