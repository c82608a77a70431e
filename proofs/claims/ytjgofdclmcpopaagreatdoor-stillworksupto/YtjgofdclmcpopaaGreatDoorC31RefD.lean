import Derived.Test.YtjgofdclmcpopaaGreatDoorC30RefC
namespace Go.Proofs.YtjgofdclmcpopaaGreatDoor
open Go.RowKit
open Go.Proofs.Tryz
set_option linter.unusedSimpArgs false
set_option linter.unusedVariables false
set_option maxHeartbeats 8000000
set_option maxRecDepth 1000000
theorem Qjz{hs:List H3}{m i:Nat}{o:H3}(h:hs[i]?=some o)(hi:i<m):(o.j,o.w)∈ places (hs.take m):=by
 unfold places;exact List.mem_map.2 ⟨o,mO (i:=i) (by rw[List.getElem?_take_of_lt hi];exact h),rfl⟩
theorem Qj0{hs:List H3}{m:Nat}{h:H3}(hn:∀(t:Nat) (x:H3),t<m->hs[t]?=some x->¬(x.j=h.j/\x.w=h.w)):(h.j,h.w) ∉ places (hs.take m):=by
 intro hm;unfold places at hm;obtain⟨x,hx,e⟩:=List.mem_map.1 hm;obtain⟨t,ht⟩:=List.getElem?_of_mem hx;have hl:=(gZ ht).1;rw[List.length_take] at hl;rw[List.getElem?_take_of_lt (by omega)] at ht;simp only[Prod.mk.injEq] at e;exact hn t x (by omega) ht e
theorem Qr2(a1 a2 a3:Option Addr)(c1 c2 c3:Nat)(js:List S2)(bs:List B6)(hs:List H3)(w:World)(hg:Glob w)(hf:FrRow w a1 a2 a3 c1 c2 c3 js bs hs)(hz:FrSized js bs hs)(hm:¬Many js.length bs.length hs.length):
 Calls prog 27 #[.agg #[.slice a1 js.length c1,.slice a2 bs.length c2,.slice a3 hs.length c3]] w fun e w'=>∃c at_,e=.returned (.agg #[.int .i64 c,.int .i64 at_])/\FrameFault js bs hs c at_/\Below w.heap.size w w':=by
 have n0:1<=js.length:=Nat.le_of_not_lt fun h=>hm (.inl h)
 have n1:js.length<=10:=Nat.le_of_not_lt fun h=>hm (.inr (.inl h))
 have n2:bs.length<=24:=Nat.le_of_not_lt fun h=>hm (.inr (.inr (.inl h)))
 have n3:hs.length<=20:=Nat.le_of_not_lt fun h=>hm (.inr (.inr (.inr h)))
 have HNM:=Hi hm;have q1:((js.length:Int) == 0)=false:=by rw[beq_eq_false_iff_ne];omega
 have q2:¬((10:Int)<(js.length:Int)):=by omega
 have q3:¬((24:Int)<(bs.length:Int)):=by omega
 have q4:¬((20:Int)<(hs.length:Int)):=by omega
 clear hm;obtain⟨HG,HF,HZ⟩:=Ib hg hf hz;clear hg hf hz;go_enter func27,ntmps27;obtain⟨W,hW⟩:=nm ((w.alloc (.cells #[.slice a1 js.length c1,.slice a2 bs.length c2,.slice a3 hs.length c3] 54)).alloc (.cells #[.int .i64 0,.int .i64 0] 57));have HB0:=Ub hW;have HS0:=Ud hW;have HS1:=Ue hW;have HR0:O (Below W.heap.size W W):=Hi bR;have hx:=HS0.o.below HR0.o HS0.o.lt;have hy:=HS1.o.below HR0.o HS1.o.lt;obtain⟨x0,-⟩:=zc hx
 obtain⟨-,x1,x2,-⟩:=zc hx;obtain⟨z0,z1,-⟩:=zc hy;have f0:=hy.free 0;have f1:=hy.free 1;clear hx hy;rw[<-hW] at x0 x1 x2 z0 z1 f0 f1;have HW:=Hi hW;clear hW;go_wp2_with fail;rw[HW.o];clear x0 x1 x2 z0 z1 f0 f1 q1 q2 q3 q4;go_loopw [38] (fun iv wr=>∃k:Nat,k<=bs.length/\iv=.int .i64 k/\(∀(i:Nat) (x:B6),i<k->bs[i]?=some x->BarCode js x 0)/\Below W.heap.size W wr) (fun iv _=>bs.length - (intOf iv).toNat)
 case atStart=>exact⟨0,by omega,rfl,fun i x hi=>by omega,Below.refl _ _⟩
 case round=>
  obtain⟨k,hk,rfl,hall,hb⟩:=hrel;obtain⟨HALL,HB,HBW⟩:=Ib hall hb (HB0.o.trans (hb.mono HB0.o.size));clear hall hb;by_cases hlt:k<bs.length
  .
   obtain⟨f,hfk⟩:∃f,bs[k]?=some f:=⟨bs[k],gE hlt⟩;obtain⟨fb,off,rfl,hfb,d0,d1,d2,d3,d4,d5⟩:=(HF.o.b.below HBW.o).bar hfk;have HFK:=Hi hfk;have q5:((k:Int)<(bs.length:Int)):=by omega
   obtain⟨V,hV⟩:=nm (wr.alloc (.cells #[.int .i64 f.a,.int .i64 f.b,.string f.c,.string f.e,.string f.l,.string f.m] 69));have HBV:O (Below W.heap.size W V):=Hi (by rw[<-hV];exact HB.o.alloc HB.o.size _);have HSV:=Uc hV;have HV:=Hi hV;clear hfk hV;by_cases g1:f.a<0
   .
    have HNJ:O (¬(IsJ js.length f.a/\IsJ js.length f.b)):=Hi (fun h=>by have:=h.1.1;omega);go_wp2_with fail;rw[HV.o];clear d0 d1 d2 d3 d4 d5;go_fit (ref_F 4 (k:Int) V);rintro e w9 ⟨rfl,hb9⟩;have HB9:=Hi (HBV.o.trans (hb9.mono HBV.o.size));have HS9:=Hi (HS1.o.below HB9.o HS1.o.lt);obtain⟨z0,z1,-⟩:=zc HS9.o;have f0:=HS9.o.free 0;have f1:=HS9.o.free 1;clear hb9;go_wp2;refine bodyPost_ret (v:=.agg #[.int .i64 4,.int .i64 (k:Int)]) (results_cell_row rfl _ _ (w.heap.size+1) 57 #[.int .i64 4,.int .i64 (k:Int)] (0,0) _ rfl ((HS9.o.set 0 _).set 1 _) underlying57 rfl Tryz.faultInfo) rfl ?_
    exact⟨_,_,rfl,Or.inr (Or.inl ⟨HNM.o,k,f,HFK.o,HALL.o,Or.inl ⟨HNJ.o,rfl⟩,by decide,rfl⟩),((HB0.o.trans (HB9.o.mono HB0.o.size)).setCell (Nat.le_succ _) _).setCell (Nat.le_succ _) _⟩
   by_cases g2:f.b<0
   .
    have HNJ:O (¬(IsJ js.length f.a/\IsJ js.length f.b)):=Hi (fun h=>by have:=h.2.1;omega);go_wp2_with fail;rw[HV.o];clear d0 d1 d2 d3 d4 d5;go_fit (ref_F 4 (k:Int) V);rintro e w9 ⟨rfl,hb9⟩;have HB9:=Hi (HBV.o.trans (hb9.mono HBV.o.size));have HS9:=Hi (HS1.o.below HB9.o HS1.o.lt);obtain⟨z0,z1,-⟩:=zc HS9.o;have f0:=HS9.o.free 0;have f1:=HS9.o.free 1;clear hb9;go_wp2;refine bodyPost_ret (v:=.agg #[.int .i64 4,.int .i64 (k:Int)]) (results_cell_row rfl _ _ (w.heap.size+1) 57 #[.int .i64 4,.int .i64 (k:Int)] (0,0) _ rfl ((HS9.o.set 0 _).set 1 _) underlying57 rfl Tryz.faultInfo) rfl ?_
    exact⟨_,_,rfl,Or.inr (Or.inl ⟨HNM.o,k,f,HFK.o,HALL.o,Or.inl ⟨HNJ.o,rfl⟩,by decide,rfl⟩),((HB0.o.trans (HB9.o.mono HB0.o.size)).setCell (Nat.le_succ _) _).setCell (Nat.le_succ _) _⟩
   by_cases g3:(js.length:Int)<=f.a
   .
    have HNJ:O (¬(IsJ js.length f.a/\IsJ js.length f.b)):=Hi (fun h=>by have:=h.1.2;omega);go_wp2_with fail;rw[HV.o];clear d0 d1 d2 d3 d4 d5;go_fit (ref_F 4 (k:Int) V);rintro e w9 ⟨rfl,hb9⟩;have HB9:=Hi (HBV.o.trans (hb9.mono HBV.o.size));have HS9:=Hi (HS1.o.below HB9.o HS1.o.lt);obtain⟨z0,z1,-⟩:=zc HS9.o;have f0:=HS9.o.free 0;have f1:=HS9.o.free 1;clear hb9;go_wp2;refine bodyPost_ret (v:=.agg #[.int .i64 4,.int .i64 (k:Int)]) (results_cell_row rfl _ _ (w.heap.size+1) 57 #[.int .i64 4,.int .i64 (k:Int)] (0,0) _ rfl ((HS9.o.set 0 _).set 1 _) underlying57 rfl Tryz.faultInfo) rfl ?_
    exact⟨_,_,rfl,Or.inr (Or.inl ⟨HNM.o,k,f,HFK.o,HALL.o,Or.inl ⟨HNJ.o,rfl⟩,by decide,rfl⟩),((HB0.o.trans (HB9.o.mono HB0.o.size)).setCell (Nat.le_succ _) _).setCell (Nat.le_succ _) _⟩
   by_cases g4:(js.length:Int)<=f.b
   .
    have HNJ:O (¬(IsJ js.length f.a/\IsJ js.length f.b)):=Hi (fun h=>by have:=h.2.2;omega);go_wp2_with fail;rw[HV.o];clear d0 d1 d2 d3 d4 d5;go_fit (ref_F 4 (k:Int) V);rintro e w9 ⟨rfl,hb9⟩;have HB9:=Hi (HBV.o.trans (hb9.mono HBV.o.size));have HS9:=Hi (HS1.o.below HB9.o HS1.o.lt);obtain⟨z0,z1,-⟩:=zc HS9.o;have f0:=HS9.o.free 0;have f1:=HS9.o.free 1;clear hb9;go_wp2;refine bodyPost_ret (v:=.agg #[.int .i64 4,.int .i64 (k:Int)]) (results_cell_row rfl _ _ (w.heap.size+1) 57 #[.int .i64 4,.int .i64 (k:Int)] (0,0) _ rfl ((HS9.o.set 0 _).set 1 _) underlying57 rfl Tryz.faultInfo) rfl ?_
    exact⟨_,_,rfl,Or.inr (Or.inl ⟨HNM.o,k,f,HFK.o,HALL.o,Or.inl ⟨HNJ.o,rfl⟩,by decide,rfl⟩),((HB0.o.trans (HB9.o.mono HB0.o.size)).setCell (Nat.le_succ _) _).setCell (Nat.le_succ _) _⟩
   have hja:IsJ js.length f.a:=⟨by omega,by omega⟩;have hjb:IsJ js.length f.b:=⟨by omega,by omega⟩;obtain⟨HJA,HJB⟩:=Ia hja hjb;clear hja hjb;obtain⟨ka,hka⟩:=Int.eq_ofNat_of_zero_le HJA.o.1;obtain⟨kb,hkb⟩:=Int.eq_ofNat_of_zero_le HJB.o.1;obtain⟨p,hp⟩:∃p,js[ka]?=some p:=⟨_,gE (by have:=HJA.o.2;omega)⟩;obtain⟨q,hq⟩:∃q,js[kb]?=some q:=⟨_,gE (by have:=HJB.o.2;omega)⟩;obtain⟨HKA,HKB,HP,HQ⟩:=Ic hka hkb hp hq;clear hka hkb hp hq;go_wp2_with fail;rw[HV.o,HKA.o,HKB.o];clear d0 d1 d2 d3 d4 d5;obtain⟨jb,jo,hja,hjl,d0,d1⟩:=((HF.o.j.below HB0.o).below HBV.o).spot HP.o;obtain⟨jb2,jo2,hja2,hjl2,d2,d3⟩:=((HF.o.j.below HB0.o).below HBV.o).spot HQ.o;subst hja;cases hja2;have hx:=HS0.o.below HBV.o HS0.o.lt;obtain⟨x0,-⟩:=zc hx
   have y0:V.cell? ⟨wr.heap.size,0,none⟩=some (.int .i64 (ka:Int)):=by rw[<-HKA.o];exact HSV.o.cell 0
   have y1:V.cell? ⟨wr.heap.size,1,none⟩=some (.int .i64 (kb:Int)):=by rw[<-HKB.o];exact HSV.o.cell 1
   have i1:((0:Int)<=(ka:Int)):=by omega
   have i2:((0:Int)<=(kb:Int)):=by omega
   have i3:((ka:Int)<(js.length:Int)):=by have:=(gZ HP.o).1;omega
   have i4:((kb:Int)<(js.length:Int)):=by have:=(gZ HQ.o).1;omega
   have l0:=HS0.o.lt;have l1:=HBV.o.size;have l2:=HSV.o.lt;have m1:V.heap.size≠w.heap.size:=by omega
   have m2:V.heap.size≠wr.heap.size:=by omega
   have m3:V.heap.size≠jb:=by omega
   have m4:V.heap.size+1≠w.heap.size:=by omega
   have m5:V.heap.size+1≠wr.heap.size:=by omega
   have m6:V.heap.size+1≠jb:=by omega
   clear hx;go_cut [6,7] (fun s6 s7 wx=>∃g6 g7:Nat,s6=.pointer (some ⟨g6,0,none⟩)/\s7=.pointer (some ⟨g7,0,none⟩)/\SB wx g6 25 #[.string p.x,.string p.y]/\SB wx g7 25 #[.string q.x,.string q.y]/\Below V.heap.size V wx)
   case first=>
    go_region_held3 (fun v=>v.cell? ⟨w.heap.size,0,none⟩=some (.slice (some ⟨jb,jo,none⟩) js.length c1)/\v.cell? ⟨wr.heap.size,0,none⟩=some (.int .i64 (ka:Int))/\v.cell? ⟨wr.heap.size,1,none⟩=some (.int .i64 (kb:Int))/\v.cell? ⟨jb,jo+ka*2,none⟩=some (.string p.x)/\v.cell? ⟨jb,jo+ka*2+1,none⟩=some (.string p.y)/\v.cell? ⟨jb,jo+kb*2,none⟩=some (.string q.x)/\v.cell? ⟨jb,jo+kb*2+1,none⟩=some (.string q.y)) ((first|(simp [*];done)|go_keep)) (fail)
    all_goals
     go_wp2_with fail;go_meet
     case rel=>
      first
       |exact⟨_,_,rfl,rfl,SB.drew ((SB.new V _ _).alloc _),SB.drew (SB.new2 V _ _ _ _),(Below.new2 V _ _).drew⟩
       |exact⟨_,_,rfl,rfl,SB.drew (SB.new2 V _ _ _ _),SB.drew ((SB.new V _ _).alloc _),(Below.new2 V _ _).drew⟩
   case rest=>
    obtain⟨g6,g7,rfl,rfl,hs6,hs7,hbx⟩:=hcut;obtain⟨wx,rfl⟩:∃wx,wx=wc:=⟨wc,rfl⟩;obtain⟨HS6,HS7,HSB,HBX⟩:=Ic hs6 hs7 (HSV.o.below hbx HSV.o.lt) (HBV.o.trans (hbx.mono HBV.o.size));have HR:=Hi (RBag.start ((HG.o.below HB0.o).below HBX.o).most);obtain⟨px,hpx⟩:=QOf.ex p.x.data.toList;obtain⟨py,hpy⟩:=QOf.ex p.y.data.toList;obtain⟨qx,hqx⟩:=QOf.ex q.x.data.toList;obtain⟨qy,hqy⟩:=QOf.ex q.y.data.toList;obtain⟨vc,hvc⟩:=QOf.ex f.c.data.toList;obtain⟨vl,hvl⟩:=QOf.ex f.l.data.toList;obtain⟨vm,hvm⟩:=QOf.ex f.m.data.toList;obtain⟨Q1,Q2,Q3,Q4,Q5,Q6,Q7,Z1,Z2⟩:=Ih hpx hpy hqx hqy hvc hvl hvm (HZ.o.j p (mO HP.o)) (HZ.o.j q (mO HQ.o));have Z3:=Hi (HZ.o.b f (mO HFK.o))
    have HBC:O (∀c,c=(if px=qx/\py=qy then 5 else if sgn3 vc.num<=0∨0<sgn3 vl.num∨sgn3 vm.num<0 then 5 else 0)->BarCode js f c):=Hi (fun c hc=>.inr ⟨HJA.o,HJB.o,p,q,by rw[HKA.o];exact HP.o,by rw[HKB.o];exact HQ.o,px,py,qx,qy,vc,vl,vm,Q1.o,Q2.o,Q3.o,Q4.o,Q5.o,Q6.o,Q7.o,hc⟩);clear hs6 hs7 hbx hpx hpy hqx hqy hvc hvl hvm x0 y0 y1 d0 d1 d2 d3 i1 i2 i3 i4 l0 l1 l2 m1 m2 m3 m4 m5 m6;have h8:=HSB.o.below HR.o.base HSB.o.lt;obtain⟨r0,r1,-⟩:=zc (HS6.o.below HR.o.base HS6.o.lt);obtain⟨r2,r3,-⟩:=zc (HS7.o.below HR.o.base HS7.o.lt);obtain⟨-,-,r4,-⟩:=zc h8
    obtain⟨-,-,-,-,r5,r6,-⟩:=zc h8;clear h8;go_wp2_with fail;go_cut [94] (fun s wy=>s=.bool (decide (px=qx/\py=qy))/\Below wx.heap.size wx wy)
    case first=>
     by_cases e1:px=qx
     .
      by_cases e2:py=qy
      .
       obtain⟨HXE,HYE,HDE⟩:=Ib e1 e2 (decide_eq_true (show px=qx/\py=qy from ⟨e1,e2⟩));clear e1 e2;go_region_held3 (fun v=>v.cell? ⟨g6,0,none⟩=some (.string p.x)/\v.cell? ⟨g6,1,none⟩=some (.string p.y)/\v.cell? ⟨g7,0,none⟩=some (.string q.x)/\v.cell? ⟨g7,1,none⟩=some (.string q.y)) ((first|(simp [*];done)|go_keep)) (first
        |
         (go_at_call_of 23 (Value.string p.x)
          apply cM;apply RBag.of (w0:=wx) (n:=1048576);(focus(first|exact HR.o|exact HR.o.drew));exact Z1.o.1;decide;rintro e wn ⟨qq,hq,bq,rfl,hbag⟩;obtain rfl:=Q1.o.inj hq;clear HR;have HR:=Hi hbag;clear hq hbag;have h8:=HSB.o.below HR.o.base HSB.o.lt;obtain⟨r0,r1,-⟩:=zc (HS6.o.below HR.o.base HS6.o.lt);obtain⟨r2,r3,-⟩:=zc (HS7.o.below HR.o.base HS7.o.lt);obtain⟨-,-,r4,-,r5,r6,-⟩:=zc h8;clear h8
          skip)
        |
         (go_at_call_of 23 (Value.string p.y)
          apply cM;apply RBag.of (w0:=wx) (n:=1048576);(focus(first|exact HR.o|exact HR.o.drew));exact Z1.o.2;decide;rintro e wn ⟨qq,hq,bq,rfl,hbag⟩;obtain rfl:=Q2.o.inj hq;clear HR;have HR:=Hi hbag;clear hq hbag;have h8:=HSB.o.below HR.o.base HSB.o.lt;obtain⟨r0,r1,-⟩:=zc (HS6.o.below HR.o.base HS6.o.lt);obtain⟨r2,r3,-⟩:=zc (HS7.o.below HR.o.base HS7.o.lt);obtain⟨-,-,r4,-,r5,r6,-⟩:=zc h8;clear h8
          skip)
        |
         (go_at_call_of 23 (Value.string q.x)
          apply cM;apply RBag.of (w0:=wx) (n:=1048576);(focus(first|exact HR.o|exact HR.o.drew));exact Z2.o.1;decide;rintro e wn ⟨qq,hq,bq,rfl,hbag⟩;obtain rfl:=Q3.o.inj hq;clear HR;have HR:=Hi hbag;clear hq hbag;have h8:=HSB.o.below HR.o.base HSB.o.lt;obtain⟨r0,r1,-⟩:=zc (HS6.o.below HR.o.base HS6.o.lt);obtain⟨r2,r3,-⟩:=zc (HS7.o.below HR.o.base HS7.o.lt);obtain⟨-,-,r4,-,r5,r6,-⟩:=zc h8;clear h8
          skip)
        |
         (go_at_call_of 23 (Value.string q.y)
          apply cM;apply RBag.of (w0:=wx) (n:=1048576);(focus(first|exact HR.o|exact HR.o.drew));exact Z2.o.2;decide;rintro e wn ⟨qq,hq,bq,rfl,hbag⟩;obtain rfl:=Q4.o.inj hq;clear HR;have HR:=Hi hbag;clear hq hbag;have h8:=HSB.o.below HR.o.base HSB.o.lt;obtain⟨r0,r1,-⟩:=zc (HS6.o.below HR.o.base HS6.o.lt);obtain⟨r2,r3,-⟩:=zc (HS7.o.below HR.o.base HS7.o.lt);obtain⟨-,-,r4,-,r5,r6,-⟩:=zc h8;clear h8
          skip)
        |
         (go_at_call 61
          apply cM;apply RBag.cmpT (w0:=wx);(focus(first|exact HR.o|exact HR.o.drew));(focus(repeat(first|exact mH|apply mT)));(focus(repeat(first|exact mH|apply mT)));decide;exact HXE.o;rintro e wn ⟨rfl,hbag⟩;clear HR;have HR:=Hi hbag;clear hbag;have h8:=HSB.o.below HR.o.base HSB.o.lt;obtain⟨r0,r1,-⟩:=zc (HS6.o.below HR.o.base HS6.o.lt);obtain⟨r2,r3,-⟩:=zc (HS7.o.below HR.o.base HS7.o.lt);obtain⟨-,-,r4,-,r5,r6,-⟩:=zc h8;clear h8
          skip)
        |
         (go_at_call 61
          apply cM;apply RBag.cmpT (w0:=wx);(focus(first|exact HR.o|exact HR.o.drew));(focus(repeat(first|exact mH|apply mT)));(focus(repeat(first|exact mH|apply mT)));decide;exact HYE.o;rintro e wn ⟨rfl,hbag⟩;clear HR;have HR:=Hi hbag;clear hbag;have h8:=HSB.o.below HR.o.base HSB.o.lt;obtain⟨r0,r1,-⟩:=zc (HS6.o.below HR.o.base HS6.o.lt);obtain⟨r2,r3,-⟩:=zc (HS7.o.below HR.o.base HS7.o.lt);obtain⟨-,-,r4,-,r5,r6,-⟩:=zc h8;clear h8
          skip)
        )
       all_goals
        go_wp2_with fail;go_meet
        case rel=>exact⟨by simp[HDE.o, *],HR.o.base⟩
        skip
      .
       obtain⟨HXE,HYE,HDE⟩:=Ib e1 e2 (decide_eq_false (show ¬(px=qx/\py=qy) from fun h=>e2 h.2));clear e1 e2;go_region_held3 (fun v=>v.cell? ⟨g6,0,none⟩=some (.string p.x)/\v.cell? ⟨g6,1,none⟩=some (.string p.y)/\v.cell? ⟨g7,0,none⟩=some (.string q.x)/\v.cell? ⟨g7,1,none⟩=some (.string q.y)) ((first|(simp [*];done)|go_keep)) (first
        |
         (go_at_call_of 23 (Value.string p.x)
          apply cM;apply RBag.of (w0:=wx) (n:=1048576);(focus(first|exact HR.o|exact HR.o.drew));exact Z1.o.1;decide;rintro e wn ⟨qq,hq,bq,rfl,hbag⟩;obtain rfl:=Q1.o.inj hq;clear HR;have HR:=Hi hbag;clear hq hbag;have h8:=HSB.o.below HR.o.base HSB.o.lt;obtain⟨r0,r1,-⟩:=zc (HS6.o.below HR.o.base HS6.o.lt);obtain⟨r2,r3,-⟩:=zc (HS7.o.below HR.o.base HS7.o.lt);obtain⟨-,-,r4,-,r5,r6,-⟩:=zc h8;clear h8
          skip)
        |
         (go_at_call_of 23 (Value.string p.y)
          apply cM;apply RBag.of (w0:=wx) (n:=1048576);(focus(first|exact HR.o|exact HR.o.drew));exact Z1.o.2;decide;rintro e wn ⟨qq,hq,bq,rfl,hbag⟩;obtain rfl:=Q2.o.inj hq;clear HR;have HR:=Hi hbag;clear hq hbag;have h8:=HSB.o.below HR.o.base HSB.o.lt;obtain⟨r0,r1,-⟩:=zc (HS6.o.below HR.o.base HS6.o.lt);obtain⟨r2,r3,-⟩:=zc (HS7.o.below HR.o.base HS7.o.lt);obtain⟨-,-,r4,-,r5,r6,-⟩:=zc h8;clear h8
          skip)
        |
         (go_at_call_of 23 (Value.string q.x)
          apply cM;apply RBag.of (w0:=wx) (n:=1048576);(focus(first|exact HR.o|exact HR.o.drew));exact Z2.o.1;decide;rintro e wn ⟨qq,hq,bq,rfl,hbag⟩;obtain rfl:=Q3.o.inj hq;clear HR;have HR:=Hi hbag;clear hq hbag;have h8:=HSB.o.below HR.o.base HSB.o.lt;obtain⟨r0,r1,-⟩:=zc (HS6.o.below HR.o.base HS6.o.lt);obtain⟨r2,r3,-⟩:=zc (HS7.o.below HR.o.base HS7.o.lt);obtain⟨-,-,r4,-,r5,r6,-⟩:=zc h8;clear h8
          skip)
        |
         (go_at_call_of 23 (Value.string q.y)
          apply cM;apply RBag.of (w0:=wx) (n:=1048576);(focus(first|exact HR.o|exact HR.o.drew));exact Z2.o.2;decide;rintro e wn ⟨qq,hq,bq,rfl,hbag⟩;obtain rfl:=Q4.o.inj hq;clear HR;have HR:=Hi hbag;clear hq hbag;have h8:=HSB.o.below HR.o.base HSB.o.lt;obtain⟨r0,r1,-⟩:=zc (HS6.o.below HR.o.base HS6.o.lt);obtain⟨r2,r3,-⟩:=zc (HS7.o.below HR.o.base HS7.o.lt);obtain⟨-,-,r4,-,r5,r6,-⟩:=zc h8;clear h8
          skip)
        |
         (go_at_call 61
          apply cM;apply RBag.cmpT (w0:=wx);(focus(first|exact HR.o|exact HR.o.drew));(focus(repeat(first|exact mH|apply mT)));(focus(repeat(first|exact mH|apply mT)));decide;exact HXE.o;rintro e wn ⟨rfl,hbag⟩;clear HR;have HR:=Hi hbag;clear hbag;have h8:=HSB.o.below HR.o.base HSB.o.lt;obtain⟨r0,r1,-⟩:=zc (HS6.o.below HR.o.base HS6.o.lt);obtain⟨r2,r3,-⟩:=zc (HS7.o.below HR.o.base HS7.o.lt);obtain⟨-,-,r4,-,r5,r6,-⟩:=zc h8;clear h8
          skip)
        |
         (go_at_call 61
          apply cM;apply RBag.cmpF (w0:=wx);(focus(first|exact HR.o|exact HR.o.drew));(focus(repeat(first|exact mH|apply mT)));(focus(repeat(first|exact mH|apply mT)));decide;exact HYE.o;rintro e wn ⟨⟨cc,rfl,hcc⟩,hbag⟩;clear HR;have HR:=Hi hbag;clear hbag;have h8:=HSB.o.below HR.o.base HSB.o.lt;obtain⟨r0,r1,-⟩:=zc (HS6.o.below HR.o.base HS6.o.lt);obtain⟨r2,r3,-⟩:=zc (HS7.o.below HR.o.base HS7.o.lt);obtain⟨-,-,r4,-,r5,r6,-⟩:=zc h8
          clear h8
          skip)
        )
       all_goals
        go_wp2_with fail;go_meet
        case rel=>exact⟨by simp[HDE.o, *],HR.o.base⟩
        skip
     .
      obtain⟨HXE,HDE⟩:=Ia e1 (decide_eq_false (show ¬(px=qx/\py=qy) from fun h=>e1 h.1));clear e1
      first
       |(
        go_region_with (first
         |
          (go_at_call_of 23 (Value.string p.x)
           apply cM;apply RBag.of (w0:=wx) (n:=1048576);(focus(first|exact HR.o|exact HR.o.drew));exact Z1.o.1;decide;rintro e wn ⟨qq,hq,bq,rfl,hbag⟩;obtain rfl:=Q1.o.inj hq;clear HR;have HR:=Hi hbag;clear hq hbag;have h8:=HSB.o.below HR.o.base HSB.o.lt;obtain⟨r0,r1,-⟩:=zc (HS6.o.below HR.o.base HS6.o.lt);obtain⟨r2,r3,-⟩:=zc (HS7.o.below HR.o.base HS7.o.lt);obtain⟨-,-,r4,-,r5,r6,-⟩:=zc h8;clear h8
           skip)
         |
          (go_at_call_of 23 (Value.string p.y)
           apply cM;apply RBag.of (w0:=wx) (n:=1048576);(focus(first|exact HR.o|exact HR.o.drew));exact Z1.o.2;decide;rintro e wn ⟨qq,hq,bq,rfl,hbag⟩;obtain rfl:=Q2.o.inj hq;clear HR;have HR:=Hi hbag;clear hq hbag;have h8:=HSB.o.below HR.o.base HSB.o.lt;obtain⟨r0,r1,-⟩:=zc (HS6.o.below HR.o.base HS6.o.lt);obtain⟨r2,r3,-⟩:=zc (HS7.o.below HR.o.base HS7.o.lt);obtain⟨-,-,r4,-,r5,r6,-⟩:=zc h8;clear h8
           skip)
         |
          (go_at_call_of 23 (Value.string q.x)
           apply cM;apply RBag.of (w0:=wx) (n:=1048576);(focus(first|exact HR.o|exact HR.o.drew));exact Z2.o.1;decide;rintro e wn ⟨qq,hq,bq,rfl,hbag⟩;obtain rfl:=Q3.o.inj hq;clear HR;have HR:=Hi hbag;clear hq hbag;have h8:=HSB.o.below HR.o.base HSB.o.lt;obtain⟨r0,r1,-⟩:=zc (HS6.o.below HR.o.base HS6.o.lt);obtain⟨r2,r3,-⟩:=zc (HS7.o.below HR.o.base HS7.o.lt);obtain⟨-,-,r4,-,r5,r6,-⟩:=zc h8;clear h8
           skip)
         |
          (go_at_call_of 23 (Value.string q.y)
           apply cM;apply RBag.of (w0:=wx) (n:=1048576);(focus(first|exact HR.o|exact HR.o.drew));exact Z2.o.2;decide;rintro e wn ⟨qq,hq,bq,rfl,hbag⟩;obtain rfl:=Q4.o.inj hq;clear HR;have HR:=Hi hbag;clear hq hbag;have h8:=HSB.o.below HR.o.base HSB.o.lt;obtain⟨r0,r1,-⟩:=zc (HS6.o.below HR.o.base HS6.o.lt);obtain⟨r2,r3,-⟩:=zc (HS7.o.below HR.o.base HS7.o.lt);obtain⟨-,-,r4,-,r5,r6,-⟩:=zc h8;clear h8
           skip)
         |
          (go_at_call 61
           apply cM;apply RBag.cmpF (w0:=wx);(focus(first|exact HR.o|exact HR.o.drew));(focus(repeat(first|exact mH|apply mT)));(focus(repeat(first|exact mH|apply mT)));decide;exact HXE.o;rintro e wn ⟨⟨cc,rfl,hcc⟩,hbag⟩;clear HR;have HR:=Hi hbag;clear hbag;have h8:=HSB.o.below HR.o.base HSB.o.lt;obtain⟨r0,r1,-⟩:=zc (HS6.o.below HR.o.base HS6.o.lt);obtain⟨r2,r3,-⟩:=zc (HS7.o.below HR.o.base HS7.o.lt);obtain⟨-,-,r4,-,r5,r6,-⟩:=zc h8
           clear h8
           skip)
         ))
       |fail
      all_goals
       go_wp2_with fail;go_meet
       case rel=>exact⟨by simp[HDE.o, *],HR.o.base⟩
       skip
    case rest=>
     obtain⟨rfl,hbc⟩:=hcut;obtain⟨HBN,HSN⟩:=Ia (HBX.o.trans (hbc.mono HBX.o.size)) (HSB.o.below hbc HSB.o.lt);clear hbc r0 r1 r2 r3 r4 r5 r6;by_cases e1:px=qx/\py=qy
     .
      have HBK:O (BarCode js f 5):=Hi (HBC.o 5 (by rw[if_pos e1]));rw[decide_eq_true e1];clear e1;go_wp2_with fail;go_fit (ref_F 5 (k:Int) wc);rintro e w9 ⟨rfl,hb9⟩;have HB9:=Hi (HBN.o.trans (hb9.mono HBN.o.size));have HS9:=Hi (HS1.o.below HB9.o HS1.o.lt);obtain⟨z0,z1,-⟩:=zc HS9.o;have f0:=HS9.o.free 0;have f1:=HS9.o.free 1;clear hb9;go_wp2;refine bodyPost_ret (v:=.agg #[.int .i64 5,.int .i64 (k:Int)]) (results_cell_row rfl _ _ (w.heap.size+1) 57 #[.int .i64 5,.int .i64 (k:Int)] (0,0) _ rfl ((HS9.o.set 0 _).set 1 _) underlying57 rfl Tryz.faultInfo) rfl ?_;exact⟨_,_,rfl,Or.inr (Or.inl ⟨HNM.o,k,f,HFK.o,HALL.o,HBK.o,by decide,rfl⟩),((HB0.o.trans (HB9.o.mono HB0.o.size)).setCell (Nat.le_succ _) _).setCell (Nat.le_succ _) _⟩
     .
      rw[decide_eq_false e1];obtain⟨sc,hsc⟩:=nm (sgn3 vc.num);obtain⟨sl,hsl⟩:=nm (sgn3 vl.num);obtain⟨sm,hsm⟩:=nm (sgn3 vm.num);have HBD:O (∀c,c=(if sc<=0∨0<sl∨sm<0 then 5 else 0)->BarCode js f c):=Hi (fun c hc=>HBC.o c (by rw[if_neg e1,hsc,hsl,hsm];exact hc));obtain⟨SC,SL,SM⟩:=Ib hsc hsl hsm;clear hsc hsl hsm e1;have HR2:=Hi (RBag.start ((HG.o.below HB0.o).below HBN.o).most);have h8:=HSN.o.below HR2.o.base HSN.o.lt;obtain⟨-,-,r4,-,r5,r6,-⟩:=zc h8;clear h8;by_cases s1:sc<=0
      .
       have HBK:O (BarCode js f 5):=Hi (HBD.o 5 (by rw[if_pos (.inl s1)]));go_wp2_with (first
        |
         (go_at_call_of 23 (Value.string f.c)
          apply cM;apply RBag.of (w0:=wc) (n:=1048576);(focus(first|exact HR2.o|exact HR2.o.drew));exact Z3.o.1;decide;rintro e wn ⟨qq,hq,bq,rfl,hbag⟩;obtain rfl:=Q5.o.inj hq;clear HR2;have HR2:=Hi hbag;clear hq hbag;have h8:=HSN.o.below HR2.o.base HSN.o.lt;obtain⟨-,-,r4,-,r5,r6,-⟩:=zc h8;clear h8
          skip)
        |
         (go_at_call_of 23 (Value.string f.l)
          apply cM;apply RBag.of (w0:=wc) (n:=1048576);(focus(first|exact HR2.o|exact HR2.o.drew));exact Z3.o.2.2.1;decide;rintro e wn ⟨qq,hq,bq,rfl,hbag⟩;obtain rfl:=Q6.o.inj hq;clear HR2;have HR2:=Hi hbag;clear hq hbag;have h8:=HSN.o.below HR2.o.base HSN.o.lt;obtain⟨-,-,r4,-,r5,r6,-⟩:=zc h8;clear h8
          skip)
        |
         (go_at_call_of 23 (Value.string f.m)
          apply cM;apply RBag.of (w0:=wc) (n:=1048576);(focus(first|exact HR2.o|exact HR2.o.drew));exact Z3.o.2.2.2;decide;rintro e wn ⟨qq,hq,bq,rfl,hbag⟩;obtain rfl:=Q7.o.inj hq;clear HR2;have HR2:=Hi hbag;clear hq hbag;have h8:=HSN.o.below HR2.o.base HSN.o.lt;obtain⟨-,-,r4,-,r5,r6,-⟩:=zc h8;clear h8
          skip)
        |
         (go_at_call 24
          apply cM;apply RBag.sign (w0:=wc);(focus(first|exact HR2.o|exact HR2.o.drew));(focus(repeat(first|exact mH|apply mT)));rintro e wn ⟨rfl,rfl⟩
          (first|rw[SC.o]|rw[SL.o]|rw[SM.o]))
        |fail)
       have HN:=Hi (HBN.o.trans (HR2.o.base.mono HBN.o.size));go_fit (ref_F 5 (k:Int) _);rintro e w9 ⟨rfl,hb9⟩;have HB9:=Hi (HN.o.trans (hb9.mono HN.o.size));have HS9:=Hi (HS1.o.below HB9.o HS1.o.lt);obtain⟨z0,z1,-⟩:=zc HS9.o;have f0:=HS9.o.free 0;have f1:=HS9.o.free 1;clear hb9;go_wp2;refine bodyPost_ret (v:=.agg #[.int .i64 5,.int .i64 (k:Int)]) (results_cell_row rfl _ _ (w.heap.size+1) 57 #[.int .i64 5,.int .i64 (k:Int)] (0,0) _ rfl ((HS9.o.set 0 _).set 1 _) underlying57 rfl Tryz.faultInfo) rfl ?_;exact⟨_,_,rfl,Or.inr (Or.inl ⟨HNM.o,k,f,HFK.o,HALL.o,HBK.o,by decide,rfl⟩),((HB0.o.trans (HB9.o.mono HB0.o.size)).setCell (Nat.le_succ _) _).setCell (Nat.le_succ _) _⟩
      .
       by_cases s2:0<sl
       .
        have HBK:O (BarCode js f 5):=Hi (HBD.o 5 (by rw[if_pos (.inr (.inl s2))]));go_wp2_with (first
         |
          (go_at_call_of 23 (Value.string f.c)
           apply cM;apply RBag.of (w0:=wc) (n:=1048576);(focus(first|exact HR2.o|exact HR2.o.drew));exact Z3.o.1;decide;rintro e wn ⟨qq,hq,bq,rfl,hbag⟩;obtain rfl:=Q5.o.inj hq;clear HR2;have HR2:=Hi hbag;clear hq hbag;have h8:=HSN.o.below HR2.o.base HSN.o.lt;obtain⟨-,-,r4,-,r5,r6,-⟩:=zc h8;clear h8
           skip)
         |
          (go_at_call_of 23 (Value.string f.l)
           apply cM;apply RBag.of (w0:=wc) (n:=1048576);(focus(first|exact HR2.o|exact HR2.o.drew));exact Z3.o.2.2.1;decide;rintro e wn ⟨qq,hq,bq,rfl,hbag⟩;obtain rfl:=Q6.o.inj hq;clear HR2;have HR2:=Hi hbag;clear hq hbag;have h8:=HSN.o.below HR2.o.base HSN.o.lt;obtain⟨-,-,r4,-,r5,r6,-⟩:=zc h8;clear h8
           skip)
         |
          (go_at_call_of 23 (Value.string f.m)
           apply cM;apply RBag.of (w0:=wc) (n:=1048576);(focus(first|exact HR2.o|exact HR2.o.drew));exact Z3.o.2.2.2;decide;rintro e wn ⟨qq,hq,bq,rfl,hbag⟩;obtain rfl:=Q7.o.inj hq;clear HR2;have HR2:=Hi hbag;clear hq hbag;have h8:=HSN.o.below HR2.o.base HSN.o.lt;obtain⟨-,-,r4,-,r5,r6,-⟩:=zc h8;clear h8
           skip)
         |
          (go_at_call 24
           apply cM;apply RBag.sign (w0:=wc);(focus(first|exact HR2.o|exact HR2.o.drew));(focus(repeat(first|exact mH|apply mT)));rintro e wn ⟨rfl,rfl⟩
           (first|rw[SC.o]|rw[SL.o]|rw[SM.o]))
         |fail)
        have HN:=Hi (HBN.o.trans (HR2.o.base.mono HBN.o.size));go_fit (ref_F 5 (k:Int) _);rintro e w9 ⟨rfl,hb9⟩;have HB9:=Hi (HN.o.trans (hb9.mono HN.o.size));have HS9:=Hi (HS1.o.below HB9.o HS1.o.lt);obtain⟨z0,z1,-⟩:=zc HS9.o;have f0:=HS9.o.free 0;have f1:=HS9.o.free 1;clear hb9;go_wp2;refine bodyPost_ret (v:=.agg #[.int .i64 5,.int .i64 (k:Int)]) (results_cell_row rfl _ _ (w.heap.size+1) 57 #[.int .i64 5,.int .i64 (k:Int)] (0,0) _ rfl ((HS9.o.set 0 _).set 1 _) underlying57 rfl Tryz.faultInfo) rfl ?_;exact⟨_,_,rfl,Or.inr (Or.inl ⟨HNM.o,k,f,HFK.o,HALL.o,HBK.o,by decide,rfl⟩),((HB0.o.trans (HB9.o.mono HB0.o.size)).setCell (Nat.le_succ _) _).setCell (Nat.le_succ _) _⟩
       .
        by_cases s3:sm<0
        .
         have HBK:O (BarCode js f 5):=Hi (HBD.o 5 (by rw[if_pos (.inr (.inr s3))]));go_wp2_with (first
          |
           (go_at_call_of 23 (Value.string f.c)
            apply cM;apply RBag.of (w0:=wc) (n:=1048576);(focus(first|exact HR2.o|exact HR2.o.drew));exact Z3.o.1;decide;rintro e wn ⟨qq,hq,bq,rfl,hbag⟩;obtain rfl:=Q5.o.inj hq;clear HR2;have HR2:=Hi hbag;clear hq hbag;have h8:=HSN.o.below HR2.o.base HSN.o.lt;obtain⟨-,-,r4,-,r5,r6,-⟩:=zc h8;clear h8
            skip)
          |
           (go_at_call_of 23 (Value.string f.l)
            apply cM;apply RBag.of (w0:=wc) (n:=1048576);(focus(first|exact HR2.o|exact HR2.o.drew));exact Z3.o.2.2.1;decide;rintro e wn ⟨qq,hq,bq,rfl,hbag⟩;obtain rfl:=Q6.o.inj hq;clear HR2;have HR2:=Hi hbag;clear hq hbag;have h8:=HSN.o.below HR2.o.base HSN.o.lt;obtain⟨-,-,r4,-,r5,r6,-⟩:=zc h8;clear h8
            skip)
          |
           (go_at_call_of 23 (Value.string f.m)
            apply cM;apply RBag.of (w0:=wc) (n:=1048576);(focus(first|exact HR2.o|exact HR2.o.drew));exact Z3.o.2.2.2;decide;rintro e wn ⟨qq,hq,bq,rfl,hbag⟩;obtain rfl:=Q7.o.inj hq;clear HR2;have HR2:=Hi hbag;clear hq hbag;have h8:=HSN.o.below HR2.o.base HSN.o.lt;obtain⟨-,-,r4,-,r5,r6,-⟩:=zc h8;clear h8
            skip)
          |
           (go_at_call 24
            apply cM;apply RBag.sign (w0:=wc);(focus(first|exact HR2.o|exact HR2.o.drew));(focus(repeat(first|exact mH|apply mT)));rintro e wn ⟨rfl,rfl⟩
            (first|rw[SC.o]|rw[SL.o]|rw[SM.o]))
          |fail)
         have HN:=Hi (HBN.o.trans (HR2.o.base.mono HBN.o.size));go_fit (ref_F 5 (k:Int) _);rintro e w9 ⟨rfl,hb9⟩;have HB9:=Hi (HN.o.trans (hb9.mono HN.o.size));have HS9:=Hi (HS1.o.below HB9.o HS1.o.lt);obtain⟨z0,z1,-⟩:=zc HS9.o;have f0:=HS9.o.free 0;have f1:=HS9.o.free 1;clear hb9;go_wp2;refine bodyPost_ret (v:=.agg #[.int .i64 5,.int .i64 (k:Int)]) (results_cell_row rfl _ _ (w.heap.size+1) 57 #[.int .i64 5,.int .i64 (k:Int)] (0,0) _ rfl ((HS9.o.set 0 _).set 1 _) underlying57 rfl Tryz.faultInfo) rfl ?_;exact⟨_,_,rfl,Or.inr (Or.inl ⟨HNM.o,k,f,HFK.o,HALL.o,HBK.o,by decide,rfl⟩),((HB0.o.trans (HB9.o.mono HB0.o.size)).setCell (Nat.le_succ _) _).setCell (Nat.le_succ _) _⟩
        .
         have HBK:O (BarCode js f 0):=Hi (HBD.o 0 (by rw[if_neg (fun h=>h.elim s1 (fun h=>h.elim s2 s3))]));go_wp2_with (first
          |
           (go_at_call_of 23 (Value.string f.c)
            apply cM;apply RBag.of (w0:=wc) (n:=1048576);(focus(first|exact HR2.o|exact HR2.o.drew));exact Z3.o.1;decide;rintro e wn ⟨qq,hq,bq,rfl,hbag⟩;obtain rfl:=Q5.o.inj hq;clear HR2;have HR2:=Hi hbag;clear hq hbag;have h8:=HSN.o.below HR2.o.base HSN.o.lt;obtain⟨-,-,r4,-,r5,r6,-⟩:=zc h8;clear h8
            skip)
          |
           (go_at_call_of 23 (Value.string f.l)
            apply cM;apply RBag.of (w0:=wc) (n:=1048576);(focus(first|exact HR2.o|exact HR2.o.drew));exact Z3.o.2.2.1;decide;rintro e wn ⟨qq,hq,bq,rfl,hbag⟩;obtain rfl:=Q6.o.inj hq;clear HR2;have HR2:=Hi hbag;clear hq hbag;have h8:=HSN.o.below HR2.o.base HSN.o.lt;obtain⟨-,-,r4,-,r5,r6,-⟩:=zc h8;clear h8
            skip)
          |
           (go_at_call_of 23 (Value.string f.m)
            apply cM;apply RBag.of (w0:=wc) (n:=1048576);(focus(first|exact HR2.o|exact HR2.o.drew));exact Z3.o.2.2.2;decide;rintro e wn ⟨qq,hq,bq,rfl,hbag⟩;obtain rfl:=Q7.o.inj hq;clear HR2;have HR2:=Hi hbag;clear hq hbag;have h8:=HSN.o.below HR2.o.base HSN.o.lt;obtain⟨-,-,r4,-,r5,r6,-⟩:=zc h8;clear h8
            skip)
          |
           (go_at_call 24
            apply cM;apply RBag.sign (w0:=wc);(focus(first|exact HR2.o|exact HR2.o.drew));(focus(repeat(first|exact mH|apply mT)));rintro e wn ⟨rfl,rfl⟩
            (first|rw[SC.o]|rw[SL.o]|rw[SM.o]))
          |fail)
         go_roundw
         case rel=>
          refine⟨k+1,by omega,by go_num,?_,HBN.o.trans (HR2.o.base.mono HBN.o.size)⟩;intro i x hi hx;rcases Nat.lt_or_ge i k with h|h
          . exact HALL.o i x h hx
          .
           obtain rfl:i=k:=by omega
           obtain rfl:=Option.some.inj (HFK.o.symm.trans hx);exact HBK.o
         case measure=>simp[intOf];omega
  .
   have hk':k=bs.length:=by omega
   subst hk';have hx:=HS0.o.below HB.o HS0.o.lt;obtain⟨-,-,x2,-⟩:=zc hx;clear hx;go_wp2_with fail;clear x2;obtain⟨wq,rfl⟩:∃wq,wq=wr:=⟨wr,rfl⟩;go_loopw [122] (fun iv wr=>∃m:Nat,m<=hs.length/\iv=.int .i64 m/\(∀(i:Nat) (x:H3),i<m->hs[i]?=some x->holdAt js.length hs i x=0)/\Below W.heap.size W wr) (fun iv _=>hs.length - (intOf iv).toNat)
   case atStart=>exact⟨0,by omega,rfl,fun i x hi=>by omega,HB.o⟩
   case round=>
    obtain⟨m,hm,rfl,hha,hb⟩:=hrel;obtain⟨HHA,HC,HCW⟩:=Ib hha hb (HB0.o.trans (hb.mono HB0.o.size));clear hha hb;by_cases hlm:m<hs.length
    .
     obtain⟨h,hhk⟩:∃h,hs[m]?=some h:=⟨hs[m],gE hlm⟩;obtain⟨fb,off,hfa,hfb,d0,d1,d2⟩:=(HF.o.h.below HCW.o).hold hhk;obtain⟨HFA,HHK⟩:=Ia hfa hhk;have q5:((m:Int)<(hs.length:Int)):=by omega
     subst hfa;obtain⟨V,hV⟩:=nm (wr.alloc (.cells #[.int .i64 h.j,.int .i64 h.w,.string h.q] 71));have HBV:O (Below W.heap.size W V):=Hi (by rw[<-hV];exact HC.o.alloc HC.o.size _);have HSV:=Uc hV;have hx:=HS0.o.below HBV.o HS0.o.lt;obtain⟨-,x1,x2,-⟩:=zc hx;rw[<-hV] at x1 x2;have HV:=Hi hV;clear hhk hV hx;by_cases g1:h.j<0
     .
      have HWY:O (holdAt js.length hs m h=4):=Hi (by unfold holdAt holdC;rw[if_neg (by omega)]);go_wp2_with fail;rw[HV.o];clear x1 x2 d0 d1 d2;go_fit (ref_F 4 ((bs.length:Int)+(m:Int)) V);rintro e w9 ⟨rfl,hb9⟩;have HB9:=Hi (HBV.o.trans (hb9.mono HBV.o.size));have HS9:=Hi (HS1.o.below HB9.o HS1.o.lt);obtain⟨z0,z1,-⟩:=zc HS9.o;have f0:=HS9.o.free 0;have f1:=HS9.o.free 1;clear hb9;go_wp2;refine bodyPost_ret (v:=.agg #[.int .i64 4,.int .i64 ((bs.length:Int)+(m:Int))]) (results_cell_row rfl _ _ (w.heap.size+1) 57 #[.int .i64 4,.int .i64 ((bs.length:Int)+(m:Int))] (0,0) _ rfl ((HS9.o.set 0 _).set 1 _) underlying57 rfl Tryz.faultInfo) rfl ?_
      exact⟨_,_,rfl,Or.inr (Or.inr ⟨HNM.o,fun i x hx=>HALL.o i x (gZ hx).1 hx,Or.inl ⟨m,h,HHK.o,HHA.o,HWY.o,by decide,rfl⟩⟩),((HB0.o.trans (HB9.o.mono HB0.o.size)).setCell (Nat.le_succ _) _).setCell (Nat.le_succ _) _⟩
     by_cases g2:(js.length:Int)<=h.j
     .
      have HWY:O (holdAt js.length hs m h=4):=Hi (by unfold holdAt holdC;rw[if_neg (by omega)]);go_wp2_with fail;rw[HV.o];clear x1 x2 d0 d1 d2;go_fit (ref_F 4 ((bs.length:Int)+(m:Int)) V);rintro e w9 ⟨rfl,hb9⟩;have HB9:=Hi (HBV.o.trans (hb9.mono HBV.o.size));have HS9:=Hi (HS1.o.below HB9.o HS1.o.lt);obtain⟨z0,z1,-⟩:=zc HS9.o;have f0:=HS9.o.free 0;have f1:=HS9.o.free 1;clear hb9;go_wp2;refine bodyPost_ret (v:=.agg #[.int .i64 4,.int .i64 ((bs.length:Int)+(m:Int))]) (results_cell_row rfl _ _ (w.heap.size+1) 57 #[.int .i64 4,.int .i64 ((bs.length:Int)+(m:Int))] (0,0) _ rfl ((HS9.o.set 0 _).set 1 _) underlying57 rfl Tryz.faultInfo) rfl ?_
      exact⟨_,_,rfl,Or.inr (Or.inr ⟨HNM.o,fun i x hx=>HALL.o i x (gZ hx).1 hx,Or.inl ⟨m,h,HHK.o,HHA.o,HWY.o,by decide,rfl⟩⟩),((HB0.o.trans (HB9.o.mono HB0.o.size)).setCell (Nat.le_succ _) _).setCell (Nat.le_succ _) _⟩
     have q6:((m:Int)<=(c3:Int)):=by have:=HF.o.h.fit;omega
     by_cases g3:h.w=1∨h.w=2
     .
      have HWK:O (∀tw,holdAt js.length hs m h=holdC js.length h.j h.w tw->tw=decide ((h.j,h.w)∈ places (hs.take m))->holdAt js.length hs m h=if tw=true then 7 else 0):=Hi (fun tw e et=>by rw[e];unfold holdC;rw[if_pos (by omega),if_neg (by omega)]);by_cases g4:h.w=1
      .
       have e1:(h.w != 1)=false:=by rw[bne_eq_false_iff_eq];exact g4
       clear g3 g4;go_wp2_with fail;rw[HV.o];clear x1 x2 d0 d1 d2;obtain⟨wv,rfl⟩:∃wv,wv=wr:=⟨wr,rfl⟩;go_loopw [158] (fun iv wr=>∃i:Nat,i<=m/\iv=.int .i64 i/\(∀(t:Nat) (x:H3),t<i->hs[t]?=some x->¬(x.j=h.j/\x.w=h.w))/\Below V.heap.size V wr) (fun iv _=>m - (intOf iv).toNat)
       case atStart=>exact⟨0,by omega,rfl,fun t x ht=>by omega,Below.refl _ _⟩
       case round=>
        obtain⟨i,hi,rfl,hno,hb⟩:=hrel;obtain⟨HNO,HD,HDW⟩:=Ib hno hb (HBV.o.trans (hb.mono HBV.o.size));clear hno hb;by_cases hli:i<m
        .
         obtain⟨o,hok⟩:∃o,hs[i]?=some o:=⟨hs[i],gE (by omega)⟩;obtain⟨fb2,off2,hfa2,hfb2,d0,d1,d2⟩:=((HF.o.h.below HB0.o).below HDW.o).hold hok;cases hfa2;have HOK:=Hi hok;obtain⟨U,hU⟩:=nm (wr.alloc (.cells #[.int .i64 o.j,.int .i64 o.w,.string o.q] 71));have hbU:Below V.heap.size V U:=by rw[<-hU];exact HD.o.alloc HD.o.size _
         obtain⟨HBU,HBU2⟩:=Ia (HBV.o.trans (hbU.mono HBV.o.size)) hbU;obtain⟨v0,v1,-⟩:=zc (HSV.o.below hbU HSV.o.lt);rw[<-hU] at v0 v1;have HU:=Hi hU;have q7:((i:Int)<(m:Int)):=by omega
         clear hok hU hbU;by_cases e3:o.j=h.j
         .
          have b1:(o.j == h.j)=true:=by rw[beq_iff_eq];exact e3
          by_cases e4:o.w=h.w
          .
           have b2:(o.w == h.w)=true:=by rw[beq_iff_eq];exact e4
           have HWY:O (holdAt js.length hs m h=7):=Hi (by
            have hmem:(h.j,h.w)∈ places (hs.take m):=by
             rw[<-e3,<-e4];exact Qjz HOK.o hli
            rw[HWK.o true (by unfold holdAt;rw[decide_eq_true hmem]) (decide_eq_true hmem).symm,if_pos rfl])
           clear e3 e4;go_wp2_with fail;rw[HU.o];clear v0 v1 d0 d1 d2;go_fit (ref_F 7 ((bs.length:Int)+(m:Int)) U);rintro e w9 ⟨rfl,hb9⟩;have HB9:=Hi (HBU.o.trans (hb9.mono HBU.o.size));have HS9:=Hi (HS1.o.below HB9.o HS1.o.lt);obtain⟨z0,z1,-⟩:=zc HS9.o;have f0:=HS9.o.free 0;have f1:=HS9.o.free 1;clear hb9;go_wp2;refine bodyPost_ret (v:=.agg #[.int .i64 7,.int .i64 ((bs.length:Int)+(m:Int))]) (results_cell_row rfl _ _ (w.heap.size+1) 57 #[.int .i64 7,.int .i64 ((bs.length:Int)+(m:Int))] (0,0) _ rfl ((HS9.o.set 0 _).set 1 _) underlying57 rfl Tryz.faultInfo) rfl ?_
           exact⟨_,_,rfl,Or.inr (Or.inr ⟨HNM.o,fun i x hx=>HALL.o i x (gZ hx).1 hx,Or.inl ⟨m,h,HHK.o,HHA.o,HWY.o,by decide,rfl⟩⟩),((HB0.o.trans (HB9.o.mono HB0.o.size)).setCell (Nat.le_succ _) _).setCell (Nat.le_succ _) _⟩
          .
           have b2:(o.w == h.w)=false:=by rw[beq_eq_false_iff_ne];exact e4
           have HNE:O (¬(o.j=h.j/\o.w=h.w)):=Hi (fun h=>e4 h.2);clear e3 e4;go_wp2;go_roundw
           case rel=>
            refine⟨i+1,by omega,by go_num,?_,by rw[HU.o];exact HBU2.o⟩;intro t x ht hx;rcases Nat.lt_or_ge t i with h'|h'
            . exact HNO.o t x h' hx
            .
             obtain rfl:t=i:=by omega
             obtain rfl:=Option.some.inj (HOK.o.symm.trans hx);exact HNE.o
           case measure=>simp[intOf];omega
           skip
         .
          have b1:(o.j == h.j)=false:=by rw[beq_eq_false_iff_ne];exact e3
          have HNE:O (¬(o.j=h.j/\o.w=h.w)):=Hi (fun h=>e3 h.1);clear e3;go_wp2;go_roundw
          case rel=>
           refine⟨i+1,by omega,by go_num,?_,by rw[HU.o];exact HBU2.o⟩;intro t x ht hx;rcases Nat.lt_or_ge t i with h'|h'
           . exact HNO.o t x h' hx
           .
            obtain rfl:t=i:=by omega
            obtain rfl:=Option.some.inj (HOK.o.symm.trans hx);exact HNE.o
          case measure=>simp[intOf];omega
          skip
        .
         have him:i=m:=by omega
         subst him;have HWY:O (holdAt js.length hs i h=0):=Hi (by
          have hmem:(h.j,h.w) ∉ places (hs.take i):=Qj0 HNO.o
          rw[HWK.o false (by unfold holdAt;rw[decide_eq_false hmem]) (decide_eq_false hmem).symm,if_neg (by simp)])
         go_wp2;go_roundw
         case rel=>
          refine⟨i+1,by omega,by go_num,?_,HDW.o⟩;intro t x ht hx;rcases Nat.lt_or_ge t i with h'|h'
          . exact HHA.o t x h' hx
          .
           obtain rfl:t=i:=by omega
           obtain rfl:=Option.some.inj (HHK.o.symm.trans hx);exact HWY.o
         case measure=>simp[intOf];omega
       skip
      .
       have e1:(h.w != 1)=true:=by rw[bne_iff_ne];exact g4
       have e2:(h.w != 2)=false:=by rw[bne_eq_false_iff_eq];omega
       clear g3 g4;go_wp2_with fail;rw[HV.o];clear x1 x2 d0 d1 d2;obtain⟨wv,rfl⟩:∃wv,wv=wr:=⟨wr,rfl⟩;go_loopw [158] (fun iv wr=>∃i:Nat,i<=m/\iv=.int .i64 i/\(∀(t:Nat) (x:H3),t<i->hs[t]?=some x->¬(x.j=h.j/\x.w=h.w))/\Below V.heap.size V wr) (fun iv _=>m - (intOf iv).toNat)
       case atStart=>exact⟨0,by omega,rfl,fun t x ht=>by omega,Below.refl _ _⟩
       case round=>
        obtain⟨i,hi,rfl,hno,hb⟩:=hrel;obtain⟨HNO,HD,HDW⟩:=Ib hno hb (HBV.o.trans (hb.mono HBV.o.size));clear hno hb;by_cases hli:i<m
        .
         obtain⟨o,hok⟩:∃o,hs[i]?=some o:=⟨hs[i],gE (by omega)⟩;obtain⟨fb2,off2,hfa2,hfb2,d0,d1,d2⟩:=((HF.o.h.below HB0.o).below HDW.o).hold hok;cases hfa2;have HOK:=Hi hok;obtain⟨U,hU⟩:=nm (wr.alloc (.cells #[.int .i64 o.j,.int .i64 o.w,.string o.q] 71));have hbU:Below V.heap.size V U:=by rw[<-hU];exact HD.o.alloc HD.o.size _
         obtain⟨HBU,HBU2⟩:=Ia (HBV.o.trans (hbU.mono HBV.o.size)) hbU;obtain⟨v0,v1,-⟩:=zc (HSV.o.below hbU HSV.o.lt);rw[<-hU] at v0 v1;have HU:=Hi hU;have q7:((i:Int)<(m:Int)):=by omega
         clear hok hU hbU;by_cases e3:o.j=h.j
         .
          have b1:(o.j == h.j)=true:=by rw[beq_iff_eq];exact e3
          by_cases e4:o.w=h.w
          .
           have b2:(o.w == h.w)=true:=by rw[beq_iff_eq];exact e4
           have HWY:O (holdAt js.length hs m h=7):=Hi (by
            have hmem:(h.j,h.w)∈ places (hs.take m):=by
             rw[<-e3,<-e4];exact Qjz HOK.o hli
            rw[HWK.o true (by unfold holdAt;rw[decide_eq_true hmem]) (decide_eq_true hmem).symm,if_pos rfl])
           clear e3 e4;go_wp2_with fail;rw[HU.o];clear v0 v1 d0 d1 d2;go_fit (ref_F 7 ((bs.length:Int)+(m:Int)) U);rintro e w9 ⟨rfl,hb9⟩;have HB9:=Hi (HBU.o.trans (hb9.mono HBU.o.size));have HS9:=Hi (HS1.o.below HB9.o HS1.o.lt);obtain⟨z0,z1,-⟩:=zc HS9.o;have f0:=HS9.o.free 0;have f1:=HS9.o.free 1;clear hb9;go_wp2;refine bodyPost_ret (v:=.agg #[.int .i64 7,.int .i64 ((bs.length:Int)+(m:Int))]) (results_cell_row rfl _ _ (w.heap.size+1) 57 #[.int .i64 7,.int .i64 ((bs.length:Int)+(m:Int))] (0,0) _ rfl ((HS9.o.set 0 _).set 1 _) underlying57 rfl Tryz.faultInfo) rfl ?_
           exact⟨_,_,rfl,Or.inr (Or.inr ⟨HNM.o,fun i x hx=>HALL.o i x (gZ hx).1 hx,Or.inl ⟨m,h,HHK.o,HHA.o,HWY.o,by decide,rfl⟩⟩),((HB0.o.trans (HB9.o.mono HB0.o.size)).setCell (Nat.le_succ _) _).setCell (Nat.le_succ _) _⟩
          .
           have b2:(o.w == h.w)=false:=by rw[beq_eq_false_iff_ne];exact e4
           have HNE:O (¬(o.j=h.j/\o.w=h.w)):=Hi (fun h=>e4 h.2);clear e3 e4;go_wp2;go_roundw
           case rel=>
            refine⟨i+1,by omega,by go_num,?_,by rw[HU.o];exact HBU2.o⟩;intro t x ht hx;rcases Nat.lt_or_ge t i with h'|h'
            . exact HNO.o t x h' hx
            .
             obtain rfl:t=i:=by omega
             obtain rfl:=Option.some.inj (HOK.o.symm.trans hx);exact HNE.o
           case measure=>simp[intOf];omega
           skip
         .
          have b1:(o.j == h.j)=false:=by rw[beq_eq_false_iff_ne];exact e3
          have HNE:O (¬(o.j=h.j/\o.w=h.w)):=Hi (fun h=>e3 h.1);clear e3;go_wp2;go_roundw
          case rel=>
           refine⟨i+1,by omega,by go_num,?_,by rw[HU.o];exact HBU2.o⟩;intro t x ht hx;rcases Nat.lt_or_ge t i with h'|h'
           . exact HNO.o t x h' hx
           .
            obtain rfl:t=i:=by omega
            obtain rfl:=Option.some.inj (HOK.o.symm.trans hx);exact HNE.o
          case measure=>simp[intOf];omega
          skip
        .
         have him:i=m:=by omega
         subst him;have HWY:O (holdAt js.length hs i h=0):=Hi (by
          have hmem:(h.j,h.w) ∉ places (hs.take i):=Qj0 HNO.o
          rw[HWK.o false (by unfold holdAt;rw[decide_eq_false hmem]) (decide_eq_false hmem).symm,if_neg (by simp)])
         go_wp2;go_roundw
         case rel=>
          refine⟨i+1,by omega,by go_num,?_,HDW.o⟩;intro t x ht hx;rcases Nat.lt_or_ge t i with h'|h'
          . exact HHA.o t x h' hx
          .
           obtain rfl:t=i:=by omega
           obtain rfl:=Option.some.inj (HHK.o.symm.trans hx);exact HWY.o
         case measure=>simp[intOf];omega
       skip
     .
      have HWY:O (holdAt js.length hs m h=3):=Hi (by unfold holdAt holdC;rw[if_pos (by omega),if_pos (by omega)]);have e1:(h.w != 1)=true:=by rw[bne_iff_ne];omega
      have e2:(h.w != 2)=true:=by rw[bne_iff_ne];omega
      clear g3;go_wp2_with fail;rw[HV.o];clear x1 x2 d0 d1 d2;go_fit (ref_F 3 ((bs.length:Int)+(m:Int)) V);rintro e w9 ⟨rfl,hb9⟩;have HB9:=Hi (HBV.o.trans (hb9.mono HBV.o.size));have HS9:=Hi (HS1.o.below HB9.o HS1.o.lt);obtain⟨z0,z1,-⟩:=zc HS9.o;have f0:=HS9.o.free 0;have f1:=HS9.o.free 1;clear hb9;go_wp2;refine bodyPost_ret (v:=.agg #[.int .i64 3,.int .i64 ((bs.length:Int)+(m:Int))]) (results_cell_row rfl _ _ (w.heap.size+1) 57 #[.int .i64 3,.int .i64 ((bs.length:Int)+(m:Int))] (0,0) _ rfl ((HS9.o.set 0 _).set 1 _) underlying57 rfl Tryz.faultInfo) rfl ?_
      exact⟨_,_,rfl,Or.inr (Or.inr ⟨HNM.o,fun i x hx=>HALL.o i x (gZ hx).1 hx,Or.inl ⟨m,h,HHK.o,HHA.o,HWY.o,by decide,rfl⟩⟩),((HB0.o.trans (HB9.o.mono HB0.o.size)).setCell (Nat.le_succ _) _).setCell (Nat.le_succ _) _⟩
    .
     have hm':m=hs.length:=by omega
     subst hm';have HS9:=Hi (HS1.o.below HC.o HS1.o.lt);obtain⟨z0,z1,-⟩:=zc HS9.o;have f0:=HS9.o.free 0;have f1:=HS9.o.free 1;go_wp2;refine bodyPost_ret (v:=.agg #[.int .i64 0,.int .i64 0]) (results_cell_row rfl _ _ (w.heap.size+1) 57 #[.int .i64 0,.int .i64 0] (0,0) _ rfl ((HS9.o.set 0 _).set 1 _) underlying57 rfl Tryz.faultInfo) rfl ?_;exact⟨0,0,rfl,Or.inr (Or.inr ⟨HNM.o,fun i x hx=>HALL.o i x (gZ hx).1 hx,Or.inr ⟨fun i x hx=>HHA.o i x (gZ hx).1 hx,rfl,rfl⟩⟩),(HCW.o.setCell (Nat.le_succ _) _).setCell (Nat.le_succ _) _⟩
   skip
end Go.Proofs.YtjgofdclmcpopaaGreatDoor
