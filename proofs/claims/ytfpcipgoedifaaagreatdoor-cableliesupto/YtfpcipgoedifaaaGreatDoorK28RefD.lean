/- rafterref's CheckFrame: the loops. -/
import Derived.Test.YtfpcipgoedifaaaGreatDoorK27RefC
namespace Go.Proofs.YtfpcipgoedifaaaGreatDoor
open Go.RowKit
set_option linter.unusedVariables false
set_option linter.unusedSimpArgs false
theorem Qsi{hs:List H3}{m i:Nat}{o:H3}(h:hs[i]?=some o)(hi:i<m):(o.j,o.w)∈ places (hs.take m):=by
 unfold places;exact List.mem_map.2 ⟨o,mO (i:=i) (by rw[List.getElem?_take_of_lt hi];exact h),rfl⟩
theorem Qsj{hs:List H3}{m:Nat}{h:H3}(hn:∀(t:Nat) (x:H3),t<m->hs[t]?=some x->¬(x.j=h.j/\x.w=h.w)):(h.j,h.w) ∉ places (hs.take m):=by
 intro hm;unfold places at hm;obtain⟨x,hx,e⟩:=List.mem_map.1 hm;obtain⟨t,ht⟩:=List.getElem?_of_mem hx;have hl:=(gZ ht).1;rw[List.length_take] at hl;rw[List.getElem?_take_of_lt (by omega)] at ht;simp only[Prod.mk.injEq] at e;exact hn t x (by omega) ht e
theorem Qak{X Y:World}{g h:Nat}{t:TypeId}{a b c d:Value}(k:SB X g t #[a,b])(l:SB X h t #[c,d])(hb:Below X.heap.size X Y):Y.cell? ⟨g,0,none⟩=some a/\Y.cell? ⟨g,1,none⟩=some b/\Y.cell? ⟨h,0,none⟩=some c/\Y.cell? ⟨h,1,none⟩=some d:=
 ⟨(k.below hb k.lt).cell 0,(k.below hb k.lt).cell 1,(l.below hb l.lt).cell 0,(l.below hb l.lt).cell 1⟩
theorem Qeb{X Y:World}{g:Nat}{t:TypeId}{a b c d e f:Value}(k:SB X g t #[a,b,c,d,e,f])(hb:Below X.heap.size X Y):Y.cell? ⟨g,2,none⟩=some c/\Y.cell? ⟨g,4,none⟩=some e/\Y.cell? ⟨g,5,none⟩=some f:=
 ⟨(k.below hb k.lt).cell 2,(k.below hb k.lt).cell 4,(k.below hb k.lt).cell 5⟩
set_option maxRecDepth 100000 in
set_option maxHeartbeats 8000000 in
theorem Qsk(a1 a2 a3:Option Addr)(c1 c2 c3:Nat)(js:List S2)(bs:List B6)(hs:List H3)(w:World)(hg:Glob w)(hf:FrRow w a1 a2 a3 c1 c2 c3 js bs hs)(hz:FrSized js bs hs)(hm:¬Many js.length bs.length hs.length):
 Calls Tryz.prog 5 #[.agg #[.slice a1 js.length c1,.slice a2 bs.length c2,.slice a3 hs.length c3]] w fun e w'=>∃c at_,e=.returned (.agg #[.int .i64 c,.int .i64 at_])/\FrameFault js bs hs c at_/\Below w.heap.size w w':=by
 have n0:1<=js.length:=Nat.le_of_not_lt fun h=>hm (.inl h)
 have n1:js.length<=10:=Nat.le_of_not_lt fun h=>hm (.inr (.inl h))
 have n2:bs.length<=24:=Nat.le_of_not_lt fun h=>hm (.inr (.inr (.inl h)))
 have n3:hs.length<=20:=Nat.le_of_not_lt fun h=>hm (.inr (.inr (.inr h)))
 have HNM:=Hi hm;have q1:((js.length:Int) == 0)=false:=by rw[beq_eq_false_iff_ne];omega
 have q2:¬((10:Int)<(js.length:Int)):=by omega
 have q3:¬((24:Int)<(bs.length:Int)):=by omega
 have q4:¬((20:Int)<(hs.length:Int)):=by omega
 clear hm;have HG:=Hi hg;have HF:=Hi hf;have HZ:=Hi hz;clear hg hf hz;go_enter Tryz.func5,Tryz.ntmps5;obtain⟨W,hW⟩:=nm ((w.alloc (.cells #[.slice a1 js.length c1,.slice a2 bs.length c2,.slice a3 hs.length c3] 26)).alloc (.cells #[.int .i64 0,.int .i64 0] 31));have HB0:Hid (Below w.heap.size w W):=Hi (by rw[<-hW];exact Below.new2 w _ _);have HS0:Hid (SB W w.heap.size 26 #[.slice a1 js.length c1,.slice a2 bs.length c2,.slice a3 hs.length c3]):=Hi (by rw[<-hW];exact(SB.new w _ _).alloc _);have HS1:Hid (SB W (w.heap.size+1) 31 #[.int .i64 0,.int .i64 0]):=Hi (by rw[<-hW];exact SB.new2 w _ _ _ _);have HR0:Hid (Below W.heap.size W W):=Hi bR;have hx:=HS0.out.below HR0.out HS0.out.lt;have hy:=HS1.out.below HR0.out HS1.out.lt;obtain⟨x0,x1,-⟩:=zc hx
 obtain⟨-,-,x2,-⟩:=zc hx;obtain⟨z0,z1,-⟩:=zc hy;have f0:=hy.free 0;have f1:=hy.free 1;clear hx hy;rw[<-hW] at x0 x1 x2 z0 z1 f0 f1;have HW:=Hi hW;clear hW;go_wp2_with fail;rw[HW.out];clear x0 x1 x2 z0 z1 f0 f1 q1 q2 q3 q4;go_loopw [38] (fun iv wr=>∃k:Nat,k<=bs.length/\iv=.int .i64 k/\(∀(i:Nat) (x:B6),i<k->bs[i]?=some x->BarCode js x 0)/\Below W.heap.size W wr) (fun iv _=>bs.length - (intOf iv).toNat)
 case atStart=>exact⟨0,by omega,rfl,fun i x hi=>by omega,Below.refl _ _⟩
 case round=>
  obtain⟨k,hk,rfl,hall,hb⟩:=hrel;have HALL:=Hi hall;have HB:=Hi hb;have HBW:=Hi (HB0.out.trans (hb.mono HB0.out.size));clear hall hb;by_cases hlt:k<bs.length
  ·
   obtain⟨f,hfk⟩:∃f,bs[k]?=some f:=⟨bs[k],gE hlt⟩;obtain⟨fb,off,rfl,hfb,d0,d1,d2,d3,d4,d5⟩:=(HF.out.b.below HBW.out).bar hfk;have HFK:=Hi hfk;have q5:((k:Int)<(bs.length:Int)):=by omega
   obtain⟨V,hV⟩:=nm (wr.alloc (.cells #[.int .i64 f.a,.int .i64 f.b,.string f.c,.string f.e,.string f.l,.string f.m] 47));have HBV:Hid (Below W.heap.size W V):=Hi (by rw[<-hV];exact HB.out.alloc HB.out.size _);have HSV:Hid (SB V wr.heap.size 47 #[.int .i64 f.a,.int .i64 f.b,.string f.c,.string f.e,.string f.l,.string f.m]):=Hi (by rw[<-hV];exact SB.new wr _ _);have HV:=Hi hV;clear hfk hV;by_cases gg:f.a<0∨f.b<0∨(js.length:Int)<=f.a∨(js.length:Int)<=f.b
   ·
    have HNJ:Hid (¬(IsJ js.length f.a/\IsJ js.length f.b)):=Hi (fun h=>by unfold IsJ at h;omega);rcases(show f.a<0∨¬f.a<0/\f.b<0∨¬f.a<0/\¬f.b<0/\(js.length:Int)<=f.a∨¬f.a<0/\¬f.b<0/\¬(js.length:Int)<=f.a/\(js.length:Int)<=f.b by omega) with g1|⟨g1,g2⟩|⟨g1,g2,g3⟩|⟨g1,g2,g3,g4⟩
    all_goals
     clear gg;go_wp2_with fail;rw[HV.out];clear d0 d1 d2 d3 d4 d5;go_fit (ref_F 4 (k:Int) V);rintro e w9 ⟨rfl,hb9⟩;have HB9:=Hi (HBV.out.trans (hb9.mono HBV.out.size));have HS9:=Hi (HS1.out.below HB9.out HS1.out.lt);obtain⟨z0,z1,-⟩:=zc HS9.out;have f0:=HS9.out.free 0;have f1:=HS9.out.free 1;clear hb9;go_wp2;refine bodyPost_ret (v:=.agg #[.int .i64 4,.int .i64 (k:Int)]) (results_cell_row rfl _ _ (w.heap.size+1) 31 #[.int .i64 4,.int .i64 (k:Int)] (0,0) _ rfl ((HS9.out.set 0 _).set 1 _) Tryz.underlying31 rfl Tryz.faultInfo) rfl ?_;exact⟨_,_,rfl,Or.inr (Or.inl ⟨HNM.out,k,f,HFK.out,HALL.out,Or.inl ⟨HNJ.out,rfl⟩,by decide,rfl⟩),((HB0.out.trans (HB9.out.mono HB0.out.size)).setCell (Nat.le_succ _) _).setCell (Nat.le_succ _) _⟩;skip
   obtain⟨g1,g2,g3,g4⟩:¬f.a<0/\¬f.b<0/\¬(js.length:Int)<=f.a/\¬(js.length:Int)<=f.b:=by omega
   clear gg;have hja:IsJ js.length f.a:=⟨by omega,by omega⟩;have hjb:IsJ js.length f.b:=⟨by omega,by omega⟩;have HJA:=Hi hja;have HJB:=Hi hjb;clear hja hjb;obtain⟨ka,hka⟩:=Int.eq_ofNat_of_zero_le HJA.out.1;obtain⟨kb,hkb⟩:=Int.eq_ofNat_of_zero_le HJB.out.1;obtain⟨p,hp⟩:∃p,js[ka]?=some p:=⟨_,gE (by have:=HJA.out.2;omega)⟩;obtain⟨q,hq⟩:∃q,js[kb]?=some q:=⟨_,gE (by have:=HJB.out.2;omega)⟩;have HKA:=Hi hka;have HKB:=Hi hkb;have HP:=Hi hp;have HQ:=Hi hq;clear hka hkb hp hq;go_wp2_with fail;rw[HV.out,HKA.out,HKB.out];clear d0 d1 d2 d3 d4 d5;obtain⟨jb,jo,hja,hjl,d0,d1⟩:=((HF.out.j.below HB0.out).below HBV.out).spot HP.out;obtain⟨jb2,jo2,hja2,hjl2,d2,d3⟩:=((HF.out.j.below HB0.out).below HBV.out).spot HQ.out;subst hja;cases hja2;have hx:=HS0.out.below HBV.out HS0.out.lt
   obtain⟨x0,-⟩:=zc hx;have y0:V.cell? ⟨wr.heap.size,0,none⟩=some (.int .i64 (ka:Int)):=by rw[<-HKA.out];exact HSV.out.cell 0
   have y1:V.cell? ⟨wr.heap.size,1,none⟩=some (.int .i64 (kb:Int)):=by rw[<-HKB.out];exact HSV.out.cell 1
   have i1:((0:Int)<=(ka:Int)):=by omega
   have i2:((0:Int)<=(kb:Int)):=by omega
   have i3:((ka:Int)<(js.length:Int)):=by have:=(gZ HP.out).1;omega
   have i4:((kb:Int)<(js.length:Int)):=by have:=(gZ HQ.out).1;omega
   have l0:=HS0.out.lt;have l1:=HBV.out.size;have l2:=HSV.out.lt;have m1:V.heap.size≠w.heap.size:=by omega
   have m2:V.heap.size≠wr.heap.size:=by omega
   have m3:V.heap.size≠jb:=by omega
   have m4:V.heap.size+1≠w.heap.size:=by omega
   have m5:V.heap.size+1≠wr.heap.size:=by omega
   have m6:V.heap.size+1≠jb:=by omega
   clear hx;go_cut [6,7] (fun s6 s7 wx=>∃g6 g7:Nat,s6=.pointer (some ⟨g6,0,none⟩)/\s7=.pointer (some ⟨g7,0,none⟩)/\SB wx g6 42 #[.string p.x,.string p.y]/\SB wx g7 42 #[.string q.x,.string q.y]/\Below V.heap.size V wx)
   case first=>
    go_region_held3 (fun v=>v.cell? ⟨w.heap.size,0,none⟩=some (.slice (some ⟨jb,jo,none⟩) js.length c1)/\v.cell? ⟨wr.heap.size,0,none⟩=some (.int .i64 (ka:Int))/\v.cell? ⟨wr.heap.size,1,none⟩=some (.int .i64 (kb:Int))/\v.cell? ⟨jb,jo+ka*2,none⟩=some (.string p.x)/\v.cell? ⟨jb,jo+ka*2+1,none⟩=some (.string p.y)/\v.cell? ⟨jb,jo+kb*2,none⟩=some (.string q.x)/\v.cell? ⟨jb,jo+kb*2+1,none⟩=some (.string q.y)) ((first|(simp [*];done)|go_keep)) (fail)
    all_goals
     go_wp2_with fail;go_meet
     case rel=>
      first
       |exact⟨_,_,rfl,rfl,SB.drew ((SB.new V _ _).alloc _),SB.drew (SB.new2 V _ _ _ _),(Below.new2 V _ _).drew⟩
       |exact⟨_,_,rfl,rfl,SB.drew (SB.new2 V _ _ _ _),SB.drew ((SB.new V _ _).alloc _),(Below.new2 V _ _).drew⟩
   case rest=>
    obtain⟨g6,g7,rfl,rfl,hs6,hs7,hbx⟩:=hcut;obtain⟨wx,rfl⟩:∃wx,wx=wc:=⟨wc,rfl⟩;have HS6:=Hi hs6;have HS7:=Hi hs7;have HSB:=Hi (HSV.out.below hbx HSV.out.lt);have HBX:=Hi (HBV.out.trans (hbx.mono HBV.out.size));have HR:=Hi (RBag.start ((HG.out.below HB0.out).below HBX.out).most);obtain⟨px,hpx⟩:=QOf.ex p.x.data.toList;obtain⟨py,hpy⟩:=QOf.ex p.y.data.toList;obtain⟨qx,hqx⟩:=QOf.ex q.x.data.toList;obtain⟨qy,hqy⟩:=QOf.ex q.y.data.toList;obtain⟨vc,hvc⟩:=QOf.ex f.c.data.toList;obtain⟨vl,hvl⟩:=QOf.ex f.l.data.toList;obtain⟨vm,hvm⟩:=QOf.ex f.m.data.toList;have Q1:=Hi hpx;have Q2:=Hi hpy;have Q3:=Hi hqx;have Q4:=Hi hqy;have Q5:=Hi hvc;have Q6:=Hi hvl;have Q7:=Hi hvm;have Z1:=Hi (HZ.out.j p (mO HP.out));have Z2:=Hi (HZ.out.j q (mO HQ.out));have Z3:=Hi (HZ.out.b f (mO HFK.out))
    have HBC:Hid (∀c,c=(if px=qx/\py=qy then 5 else if sgn3 vc.num<=0∨0<sgn3 vl.num∨sgn3 vm.num<0 then 5 else 0)->BarCode js f c):=Hi (fun c hc=>.inr ⟨HJA.out,HJB.out,p,q,by rw[HKA.out];exact HP.out,by rw[HKB.out];exact HQ.out,px,py,qx,qy,vc,vl,vm,Q1.out,Q2.out,Q3.out,Q4.out,Q5.out,Q6.out,Q7.out,hc⟩);clear hs6 hs7 hbx hpx hpy hqx hqy hvc hvl hvm x0 y0 y1 d0 d1 d2 d3 i1 i2 i3 i4 l0 l1 l2 m1 m2 m3 m4 m5 m6;obtain⟨r0,r1,r2,r3⟩:=Qak HS6.out HS7.out HR.out.base;go_wp2_with fail;go_cut [94] (fun s wy=>s=.bool (decide (px=qx/\py=qy))/\Below wx.heap.size wx wy)
    case first=>
     by_cases e1:px=qx
     ·
      by_cases e2:py=qy
      ·
       have HXE:=Hi e1;have HYE:=Hi e2;have HDE:=Hi (decide_eq_true (show px=qx/\py=qy from ⟨e1,e2⟩));clear e1 e2;go_region_held3 (fun v=>v.cell? ⟨g6,0,none⟩=some (.string p.x)/\v.cell? ⟨g6,1,none⟩=some (.string p.y)/\v.cell? ⟨g7,0,none⟩=some (.string q.x)/\v.cell? ⟨g7,1,none⟩=some (.string q.y)) ((first|(simp [*];done)|go_keep)) (first
        |
         (go_at_call_of 10 (Value.string p.x)
          apply cM;apply RBag.of (w0:=wx) (n:=1048576);(focus(first|exact HR.out|exact HR.out.drew));exact Z1.out.1;decide;rintro e wn ⟨qq,hq,bq,rfl,hbag⟩;obtain rfl:=Q1.out.inj hq;clear HR;have HR:=Hi hbag;clear hq hbag;obtain⟨r0,r1,r2,r3⟩:=Qak HS6.out HS7.out HR.out.base
          skip)
        |
         (go_at_call_of 10 (Value.string p.y)
          apply cM;apply RBag.of (w0:=wx) (n:=1048576);(focus(first|exact HR.out|exact HR.out.drew));exact Z1.out.2;decide;rintro e wn ⟨qq,hq,bq,rfl,hbag⟩;obtain rfl:=Q2.out.inj hq;clear HR;have HR:=Hi hbag;clear hq hbag;obtain⟨r0,r1,r2,r3⟩:=Qak HS6.out HS7.out HR.out.base
          skip)
        |
         (go_at_call_of 10 (Value.string q.x)
          apply cM;apply RBag.of (w0:=wx) (n:=1048576);(focus(first|exact HR.out|exact HR.out.drew));exact Z2.out.1;decide;rintro e wn ⟨qq,hq,bq,rfl,hbag⟩;obtain rfl:=Q3.out.inj hq;clear HR;have HR:=Hi hbag;clear hq hbag;obtain⟨r0,r1,r2,r3⟩:=Qak HS6.out HS7.out HR.out.base
          skip)
        |
         (go_at_call_of 10 (Value.string q.y)
          apply cM;apply RBag.of (w0:=wx) (n:=1048576);(focus(first|exact HR.out|exact HR.out.drew));exact Z2.out.2;decide;rintro e wn ⟨qq,hq,bq,rfl,hbag⟩;obtain rfl:=Q4.out.inj hq;clear HR;have HR:=Hi hbag;clear hq hbag;obtain⟨r0,r1,r2,r3⟩:=Qak HS6.out HS7.out HR.out.base
          skip)
        |
         (go_at_call 11
          apply cM;apply RBag.cmpT (w0:=wx);(focus(first|exact HR.out|exact HR.out.drew));(focus(repeat(first|exact List.Mem.head _|apply List.Mem.tail)));(focus(repeat(first|exact List.Mem.head _|apply List.Mem.tail)));decide;exact HXE.out;rintro e wn ⟨rfl,hbag⟩;clear HR;have HR:=Hi hbag;clear hbag;obtain⟨r0,r1,r2,r3⟩:=Qak HS6.out HS7.out HR.out.base
          skip)
        |
         (go_at_call 11
          apply cM;apply RBag.cmpT (w0:=wx);(focus(first|exact HR.out|exact HR.out.drew));(focus(repeat(first|exact List.Mem.head _|apply List.Mem.tail)));(focus(repeat(first|exact List.Mem.head _|apply List.Mem.tail)));decide;exact HYE.out;rintro e wn ⟨rfl,hbag⟩;clear HR;have HR:=Hi hbag;clear hbag;obtain⟨r0,r1,r2,r3⟩:=Qak HS6.out HS7.out HR.out.base
          skip)
        )
       all_goals
        go_wp2_with fail;go_meet
        case rel=>exact⟨by simp[HDE.out, *],HR.out.base⟩
        skip
      ·
       have HXE:=Hi e1;have HYE:=Hi e2;have HDE:=Hi (decide_eq_false (show ¬(px=qx/\py=qy) from fun h=>e2 h.2));clear e1 e2;go_region_held3 (fun v=>v.cell? ⟨g6,0,none⟩=some (.string p.x)/\v.cell? ⟨g6,1,none⟩=some (.string p.y)/\v.cell? ⟨g7,0,none⟩=some (.string q.x)/\v.cell? ⟨g7,1,none⟩=some (.string q.y)) ((first|(simp [*];done)|go_keep)) (first
        |
         (go_at_call_of 10 (Value.string p.x)
          apply cM;apply RBag.of (w0:=wx) (n:=1048576);(focus(first|exact HR.out|exact HR.out.drew));exact Z1.out.1;decide;rintro e wn ⟨qq,hq,bq,rfl,hbag⟩;obtain rfl:=Q1.out.inj hq;clear HR;have HR:=Hi hbag;clear hq hbag;obtain⟨r0,r1,r2,r3⟩:=Qak HS6.out HS7.out HR.out.base
          skip)
        |
         (go_at_call_of 10 (Value.string p.y)
          apply cM;apply RBag.of (w0:=wx) (n:=1048576);(focus(first|exact HR.out|exact HR.out.drew));exact Z1.out.2;decide;rintro e wn ⟨qq,hq,bq,rfl,hbag⟩;obtain rfl:=Q2.out.inj hq;clear HR;have HR:=Hi hbag;clear hq hbag;obtain⟨r0,r1,r2,r3⟩:=Qak HS6.out HS7.out HR.out.base
          skip)
        |
         (go_at_call_of 10 (Value.string q.x)
          apply cM;apply RBag.of (w0:=wx) (n:=1048576);(focus(first|exact HR.out|exact HR.out.drew));exact Z2.out.1;decide;rintro e wn ⟨qq,hq,bq,rfl,hbag⟩;obtain rfl:=Q3.out.inj hq;clear HR;have HR:=Hi hbag;clear hq hbag;obtain⟨r0,r1,r2,r3⟩:=Qak HS6.out HS7.out HR.out.base
          skip)
        |
         (go_at_call_of 10 (Value.string q.y)
          apply cM;apply RBag.of (w0:=wx) (n:=1048576);(focus(first|exact HR.out|exact HR.out.drew));exact Z2.out.2;decide;rintro e wn ⟨qq,hq,bq,rfl,hbag⟩;obtain rfl:=Q4.out.inj hq;clear HR;have HR:=Hi hbag;clear hq hbag;obtain⟨r0,r1,r2,r3⟩:=Qak HS6.out HS7.out HR.out.base
          skip)
        |
         (go_at_call 11
          apply cM;apply RBag.cmpT (w0:=wx);(focus(first|exact HR.out|exact HR.out.drew));(focus(repeat(first|exact List.Mem.head _|apply List.Mem.tail)));(focus(repeat(first|exact List.Mem.head _|apply List.Mem.tail)));decide;exact HXE.out;rintro e wn ⟨rfl,hbag⟩;clear HR;have HR:=Hi hbag;clear hbag;obtain⟨r0,r1,r2,r3⟩:=Qak HS6.out HS7.out HR.out.base
          skip)
        |
         (go_at_call 11
          apply cM;apply RBag.cmpF (w0:=wx);(focus(first|exact HR.out|exact HR.out.drew));(focus(repeat(first|exact List.Mem.head _|apply List.Mem.tail)));(focus(repeat(first|exact List.Mem.head _|apply List.Mem.tail)));decide;exact HYE.out;rintro e wn ⟨⟨cc,rfl,hcc⟩,hbag⟩;clear HR;have HR:=Hi hbag;clear hbag;obtain⟨r0,r1,r2,r3⟩:=Qak HS6.out HS7.out HR.out.base
          skip)
        )
       all_goals
        go_wp2_with fail;go_meet
        case rel=>exact⟨by simp[HDE.out, *],HR.out.base⟩
        skip
     ·
      have HXE:=Hi e1;have HDE:=Hi (decide_eq_false (show ¬(px=qx/\py=qy) from fun h=>e1 h.1));clear e1
      first
       |(
        go_region_with (first
         |
          (go_at_call_of 10 (Value.string p.x)
           apply cM;apply RBag.of (w0:=wx) (n:=1048576);(focus(first|exact HR.out|exact HR.out.drew));exact Z1.out.1;decide;rintro e wn ⟨qq,hq,bq,rfl,hbag⟩;obtain rfl:=Q1.out.inj hq;clear HR;have HR:=Hi hbag;clear hq hbag;obtain⟨r0,r1,r2,r3⟩:=Qak HS6.out HS7.out HR.out.base
           skip)
         |
          (go_at_call_of 10 (Value.string p.y)
           apply cM;apply RBag.of (w0:=wx) (n:=1048576);(focus(first|exact HR.out|exact HR.out.drew));exact Z1.out.2;decide;rintro e wn ⟨qq,hq,bq,rfl,hbag⟩;obtain rfl:=Q2.out.inj hq;clear HR;have HR:=Hi hbag;clear hq hbag;obtain⟨r0,r1,r2,r3⟩:=Qak HS6.out HS7.out HR.out.base
           skip)
         |
          (go_at_call_of 10 (Value.string q.x)
           apply cM;apply RBag.of (w0:=wx) (n:=1048576);(focus(first|exact HR.out|exact HR.out.drew));exact Z2.out.1;decide;rintro e wn ⟨qq,hq,bq,rfl,hbag⟩;obtain rfl:=Q3.out.inj hq;clear HR;have HR:=Hi hbag;clear hq hbag;obtain⟨r0,r1,r2,r3⟩:=Qak HS6.out HS7.out HR.out.base
           skip)
         |
          (go_at_call_of 10 (Value.string q.y)
           apply cM;apply RBag.of (w0:=wx) (n:=1048576);(focus(first|exact HR.out|exact HR.out.drew));exact Z2.out.2;decide;rintro e wn ⟨qq,hq,bq,rfl,hbag⟩;obtain rfl:=Q4.out.inj hq;clear HR;have HR:=Hi hbag;clear hq hbag;obtain⟨r0,r1,r2,r3⟩:=Qak HS6.out HS7.out HR.out.base
           skip)
         |
          (go_at_call 11
           apply cM;apply RBag.cmpF (w0:=wx);(focus(first|exact HR.out|exact HR.out.drew));(focus(repeat(first|exact List.Mem.head _|apply List.Mem.tail)));(focus(repeat(first|exact List.Mem.head _|apply List.Mem.tail)));decide;exact HXE.out;rintro e wn ⟨⟨cc,rfl,hcc⟩,hbag⟩;clear HR;have HR:=Hi hbag;clear hbag;obtain⟨r0,r1,r2,r3⟩:=Qak HS6.out HS7.out HR.out.base
           skip)
         ))
       |fail
      all_goals
       go_wp2_with fail;go_meet
       case rel=>exact⟨by simp[HDE.out, *],HR.out.base⟩
       skip
    case rest=>
     obtain⟨rfl,hbc⟩:=hcut;have HBN:=Hi (HBX.out.trans (hbc.mono HBX.out.size));have HSN:=Hi (HSB.out.below hbc HSB.out.lt);clear hbc r0 r1 r2 r3;by_cases e1:px=qx/\py=qy
     ·
      have HBK:Hid (BarCode js f 5):=Hi (HBC.out 5 (by rw[if_pos e1]));rw[decide_eq_true e1];clear e1;go_wp2_with fail;go_fit (ref_F 5 (k:Int) wc);rintro e w9 ⟨rfl,hb9⟩;have HB9:=Hi (HBN.out.trans (hb9.mono HBN.out.size));have HS9:=Hi (HS1.out.below HB9.out HS1.out.lt);obtain⟨z0,z1,-⟩:=zc HS9.out;have f0:=HS9.out.free 0;have f1:=HS9.out.free 1;clear hb9;go_wp2;refine bodyPost_ret (v:=.agg #[.int .i64 5,.int .i64 (k:Int)]) (results_cell_row rfl _ _ (w.heap.size+1) 31 #[.int .i64 5,.int .i64 (k:Int)] (0,0) _ rfl ((HS9.out.set 0 _).set 1 _) Tryz.underlying31 rfl Tryz.faultInfo) rfl ?_;exact⟨_,_,rfl,Or.inr (Or.inl ⟨HNM.out,k,f,HFK.out,HALL.out,HBK.out,by decide,rfl⟩),((HB0.out.trans (HB9.out.mono HB0.out.size)).setCell (Nat.le_succ _) _).setCell (Nat.le_succ _) _⟩;skip
     ·
      rw[decide_eq_false e1];obtain⟨sc,hsc⟩:=nm (sgn3 vc.num);obtain⟨sl,hsl⟩:=nm (sgn3 vl.num);obtain⟨sm,hsm⟩:=nm (sgn3 vm.num);have HBD:Hid (∀c,c=(if sc<=0∨0<sl∨sm<0 then 5 else 0)->BarCode js f c):=Hi (fun c hc=>HBC.out c (by rw[if_neg e1,hsc,hsl,hsm];exact hc));have SC:=Hi hsc;have SL:=Hi hsl;have SM:=Hi hsm;clear hsc hsl hsm e1;have HR2:=Hi (RBag.start ((HG.out.below HB0.out).below HBN.out).most);obtain⟨r4,r5,r6⟩:=Qeb HSN.out HR2.out.base;have gg:sc<=0/\Hid (BarCode js f 5)∨¬sc<=0/\0<sl/\Hid (BarCode js f 5)∨¬sc<=0/\¬0<sl/\sm<0/\Hid (BarCode js f 5)∨¬sc<=0/\¬0<sl/\¬sm<0/\Hid (BarCode js f 0):=by
       have y:sc<=0∨0<sl∨sm<0->Hid (BarCode js f 5):=fun h=>Hi (HBD.out 5 (by rw[if_pos h]))
       by_cases s1:sc<=0
       · exact .inl ⟨s1,y (.inl s1)⟩
       by_cases s2:0<sl
       · exact .inr (.inl ⟨s1,s2,y (.inr (.inl s2))⟩)
       by_cases s3:sm<0
       · exact .inr (.inr (.inl ⟨s1,s2,s3,y (.inr (.inr s3))⟩))
       exact .inr (.inr (.inr ⟨s1,s2,s3,Hi (HBD.out 0 (by rw[if_neg (by omega)]))⟩))
      clear HBD;rcases gg with ⟨s1,HBK⟩|⟨s1,s2,HBK⟩|⟨s1,s2,s3,HBK⟩|⟨s1,s2,s3,HBK⟩
      all_goals
       go_wp2_with (first
        |
         (go_at_call_of 10 (Value.string f.c)
          apply cM;apply RBag.of (w0:=wc) (n:=1048576);(focus(first|exact HR2.out|exact HR2.out.drew));exact Z3.out.1;decide;rintro e wn ⟨qq,hq,bq,rfl,hbag⟩;obtain rfl:=Q5.out.inj hq;clear HR2;have HR2:=Hi hbag;clear hq hbag;obtain⟨r4,r5,r6⟩:=Qeb HSN.out HR2.out.base
          skip)
        |
         (go_at_call_of 10 (Value.string f.l)
          apply cM;apply RBag.of (w0:=wc) (n:=1048576);(focus(first|exact HR2.out|exact HR2.out.drew));exact Z3.out.2.2.1;decide;rintro e wn ⟨qq,hq,bq,rfl,hbag⟩;obtain rfl:=Q6.out.inj hq;clear HR2;have HR2:=Hi hbag;clear hq hbag;obtain⟨r4,r5,r6⟩:=Qeb HSN.out HR2.out.base
          skip)
        |
         (go_at_call_of 10 (Value.string f.m)
          apply cM;apply RBag.of (w0:=wc) (n:=1048576);(focus(first|exact HR2.out|exact HR2.out.drew));exact Z3.out.2.2.2;decide;rintro e wn ⟨qq,hq,bq,rfl,hbag⟩;obtain rfl:=Q7.out.inj hq;clear HR2;have HR2:=Hi hbag;clear hq hbag;obtain⟨r4,r5,r6⟩:=Qeb HSN.out HR2.out.base
          skip)
        |
         (go_at_call 7
          apply cM;apply RBag.sign (w0:=wc);(focus(first|exact HR2.out|exact HR2.out.drew));(focus(repeat(first|exact List.Mem.head _|apply List.Mem.tail)));rintro e wn ⟨rfl,rfl⟩
          (first|rw[SC.out]|rw[SL.out]|rw[SM.out]))
        |fail)
       first
        |(
         skip;have HN:=Hi (HBN.out.trans (HR2.out.base.mono HBN.out.size));go_fit (ref_F 5 (k:Int) _);rintro e w9 ⟨rfl,hb9⟩;have HB9:=Hi (HN.out.trans (hb9.mono HN.out.size));have HS9:=Hi (HS1.out.below HB9.out HS1.out.lt);obtain⟨z0,z1,-⟩:=zc HS9.out;have f0:=HS9.out.free 0;have f1:=HS9.out.free 1;clear hb9;go_wp2;refine bodyPost_ret (v:=.agg #[.int .i64 5,.int .i64 (k:Int)]) (results_cell_row rfl _ _ (w.heap.size+1) 31 #[.int .i64 5,.int .i64 (k:Int)] (0,0) _ rfl ((HS9.out.set 0 _).set 1 _) Tryz.underlying31 rfl Tryz.faultInfo) rfl ?_;exact⟨_,_,rfl,Or.inr (Or.inl ⟨HNM.out,k,f,HFK.out,HALL.out,HBK.out,by decide,rfl⟩),((HB0.out.trans (HB9.out.mono HB0.out.size)).setCell (Nat.le_succ _) _).setCell (Nat.le_succ _) _⟩
         skip)
        |(
         go_roundw
         case rel=>
          refine⟨k+1,by omega,by go_num,?_,HBN.out.trans (HR2.out.base.mono HBN.out.size)⟩;intro i x hi hx;rcases Nat.lt_or_ge i k with h|h
          · exact HALL.out i x h hx
          ·
           obtain rfl:i=k:=by omega
           obtain rfl:=Option.some.inj (HFK.out.symm.trans hx);exact HBK.out
         case measure=>simp[intOf];omega)
  ·
   have hk':k=bs.length:=by omega
   subst hk';have hx:=HS0.out.below HB.out HS0.out.lt;obtain⟨-,-,x2,-⟩:=zc hx;clear hx;go_wp2_with fail;clear x2;obtain⟨wq,rfl⟩:∃wq,wq=wr:=⟨wr,rfl⟩;go_loopw [122] (fun iv wr=>∃m:Nat,m<=hs.length/\iv=.int .i64 m/\(∀(i:Nat) (x:H3),i<m->hs[i]?=some x->holdAt js.length hs i x=0)/\Below W.heap.size W wr) (fun iv _=>hs.length - (intOf iv).toNat)
   case atStart=>exact⟨0,by omega,rfl,fun i x hi=>by omega,HB.out⟩
   case round=>
    obtain⟨m,hm,rfl,hha,hb⟩:=hrel;have HHA:=Hi hha;have HC:=Hi hb;have HCW:=Hi (HB0.out.trans (hb.mono HB0.out.size));clear hha hb;by_cases hlm:m<hs.length
    ·
     obtain⟨h,hhk⟩:∃h,hs[m]?=some h:=⟨hs[m],gE hlm⟩;obtain⟨fb,off,hfa,hfb,d0,d1,d2⟩:=(HF.out.h.below HCW.out).hold hhk;have HFA:=Hi hfa;have HHK:=Hi hhk;have q5:((m:Int)<(hs.length:Int)):=by omega
     subst hfa;obtain⟨V,hV⟩:=nm (wr.alloc (.cells #[.int .i64 h.j,.int .i64 h.w,.string h.q] 45));have HBV:Hid (Below W.heap.size W V):=Hi (by rw[<-hV];exact HC.out.alloc HC.out.size _);have HSV:Hid (SB V wr.heap.size 45 #[.int .i64 h.j,.int .i64 h.w,.string h.q]):=Hi (by rw[<-hV];exact SB.new wr _ _);have hx:=HS0.out.below HBV.out HS0.out.lt;obtain⟨-,x1,x2,-⟩:=zc hx;rw[<-hV] at x1 x2;have HV:=Hi hV;clear hhk hV hx;by_cases gg:h.j<0∨(js.length:Int)<=h.j
     ·
      have HWY:Hid (holdAt js.length hs m h=4):=Hi (by unfold holdAt holdC;rw[if_neg (by omega)]);rcases(show h.j<0∨¬h.j<0/\(js.length:Int)<=h.j by omega) with g1|⟨g1,g2⟩
      all_goals
       clear gg;go_wp2_with fail;rw[HV.out];clear x1 x2 d0 d1 d2;go_fit (ref_F 4 ((bs.length:Int)+(m:Int)) V);rintro e w9 ⟨rfl,hb9⟩;have HB9:=Hi (HBV.out.trans (hb9.mono HBV.out.size));have HS9:=Hi (HS1.out.below HB9.out HS1.out.lt);obtain⟨z0,z1,-⟩:=zc HS9.out;have f0:=HS9.out.free 0;have f1:=HS9.out.free 1;clear hb9;go_wp2;refine bodyPost_ret (v:=.agg #[.int .i64 4,.int .i64 ((bs.length:Int)+(m:Int))]) (results_cell_row rfl _ _ (w.heap.size+1) 31 #[.int .i64 4,.int .i64 ((bs.length:Int)+(m:Int))] (0,0) _ rfl ((HS9.out.set 0 _).set 1 _) Tryz.underlying31 rfl Tryz.faultInfo) rfl ?_
       exact⟨_,_,rfl,Or.inr (Or.inr ⟨HNM.out,fun i x hx=>HALL.out i x (gZ hx).1 hx,Or.inl ⟨m,h,HHK.out,HHA.out,HWY.out,by decide,rfl⟩⟩),((HB0.out.trans (HB9.out.mono HB0.out.size)).setCell (Nat.le_succ _) _).setCell (Nat.le_succ _) _⟩;skip
     obtain⟨g1,g2⟩:¬h.j<0/\¬(js.length:Int)<=h.j:=by omega
     clear gg;have q6:((m:Int)<=(c3:Int)):=by have:=HF.out.h.fit;omega
     by_cases g3:h.w=1∨h.w=2
     ·
      have HWK:Hid (∀tw,holdAt js.length hs m h=holdC js.length h.j h.w tw->tw=decide ((h.j,h.w)∈ places (hs.take m))->holdAt js.length hs m h=if tw=true then 7 else 0):=Hi (fun tw e et=>by rw[e];unfold holdC;rw[if_pos (by omega),if_neg (by omega)]);have gg:(h.w != 1)=false∨(h.w != 1)=true/\(h.w != 2)=false:=by
       by_cases g4:h.w=1
       · exact .inl (by rw[bne_eq_false_iff_eq];exact g4)
       · exact .inr ⟨by rw[bne_iff_ne];exact g4,by rw[bne_eq_false_iff_eq];omega⟩
      rcases gg with e1|⟨e1,e2⟩
      all_goals
       clear g3;go_wp2_with fail;rw[HV.out];clear x1 x2 d0 d1 d2;obtain⟨wv,rfl⟩:∃wv,wv=wr:=⟨wr,rfl⟩;go_loopw [158] (fun iv wr=>∃i:Nat,i<=m/\iv=.int .i64 i/\(∀(t:Nat) (x:H3),t<i->hs[t]?=some x->¬(x.j=h.j/\x.w=h.w))/\Below V.heap.size V wr) (fun iv _=>m - (intOf iv).toNat)
       case atStart=>exact⟨0,by omega,rfl,fun t x ht=>by omega,Below.refl _ _⟩
       case round=>
        obtain⟨i,hi,rfl,hno,hb⟩:=hrel;have HNO:=Hi hno;have HD:=Hi hb;have HDW:=Hi (HBV.out.trans (hb.mono HBV.out.size));clear hno hb;by_cases hli:i<m
        ·
         obtain⟨o,hok⟩:∃o,hs[i]?=some o:=⟨hs[i],gE (by omega)⟩;obtain⟨fb2,off2,hfa2,hfb2,d0,d1,d2⟩:=((HF.out.h.below HB0.out).below HDW.out).hold hok;cases hfa2;have HOK:=Hi hok;obtain⟨U,hU⟩:=nm (wr.alloc (.cells #[.int .i64 o.j,.int .i64 o.w,.string o.q] 45));have hbU:Below V.heap.size V U:=by rw[<-hU];exact HD.out.alloc HD.out.size _
         have HBU:=Hi (HBV.out.trans (hbU.mono HBV.out.size));have HBU2:=Hi hbU;have hsv:=HSV.out.below hbU HSV.out.lt;obtain⟨v0,v1,-⟩:=zc hsv;rw[<-hU] at v0 v1;have HU:=Hi hU;have q7:((i:Int)<(m:Int)):=by omega
         clear hok hU hbU hsv;by_cases e3:o.j=h.j/\o.w=h.w
         ·
          have b1:(o.j == h.j)=true:=by rw[beq_iff_eq];exact e3.1
          have b2:(o.w == h.w)=true:=by rw[beq_iff_eq];exact e3.2
          have HWY:Hid (holdAt js.length hs m h=7):=Hi (by
           have hmem:(h.j,h.w)∈ places (hs.take m):=by
            rw[<-e3.1,<-e3.2];exact Qsi HOK.out hli
           rw[HWK.out true (by unfold holdAt;rw[decide_eq_true hmem]) (decide_eq_true hmem).symm,if_pos rfl])
          clear e3;go_wp2_with fail;rw[HU.out];clear v0 v1 d0 d1 d2;go_fit (ref_F 7 ((bs.length:Int)+(m:Int)) U);rintro e w9 ⟨rfl,hb9⟩;have HB9:=Hi (HBU.out.trans (hb9.mono HBU.out.size));have HS9:=Hi (HS1.out.below HB9.out HS1.out.lt);obtain⟨z0,z1,-⟩:=zc HS9.out;have f0:=HS9.out.free 0;have f1:=HS9.out.free 1;clear hb9;go_wp2;refine bodyPost_ret (v:=.agg #[.int .i64 7,.int .i64 ((bs.length:Int)+(m:Int))]) (results_cell_row rfl _ _ (w.heap.size+1) 31 #[.int .i64 7,.int .i64 ((bs.length:Int)+(m:Int))] (0,0) _ rfl ((HS9.out.set 0 _).set 1 _) Tryz.underlying31 rfl Tryz.faultInfo) rfl ?_
          exact⟨_,_,rfl,Or.inr (Or.inr ⟨HNM.out,fun i x hx=>HALL.out i x (gZ hx).1 hx,Or.inl ⟨m,h,HHK.out,HHA.out,HWY.out,by decide,rfl⟩⟩),((HB0.out.trans (HB9.out.mono HB0.out.size)).setCell (Nat.le_succ _) _).setCell (Nat.le_succ _) _⟩;skip
         ·
          have HNE:=Hi e3;have gg:(o.j == h.j)=false∨(o.j == h.j)=true/\(o.w == h.w)=false:=by
           by_cases e4:o.j=h.j
           · exact .inr ⟨by rw[beq_iff_eq];exact e4,by rw[beq_eq_false_iff_ne];exact fun h=>e3 ⟨e4,h⟩⟩
           · exact .inl (by rw[beq_eq_false_iff_ne];exact e4)
          clear e3;rcases gg with b1|⟨b1,b2⟩
          all_goals
           go_wp2;go_roundw
           case rel=>
            refine⟨i+1,by omega,by go_num,?_,by rw[HU.out];exact HBU2.out⟩;intro t x ht hx;rcases Nat.lt_or_ge t i with h'|h'
            · exact HNO.out t x h' hx
            ·
             obtain rfl:t=i:=by omega
             obtain rfl:=Option.some.inj (HOK.out.symm.trans hx);exact HNE.out
           case measure=>simp[intOf];omega
           skip
        ·
         have him:i=m:=by omega
         subst him;have HWY:Hid (holdAt js.length hs i h=0):=Hi (by
          have hmem:(h.j,h.w) ∉ places (hs.take i):=Qsj HNO.out
          rw[HWK.out false (by unfold holdAt;rw[decide_eq_false hmem]) (decide_eq_false hmem).symm,if_neg (by simp)])
         go_wp2;go_roundw
         case rel=>
          refine⟨i+1,by omega,by go_num,?_,HDW.out⟩;intro t x ht hx;rcases Nat.lt_or_ge t i with h'|h'
          · exact HHA.out t x h' hx
          ·
           obtain rfl:t=i:=by omega
           obtain rfl:=Option.some.inj (HHK.out.symm.trans hx);exact HWY.out
         case measure=>simp[intOf];omega
       skip
     ·
      have HWY:Hid (holdAt js.length hs m h=3):=Hi (by unfold holdAt holdC;rw[if_pos (by omega),if_pos (by omega)]);have e1:(h.w != 1)=true:=by rw[bne_iff_ne];omega
      have e2:(h.w != 2)=true:=by rw[bne_iff_ne];omega
      clear g3;go_wp2_with fail;rw[HV.out];clear x1 x2 d0 d1 d2;go_fit (ref_F 3 ((bs.length:Int)+(m:Int)) V);rintro e w9 ⟨rfl,hb9⟩;have HB9:=Hi (HBV.out.trans (hb9.mono HBV.out.size));have HS9:=Hi (HS1.out.below HB9.out HS1.out.lt);obtain⟨z0,z1,-⟩:=zc HS9.out;have f0:=HS9.out.free 0;have f1:=HS9.out.free 1;clear hb9;go_wp2;refine bodyPost_ret (v:=.agg #[.int .i64 3,.int .i64 ((bs.length:Int)+(m:Int))]) (results_cell_row rfl _ _ (w.heap.size+1) 31 #[.int .i64 3,.int .i64 ((bs.length:Int)+(m:Int))] (0,0) _ rfl ((HS9.out.set 0 _).set 1 _) Tryz.underlying31 rfl Tryz.faultInfo) rfl ?_
      exact⟨_,_,rfl,Or.inr (Or.inr ⟨HNM.out,fun i x hx=>HALL.out i x (gZ hx).1 hx,Or.inl ⟨m,h,HHK.out,HHA.out,HWY.out,by decide,rfl⟩⟩),((HB0.out.trans (HB9.out.mono HB0.out.size)).setCell (Nat.le_succ _) _).setCell (Nat.le_succ _) _⟩;skip
    ·
     have hm':m=hs.length:=by omega
     subst hm';have HS9:=Hi (HS1.out.below HC.out HS1.out.lt);obtain⟨z0,z1,-⟩:=zc HS9.out;have f0:=HS9.out.free 0;have f1:=HS9.out.free 1;go_wp2;refine bodyPost_ret (v:=.agg #[.int .i64 0,.int .i64 0]) (results_cell_row rfl _ _ (w.heap.size+1) 31 #[.int .i64 0,.int .i64 0] (0,0) _ rfl ((HS9.out.set 0 _).set 1 _) Tryz.underlying31 rfl Tryz.faultInfo) rfl ?_;exact⟨0,0,rfl,Or.inr (Or.inr ⟨HNM.out,fun i x hx=>HALL.out i x (gZ hx).1 hx,Or.inr ⟨fun i x hx=>HHA.out i x (gZ hx).1 hx,rfl,rfl⟩⟩),(HCW.out.setCell (Nat.le_succ _) _).setCell (Nat.le_succ _) _⟩
   skip
end Go.Proofs.YtfpcipgoedifaaaGreatDoor
