/- A set of pairs of ints: map[[2]int]struct{}. -/
import Derived.Test.YtfpcipgoedifaaaGreatDoorK24Kept
import Derived.WideKeyRuns
import Derived.MapKept
namespace Go.Proofs.YtfpcipgoedifaaaGreatDoor
open Go.RowKit
set_option linter.unusedVariables false
set_option linter.unusedSimpArgs false
theorem Qsy{q:Rat}(h:¬q=0):sgn3 q.num=if q.num<0 then -1 else 1:=by
 have h1:q.num≠0:=fun hc=>h (Rat.num_eq_zero.1 hc)
 unfold sgn3;by_cases h2:q.num<0
 · rw[if_pos h2,if_pos h2]
 · rw[if_neg h2,if_neg h2,if_neg h1]
set_option maxHeartbeats 1000000 in
theorem Qko{v:Value}{q:Rat}{w:World}(hx:FracV w v q):Calls Tryz.prog 77 #[v] w fun e w'=>e=.returned (.int .i64 (sgn3 q.num))/\Below w.heap.size w w':=by
 have HX:=Hi hx;obtain⟨neg,a,n,c,b,m,d,rfl,hx⟩:=hx;have HN:=Hi hx.neg;clear hx;go_enter Tryz.func77,Tryz.ntmps77;go_wp2_with fail;obtain⟨W,hW⟩:=nm (w.alloc (.cells #[.bool neg,.slice a n c,.slice b m d] 103));have HB0:Hid (Below w.heap.size w W):=Hi (by rw[<-hW];exact(Below.refl _ _).alloc lZ _);have HSB:Hid (SB W w.heap.size 103 #[.bool neg,.slice a n c,.slice b m d]):=Hi (by rw[<-hW];exact SB.new w _ _);rw[hW];clear hW;go_fit (Qbn (HX.out.below HB0.out));rintro e w1 ⟨rfl,hb1⟩;have hs:=HSB.out.below hb1 HSB.out.lt;obtain⟨k0,-⟩:=zc hs;have HB1:=Hi (HB0.out.trans (hb1.mono HB0.out.size));clear hb1 hs;by_cases h:q=0
 ·
  have hd:decide (q=0)=true:=decide_eq_true h;rw[hd];go_wp2;go_ret;exact⟨by rw[h];rfl,HB1.out⟩
 ·
  have hd:decide (q=0)=false:=decide_eq_false h;rw[hd];have e3:=Qsy h;by_cases h2:q.num<0
  ·
   obtain rfl:neg=true:=by rw[HN.out];exact decide_eq_true h2
   rw[if_pos h2] at e3;have E3:=Hi e3;clear e3 HN;go_wp2;go_ret;exact⟨by rw[E3.out];rfl,HB1.out⟩
  ·
   obtain rfl:neg=false:=by rw[HN.out];exact decide_eq_false h2
   rw[if_neg h2] at e3;have E3:=Hi e3;clear e3 HN;go_wp2;go_ret;exact⟨by rw[E3.out];rfl,HB1.out⟩
theorem FBag.sign{w0 w:World}{L:List FE}{x1 x2 x3:Value}{j:Nat}{p:Rat}(h:FBag w0 w L)(hx:⟨x1,x2,x3,p,j⟩∈ L):
 Calls Tryz.prog 77 #[.agg #[x1,x2,x3]] w (fun e w'=>e=.returned (.int .i64 (sgn3 p.num))/\FBag w0 w' L):=by
 obtain⟨hx,fx,kx⟩:=h.get hx;refine(Qko hx).mono ?_;rintro e w' ⟨rfl,hb⟩;exact⟨rfl,h.below hb⟩
theorem FBag.equalT{w0 w:World}{L:List FE}{x1 x2 x3 y1 y2 y3:Value}{j k:Nat}{p q:Rat}(h:FBag w0 w L)(hx:⟨x1,x2,x3,p,j⟩∈ L)(hy:⟨y1,y2,y3,q,k⟩∈ L)(he:p=q):
 Calls Tryz.prog 155 #[.agg #[x1,x2,x3],.agg #[y1,y2,y3]] w (fun e w'=>e=.returned (.bool true)/\FBag w0 w' L):=by
 have:=h.equal hx hy;rw[decide_eq_true he] at this;exact this
theorem FBag.equalF{w0 w:World}{L:List FE}{x1 x2 x3 y1 y2 y3:Value}{j k:Nat}{p q:Rat}(h:FBag w0 w L)(hx:⟨x1,x2,x3,p,j⟩∈ L)(hy:⟨y1,y2,y3,q,k⟩∈ L)(he:¬p=q):
 Calls Tryz.prog 155 #[.agg #[x1,x2,x3],.agg #[y1,y2,y3]] w (fun e w'=>e=.returned (.bool false)/\FBag w0 w' L):=by
 have:=h.equal hx hy;rw[decide_eq_false he] at this;exact this
def IsJ(n:Nat)(k:Int):Prop:=0<=k/\k<n
theorem Qa5(a:Option Addr)(n c:Nat)(k:Int)(w:World)(h:IsJ n k):Calls Tryz.prog 47 #[.slice a n c,.int .i64 k] w fun e w'=>e=.returned (.bool true)/\w'=w:=by
 obtain⟨h1,h2⟩:=h;go_enter Tryz.func47,Tryz.ntmps47;go_wp2;go_ret;exact⟨by simp[h1,h2],rfl⟩
theorem Qed(a:Option Addr)(n c:Nat)(k:Int)(w:World)(h:¬IsJ n k):Calls Tryz.prog 47 #[.slice a n c,.int .i64 k] w fun e w'=>e=.returned (.bool false)/\w'=w:=by
 by_cases h1:0<=k
 ·
  have h2:¬(k<(n:Int)):=fun h2=>h ⟨h1,h2⟩
  go_enter Tryz.func47,Tryz.ntmps47;go_wp2;go_ret;exact⟨by simp<;>omega,rfl⟩
 ·
  have h2:decide (0<=k)=false:=decide_eq_false h1;go_enter Tryz.func47,Tryz.ntmps47;go_wp2;go_ret;exact⟨by simp<;>omega,rfl⟩
set_option maxRecDepth 100000 in
set_option maxHeartbeats 4000000 in
theorem Qsz(s0 s1 t0 t1:ByteArray)(px py qx qy:Rat)(w:World)(hg:Glob w)(h0:s0.size<=1048576)(h1:s1.size<=1048576)(h2:t0.size<=1048576)(h3:t1.size<=1048576)
 (q0:QOf s0.data.toList px) (q1:QOf s1.data.toList py) (q2:QOf t0.data.toList qx) (q3:QOf t1.data.toList qy):
 Calls Tryz.prog 117 #[.agg #[.string s0,.string s1],.agg #[.string t0,.string t1]] w fun e w'=>e=.returned (.bool (decide (px=qx/\py=qy)))/\Below w.heap.size w w':=by
 by_cases hx:px=qx
 ·
  have HXE:=Hi hx;by_cases hy:py=qy
  ·
   have HYE:=Hi hy;rw[decide_eq_true ⟨hx,hy⟩];clear hx hy;have HG:=Hi hg;have Q0:=Hi q0;have Q1:=Hi q1;have Q2:=Hi q2;have Q3:=Hi q3;clear hg q0 q1 q2 q3;go_enter Tryz.func117,Tryz.ntmps117;go_wp2_with fail;obtain⟨W,hW⟩:=nm ((w.alloc (.cells #[.string s0,.string s1] 42)).alloc (.cells #[.string t0,.string t1] 42));have HB0:Hid (Below w.heap.size w W):=Hi (by rw[<-hW];exact Below.new2 w _ _);have HS0:Hid (SB W w.heap.size 42 #[.string s0,.string s1]):=Hi (by rw[<-hW];exact(SB.new w _ _).alloc _);have HS1:Hid (SB W (w.heap.size+1) 42 #[.string t0,.string t1]):=Hi (by rw[<-hW];exact SB.new2 w _ _ _ _);rw[hW];have HR:=Hi (FBag.start (HG.out.below HB0.out));clear hW;have hs0:=HS0.out.below HR.out.base HS0.out.lt;have hs1:=HS1.out.below HR.out.base HS1.out.lt;obtain⟨k0,k1,-⟩:=zc hs0
   obtain⟨k2,k3,-⟩:=zc hs1;clear hs0 hs1
   first
    |(
     go_region_held3 (fun v=>v.cell? ⟨w.heap.size,0,none⟩=some (.string s0)/\v.cell? ⟨w.heap.size,1,none⟩=some (.string s1)/\v.cell? ⟨w.heap.size+1,0,none⟩=some (.string t0)/\v.cell? ⟨w.heap.size+1,1,none⟩=some (.string t1)) ((first|(simp [*];done)|go_keep)) (first
      |
       (go_at_call_of 51 (Value.string s0)
        apply cM;apply FBag.of (w0:=W) (n:=1048576);(focus(first|exact HR.out|exact HR.out.drew));assumption;decide;rintro e wn ⟨qq,hq,x1,x2,x3,rfl,hbag⟩;obtain rfl:=Q0.out.inj hq;clear HR;have HR:=Hi hbag;clear hq hbag;have hs0:=HS0.out.below HR.out.base HS0.out.lt;have hs1:=HS1.out.below HR.out.base HS1.out.lt;obtain⟨k0,k1,-⟩:=zc hs0;obtain⟨k2,k3,-⟩:=zc hs1;clear hs0 hs1
        skip)
      |
       (go_at_call_of 51 (Value.string s1)
        apply cM;apply FBag.of (w0:=W) (n:=1048576);(focus(first|exact HR.out|exact HR.out.drew));assumption;decide;rintro e wn ⟨qq,hq,x1,x2,x3,rfl,hbag⟩;obtain rfl:=Q1.out.inj hq;clear HR;have HR:=Hi hbag;clear hq hbag;have hs0:=HS0.out.below HR.out.base HS0.out.lt;have hs1:=HS1.out.below HR.out.base HS1.out.lt;obtain⟨k0,k1,-⟩:=zc hs0;obtain⟨k2,k3,-⟩:=zc hs1;clear hs0 hs1
        skip)
      |
       (go_at_call_of 51 (Value.string t0)
        apply cM;apply FBag.of (w0:=W) (n:=1048576);(focus(first|exact HR.out|exact HR.out.drew));assumption;decide;rintro e wn ⟨qq,hq,x1,x2,x3,rfl,hbag⟩;obtain rfl:=Q2.out.inj hq;clear HR;have HR:=Hi hbag;clear hq hbag;have hs0:=HS0.out.below HR.out.base HS0.out.lt;have hs1:=HS1.out.below HR.out.base HS1.out.lt;obtain⟨k0,k1,-⟩:=zc hs0;obtain⟨k2,k3,-⟩:=zc hs1;clear hs0 hs1
        skip)
      |
       (go_at_call_of 51 (Value.string t1)
        apply cM;apply FBag.of (w0:=W) (n:=1048576);(focus(first|exact HR.out|exact HR.out.drew));assumption;decide;rintro e wn ⟨qq,hq,x1,x2,x3,rfl,hbag⟩;obtain rfl:=Q3.out.inj hq;clear HR;have HR:=Hi hbag;clear hq hbag;have hs0:=HS0.out.below HR.out.base HS0.out.lt;have hs1:=HS1.out.below HR.out.base HS1.out.lt;obtain⟨k0,k1,-⟩:=zc hs0;obtain⟨k2,k3,-⟩:=zc hs1;clear hs0 hs1
        skip)
      |
       (go_at_call 155
        apply cM;apply FBag.equalT (w0:=W);(focus(first|exact HR.out|exact HR.out.drew));(focus(repeat(first|exact List.Mem.head _|apply List.Mem.tail)));(focus(repeat(first|exact List.Mem.head _|apply List.Mem.tail)));exact HXE.out;rintro e wn ⟨rfl,hbag⟩;clear HR;have HR:=Hi hbag;clear hbag;have hs0:=HS0.out.below HR.out.base HS0.out.lt;have hs1:=HS1.out.below HR.out.base HS1.out.lt;obtain⟨k0,k1,-⟩:=zc hs0;obtain⟨k2,k3,-⟩:=zc hs1;clear hs0 hs1
        skip)
      |
       (go_at_call 155
        apply cM;apply FBag.equalT (w0:=W);(focus(first|exact HR.out|exact HR.out.drew));(focus(repeat(first|exact List.Mem.head _|apply List.Mem.tail)));(focus(repeat(first|exact List.Mem.head _|apply List.Mem.tail)));exact HYE.out;rintro e wn ⟨rfl,hbag⟩;clear HR;have HR:=Hi hbag;clear hbag;have hs0:=HS0.out.below HR.out.base HS0.out.lt;have hs1:=HS1.out.below HR.out.base HS1.out.lt;obtain⟨k0,k1,-⟩:=zc hs0;obtain⟨k2,k3,-⟩:=zc hs1;clear hs0 hs1
        skip)
      ))
    |fail
   all_goals
    go_wp2;go_ret;exact⟨rfl,HB0.out.trans (HR.out.base.mono HB0.out.size)⟩
  ·
   have HYE:=Hi hy;rw[decide_eq_false (fun h=>hy h.2)];clear hx hy;have HG:=Hi hg;have Q0:=Hi q0;have Q1:=Hi q1;have Q2:=Hi q2;have Q3:=Hi q3;clear hg q0 q1 q2 q3;go_enter Tryz.func117,Tryz.ntmps117;go_wp2_with fail;obtain⟨W,hW⟩:=nm ((w.alloc (.cells #[.string s0,.string s1] 42)).alloc (.cells #[.string t0,.string t1] 42));have HB0:Hid (Below w.heap.size w W):=Hi (by rw[<-hW];exact Below.new2 w _ _);have HS0:Hid (SB W w.heap.size 42 #[.string s0,.string s1]):=Hi (by rw[<-hW];exact(SB.new w _ _).alloc _);have HS1:Hid (SB W (w.heap.size+1) 42 #[.string t0,.string t1]):=Hi (by rw[<-hW];exact SB.new2 w _ _ _ _);rw[hW];have HR:=Hi (FBag.start (HG.out.below HB0.out));clear hW;have hs0:=HS0.out.below HR.out.base HS0.out.lt;have hs1:=HS1.out.below HR.out.base HS1.out.lt;obtain⟨k0,-⟩:=zc hs0
   obtain⟨-,k1,-⟩:=zc hs0;obtain⟨k2,k3,-⟩:=zc hs1;clear hs0 hs1
   first
    |(
     go_region_held3 (fun v=>v.cell? ⟨w.heap.size,0,none⟩=some (.string s0)/\v.cell? ⟨w.heap.size,1,none⟩=some (.string s1)/\v.cell? ⟨w.heap.size+1,0,none⟩=some (.string t0)/\v.cell? ⟨w.heap.size+1,1,none⟩=some (.string t1)) ((first|(simp [*];done)|go_keep)) (first
      |
       (go_at_call_of 51 (Value.string s0)
        apply cM;apply FBag.of (w0:=W) (n:=1048576);(focus(first|exact HR.out|exact HR.out.drew));assumption;decide;rintro e wn ⟨qq,hq,x1,x2,x3,rfl,hbag⟩;obtain rfl:=Q0.out.inj hq;clear HR;have HR:=Hi hbag;clear hq hbag;have hs0:=HS0.out.below HR.out.base HS0.out.lt;have hs1:=HS1.out.below HR.out.base HS1.out.lt;obtain⟨k0,k1,-⟩:=zc hs0;obtain⟨k2,k3,-⟩:=zc hs1;clear hs0 hs1
        skip)
      |
       (go_at_call_of 51 (Value.string s1)
        apply cM;apply FBag.of (w0:=W) (n:=1048576);(focus(first|exact HR.out|exact HR.out.drew));assumption;decide;rintro e wn ⟨qq,hq,x1,x2,x3,rfl,hbag⟩;obtain rfl:=Q1.out.inj hq;clear HR;have HR:=Hi hbag;clear hq hbag;have hs0:=HS0.out.below HR.out.base HS0.out.lt;have hs1:=HS1.out.below HR.out.base HS1.out.lt;obtain⟨k0,k1,-⟩:=zc hs0;obtain⟨k2,k3,-⟩:=zc hs1;clear hs0 hs1
        skip)
      |
       (go_at_call_of 51 (Value.string t0)
        apply cM;apply FBag.of (w0:=W) (n:=1048576);(focus(first|exact HR.out|exact HR.out.drew));assumption;decide;rintro e wn ⟨qq,hq,x1,x2,x3,rfl,hbag⟩;obtain rfl:=Q2.out.inj hq;clear HR;have HR:=Hi hbag;clear hq hbag;have hs0:=HS0.out.below HR.out.base HS0.out.lt;have hs1:=HS1.out.below HR.out.base HS1.out.lt;obtain⟨k0,k1,-⟩:=zc hs0;obtain⟨k2,k3,-⟩:=zc hs1;clear hs0 hs1
        skip)
      |
       (go_at_call_of 51 (Value.string t1)
        apply cM;apply FBag.of (w0:=W) (n:=1048576);(focus(first|exact HR.out|exact HR.out.drew));assumption;decide;rintro e wn ⟨qq,hq,x1,x2,x3,rfl,hbag⟩;obtain rfl:=Q3.out.inj hq;clear HR;have HR:=Hi hbag;clear hq hbag;have hs0:=HS0.out.below HR.out.base HS0.out.lt;have hs1:=HS1.out.below HR.out.base HS1.out.lt;obtain⟨k0,k1,-⟩:=zc hs0;obtain⟨k2,k3,-⟩:=zc hs1;clear hs0 hs1
        skip)
      |
       (go_at_call 155
        apply cM;apply FBag.equalT (w0:=W);(focus(first|exact HR.out|exact HR.out.drew));(focus(repeat(first|exact List.Mem.head _|apply List.Mem.tail)));(focus(repeat(first|exact List.Mem.head _|apply List.Mem.tail)));exact HXE.out;rintro e wn ⟨rfl,hbag⟩;clear HR;have HR:=Hi hbag;clear hbag;have hs0:=HS0.out.below HR.out.base HS0.out.lt;have hs1:=HS1.out.below HR.out.base HS1.out.lt;obtain⟨k0,k1,-⟩:=zc hs0;obtain⟨k2,k3,-⟩:=zc hs1;clear hs0 hs1
        skip)
      |
       (go_at_call 155
        apply cM;apply FBag.equalF (w0:=W);(focus(first|exact HR.out|exact HR.out.drew));(focus(repeat(first|exact List.Mem.head _|apply List.Mem.tail)));(focus(repeat(first|exact List.Mem.head _|apply List.Mem.tail)));exact HYE.out;rintro e wn ⟨rfl,hbag⟩;clear HR;have HR:=Hi hbag;clear hbag;have hs0:=HS0.out.below HR.out.base HS0.out.lt;have hs1:=HS1.out.below HR.out.base HS1.out.lt;obtain⟨k0,k1,-⟩:=zc hs0;obtain⟨k2,k3,-⟩:=zc hs1;clear hs0 hs1
        skip)
      ))
    |fail
   all_goals
    go_wp2;go_ret;exact⟨rfl,HB0.out.trans (HR.out.base.mono HB0.out.size)⟩
 ·
  have HXE:=Hi hx;rw[decide_eq_false (fun h=>hx h.1)];clear hx;have HG:=Hi hg;have Q0:=Hi q0;have Q1:=Hi q1;have Q2:=Hi q2;have Q3:=Hi q3;clear hg q0 q1 q2 q3;go_enter Tryz.func117,Tryz.ntmps117;go_wp2_with fail;obtain⟨W,hW⟩:=nm ((w.alloc (.cells #[.string s0,.string s1] 42)).alloc (.cells #[.string t0,.string t1] 42));have HB0:Hid (Below w.heap.size w W):=Hi (by rw[<-hW];exact Below.new2 w _ _);have HS0:Hid (SB W w.heap.size 42 #[.string s0,.string s1]):=Hi (by rw[<-hW];exact(SB.new w _ _).alloc _);have HS1:Hid (SB W (w.heap.size+1) 42 #[.string t0,.string t1]):=Hi (by rw[<-hW];exact SB.new2 w _ _ _ _);rw[hW];have HR:=Hi (FBag.start (HG.out.below HB0.out));clear hW;have hs0:=HS0.out.below HR.out.base HS0.out.lt;have hs1:=HS1.out.below HR.out.base HS1.out.lt;obtain⟨k0,-⟩:=zc hs0
  obtain⟨-,k1,-⟩:=zc hs0;obtain⟨k2,k3,-⟩:=zc hs1;clear hs0 hs1
  first
   |(
    go_region_with (first
     |
      (go_at_call_of 51 (Value.string s0)
       apply cM;apply FBag.of (w0:=W) (n:=1048576);(focus(first|exact HR.out|exact HR.out.drew));assumption;decide;rintro e wn ⟨qq,hq,x1,x2,x3,rfl,hbag⟩;obtain rfl:=Q0.out.inj hq;clear HR;have HR:=Hi hbag;clear hq hbag;have hs0:=HS0.out.below HR.out.base HS0.out.lt;have hs1:=HS1.out.below HR.out.base HS1.out.lt;obtain⟨k0,k1,-⟩:=zc hs0;obtain⟨k2,k3,-⟩:=zc hs1;clear hs0 hs1
       skip)
     |
      (go_at_call_of 51 (Value.string s1)
       apply cM;apply FBag.of (w0:=W) (n:=1048576);(focus(first|exact HR.out|exact HR.out.drew));assumption;decide;rintro e wn ⟨qq,hq,x1,x2,x3,rfl,hbag⟩;obtain rfl:=Q1.out.inj hq;clear HR;have HR:=Hi hbag;clear hq hbag;have hs0:=HS0.out.below HR.out.base HS0.out.lt;have hs1:=HS1.out.below HR.out.base HS1.out.lt;obtain⟨k0,k1,-⟩:=zc hs0;obtain⟨k2,k3,-⟩:=zc hs1;clear hs0 hs1
       skip)
     |
      (go_at_call_of 51 (Value.string t0)
       apply cM;apply FBag.of (w0:=W) (n:=1048576);(focus(first|exact HR.out|exact HR.out.drew));assumption;decide;rintro e wn ⟨qq,hq,x1,x2,x3,rfl,hbag⟩;obtain rfl:=Q2.out.inj hq;clear HR;have HR:=Hi hbag;clear hq hbag;have hs0:=HS0.out.below HR.out.base HS0.out.lt;have hs1:=HS1.out.below HR.out.base HS1.out.lt;obtain⟨k0,k1,-⟩:=zc hs0;obtain⟨k2,k3,-⟩:=zc hs1;clear hs0 hs1
       skip)
     |
      (go_at_call_of 51 (Value.string t1)
       apply cM;apply FBag.of (w0:=W) (n:=1048576);(focus(first|exact HR.out|exact HR.out.drew));assumption;decide;rintro e wn ⟨qq,hq,x1,x2,x3,rfl,hbag⟩;obtain rfl:=Q3.out.inj hq;clear HR;have HR:=Hi hbag;clear hq hbag;have hs0:=HS0.out.below HR.out.base HS0.out.lt;have hs1:=HS1.out.below HR.out.base HS1.out.lt;obtain⟨k0,k1,-⟩:=zc hs0;obtain⟨k2,k3,-⟩:=zc hs1;clear hs0 hs1
       skip)
     |
      (go_at_call 155
       apply cM;apply FBag.equalF (w0:=W);(focus(first|exact HR.out|exact HR.out.drew));(focus(repeat(first|exact List.Mem.head _|apply List.Mem.tail)));(focus(repeat(first|exact List.Mem.head _|apply List.Mem.tail)));exact HXE.out;rintro e wn ⟨rfl,hbag⟩;clear HR;have HR:=Hi hbag;clear hbag;have hs0:=HS0.out.below HR.out.base HS0.out.lt;have hs1:=HS1.out.below HR.out.base HS1.out.lt;obtain⟨k0,k1,-⟩:=zc hs0;obtain⟨k2,k3,-⟩:=zc hs1;clear hs0 hs1
       skip)
     ))
   |fail
  all_goals
   go_wp2;go_ret;exact⟨rfl,HB0.out.trans (HR.out.base.mono HB0.out.size)⟩
def BarVal(p q:S2)(b:B6)(c:Int):Prop:=
 ∃px py qx qy vc vl vm,QOf p.x.data.toList px/\QOf p.y.data.toList py/\QOf q.x.data.toList qx/\QOf q.y.data.toList qy/\QOf b.c.data.toList vc/\QOf b.l.data.toList vl/\QOf b.m.data.toList vm/\
  c=if px=qx/\py=qy then 5 else if sgn3 vc.num<=0∨0<sgn3 vl.num∨sgn3 vm.num<0 then 5 else 0
def BarCode(js:List S2)(b:B6)(c:Int):Prop:=
 (¬(IsJ js.length b.a/\IsJ js.length b.b)/\c=4)∨
 (IsJ js.length b.a/\IsJ js.length b.b/\∃p q,js[b.a.toNat]?=some p/\js[b.b.toNat]?=some q/\BarVal p q b c)
theorem BarVal.inj{p q:S2}{b:B6}{c d:Int}(h:BarVal p q b c)(k:BarVal p q b d):c=d:=by
 obtain⟨px,py,qx,qy,vc,vl,vm,h1,h2,h3,h4,h5,h6,h7,rfl⟩:=h;obtain⟨px',py',qx',qy',vc',vl',vm',k1,k2,k3,k4,k5,k6,k7,rfl⟩:=k;obtain rfl:=h1.inj k1;obtain rfl:=h2.inj k2;obtain rfl:=h3.inj k3;obtain rfl:=h4.inj k4;obtain rfl:=h5.inj k5;obtain rfl:=h6.inj k6;obtain rfl:=h7.inj k7;rfl
theorem BarCode.inj{js:List S2}{b:B6}{c d:Int}(h:BarCode js b c)(k:BarCode js b d):c=d:=by
 rcases h with ⟨h1,rfl⟩|⟨h1,h2,p,q,hp,hq,hv⟩
 ·
  rcases k with ⟨_,rfl⟩|⟨k1,k2,_⟩
  · rfl
  · exact absurd ⟨k1,k2⟩ h1
 ·
  rcases k with ⟨k1,_⟩|⟨_,_,p',q',hp',hq',kv⟩
  · exact absurd ⟨h1,h2⟩ k1
  ·
   rw[hp] at hp';rw[hq] at hq';cases hp';cases hq';exact hv.inj kv
structure FrSized (js:List S2) (bs:List B6) (hs:List H3):Prop where
 j:∀p,p∈ js->p.x.size<=1048576/\p.y.size<=1048576
 b:∀b,b∈ bs->b.c.size<=1048576/\b.e.size<=1048576/\b.l.size<=1048576/\b.m.size<=1048576
 h:∀x,x∈ hs->x.q.size<=1048576
set_option maxRecDepth 100000 in
set_option maxHeartbeats 2000000 in
theorem Qs0(a:Option Addr)(n cap:Nat)(ba bb:Int)(bc be bl bm:ByteArray)(w:World)(hj:¬(IsJ n ba/\IsJ n bb)):
 Calls Tryz.prog 82 #[.slice a n cap,.agg #[.int .i64 ba,.int .i64 bb,.string bc,.string be,.string bl,.string bm]] w fun e w'=>e=.returned (.int .i64 4)/\Below w.heap.size w w':=by
 rcases(show IsJ n ba/\¬IsJ n bb∨¬IsJ n ba from Classical.byCases (fun h:IsJ n ba=>.inl ⟨h,fun k=>hj ⟨h,k⟩⟩) .inr) with ⟨h1,h2⟩|h1
 all_goals
  have H1:=Hi h1
  try have H2:=Hi h2
  try clear h2
  clear h1 hj;go_enter Tryz.func82,Tryz.ntmps82;obtain⟨W,hW⟩:=nm (w.alloc (.cells #[.int .i64 ba,.int .i64 bb,.string bc,.string be,.string bl,.string bm] 47));have HB0:Hid (Below w.heap.size w W):=Hi (by rw[<-hW];exact(Below.refl _ _).alloc lZ _);have HS0:Hid (SB W w.heap.size 47 #[.int .i64 ba,.int .i64 bb,.string bc,.string be,.string bl,.string bm]):=Hi (by rw[<-hW];exact SB.new w _ _);have HR:Hid (Below W.heap.size W W):=Hi bR;have hs0:=HS0.out.below HR.out HS0.out.lt;obtain⟨k0,k1,k2,k3,k4,-⟩:=zc hs0
  obtain⟨-,-,-,-,-,k5,-⟩:=zc hs0;clear hs0;rw[<-hW] at k0 k1 k2 k3 k4 k5;have HW:=Hi hW;clear hW;go_wp2_with fail
  first
   |(
    go_fit (Qa5 a n cap ba _ H1.out);rintro e w1 ⟨rfl,rfl⟩;go_wp2_with fail
    go_fit (Qed a n cap bb _ H2.out))
   |go_fit (Qed a n cap ba _ H1.out)
  rintro e w2 ⟨rfl,rfl⟩;go_wp2;go_ret;exact⟨rfl,by rw[HW.out];exact HB0.out⟩
set_option maxRecDepth 100000 in
set_option maxHeartbeats 4000000 in
theorem Qs1(a:Option Addr)(cap ka kb:Nat)(js:List S2)(p q:S2)(bc be bl bm:ByteArray)(px py qx qy vc vl vm:Rat)(w:World)(hg:Glob w)(hj:ARow S2.cells w a cap js)(hp:js[ka]?=some p)(hq:js[kb]?=some q)
 (z1:p.x.size<=1048576/\p.y.size<=1048576) (z2:q.x.size<=1048576/\q.y.size<=1048576) (z3:bc.size<=1048576/\bl.size<=1048576/\bm.size<=1048576)
 (q1:QOf p.x.data.toList px) (q2:QOf p.y.data.toList py) (q3:QOf q.x.data.toList qx) (q4:QOf q.y.data.toList qy) (q5:QOf bc.data.toList vc) (q6:QOf bl.data.toList vl) (q7:QOf bm.data.toList vm):
 Calls Tryz.prog 82 #[.slice a js.length cap,.agg #[.int .i64 ka,.int .i64 kb,.string bc,.string be,.string bl,.string bm]] w fun e w'=>e=.returned (.int .i64 (if px=qx/\py=qy then 5 else if sgn3 vc.num<=0∨0<sgn3 vl.num∨sgn3 vm.num<0 then 5 else 0))/\Below w.heap.size w w':=by
 have Z3:=Hi z3;clear z3;obtain⟨sc,hsc⟩:=nm (sgn3 vc.num);obtain⟨sl,hsl⟩:=nm (sgn3 vl.num);obtain⟨sm,hsm⟩:=nm (sgn3 vm.num);rw[hsc,hsl,hsm];have SC:=Hi hsc;have SL:=Hi hsl;have SM:=Hi hsm;clear hsc hsl hsm;have gg:∀v:Int,(if px=qx/\py=qy then 5 else if sc<=0∨0<sl∨sm<0 then 5 else 0)=v->decide (px=qx/\py=qy)=true/\v=5∨decide (px=qx/\py=qy)=false/\(sc<=0/\v=5∨¬sc<=0/\0<sl/\v=5∨¬sc<=0/\¬0<sl/\sm<0/\v=5∨¬sc<=0/\¬0<sl/\¬sm<0/\v=0):=by
  intro v hv;by_cases hpl:px=qx/\py=qy
  · rw[if_pos hpl] at hv
    exact .inl ⟨decide_eq_true hpl,hv.symm⟩
  ·
   rw[if_neg hpl] at hv;refine .inr ⟨decide_eq_false hpl,?_⟩
   split at hv<;>omega
 rcases gg _ rfl with ⟨hd,e⟩|⟨hd,⟨c1,e⟩|⟨c1,c2,e⟩|⟨c1,c2,c3,e⟩|⟨c1,c2,c3,e⟩⟩
 all_goals
  rw[e];have HD:=Hi hd;clear hd e gg;have HG:=Hi hg;have HJ:=Hi hj;have HP:=Hi hp;have HQ:=Hi hq;have Z1:=Hi z1;have Z2:=Hi z2;have Q1:=Hi q1;have Q2:=Hi q2;have Q3:=Hi q3;have Q4:=Hi q4;have Q5:=Hi q5;have Q6:=Hi q6;have Q7:=Hi q7;have i1:((0:Int)<=(ka:Int)):=by omega
  have i2:((0:Int)<=(kb:Int)):=by omega
  have i3:((ka:Int)<(js.length:Int)):=by have:=(gZ hp).1;omega
  have i4:((kb:Int)<(js.length:Int)):=by have:=(gZ hq).1;omega
  clear hg hj hp hq z1 z2 q1 q2 q3 q4 q5 q6 q7;go_enter Tryz.func82,Tryz.ntmps82;obtain⟨W,hW⟩:=nm (w.alloc (.cells #[.int .i64 (ka:Int),.int .i64 (kb:Int),.string bc,.string be,.string bl,.string bm] 47));have HB0:Hid (Below w.heap.size w W):=Hi (by rw[<-hW];exact(Below.refl _ _).alloc lZ _);have HS0:Hid (SB W w.heap.size 47 #[.int .i64 (ka:Int),.int .i64 (kb:Int),.string bc,.string be,.string bl,.string bm]):=Hi (by rw[<-hW];exact SB.new w _ _);have HR:Hid (Below W.heap.size W W):=Hi bR;have hs0:=HS0.out.below HR.out HS0.out.lt;obtain⟨k0,k1,k2,k3,-⟩:=zc hs0
  obtain⟨-,-,-,-,k4,k5,-⟩:=zc hs0;clear hs0;obtain⟨b1,o1,ha,l1,d0,d1⟩:=(HJ.out.below HB0.out).spot HP.out;obtain⟨b2,o2,ha2,l2,d2,d3⟩:=(HJ.out.below HB0.out).spot HQ.out;subst ha;cases ha2;rw[<-hW] at k0 k1 k2 k3 k4 k5 d0 d1 d2 d3;have HW:=Hi hW;clear hW;go_wp2_with fail;go_fit (Qa5 _ js.length cap ka _ ⟨i1,i3⟩);rintro e w1 ⟨rfl,rfl⟩;go_wp2_with fail;go_fit (Qa5 _ js.length cap kb _ ⟨i2,i4⟩);rintro e w2 ⟨rfl,rfl⟩;go_wp2_with fail;rw[HW.out];rw[HW.out] at k0 k1 k2 k3 k4 k5 d0 d1 d2 d3
  go_region_held3 (fun v=>v.cell? ⟨w.heap.size,0,none⟩=some (.int .i64 ka)/\v.cell? ⟨w.heap.size,1,none⟩=some (.int .i64 kb)/\v.cell? ⟨b1,o1+ka*2,none⟩=some (.string p.x)/\v.cell? ⟨b1,o1+ka*2+1,none⟩=some (.string p.y)/\v.cell? ⟨b1,o1+kb*2,none⟩=some (.string q.x)/\v.cell? ⟨b1,o1+kb*2+1,none⟩=some (.string q.y)) ((first|(simp [*];done)|go_keep)) (first
   |(
    go_at_call 117;apply cM;apply Qsz p.x p.y q.x q.y px py qx qy;(first|exact HG.out.below HB0.out|exact HG.out.below HB0.out.drew);exact Z1.out.1;exact Z1.out.2;exact Z2.out.1;exact Z2.out.2;exact Q1.out;exact Q2.out;exact Q3.out;exact Q4.out;rintro e wn ⟨rfl,hbn⟩;rw[HD.out];have HN:Hid (Below W.heap.size W wn):=Hi ((bR.drew).trans hbn);have HJN:=Hi ((HJ.out.below HB0.out).below HN.out);obtain⟨b3,o3,ha3,l3,d0,d1⟩:=HJN.out.spot HP.out;obtain⟨b4,o4,ha4,l4,d2,d3⟩:=HJN.out.spot HQ.out;cases ha3;cases ha4;have hs0:=HS0.out.below HN.out HS0.out.lt;obtain⟨k0,k1,k2,k3,-⟩:=zc hs0
    obtain⟨-,-,-,-,k4,k5,-⟩:=zc hs0;clear hs0
    clear hbn)
   )
  have HF:=Hi (FBag.start ((HG.out.below HB0.out).below HN.out));go_wp2_with (first
   |
    (go_at_call_of 51 (Value.string bc)
     apply cM;apply FBag.of (w0:=wn) (n:=1048576);(focus(first|exact HF.out|exact HF.out.drew));exact Z3.out.1;decide;rintro e wm ⟨qq,hq,x1,x2,x3,rfl,hbag⟩;obtain rfl:=Q5.out.inj hq;clear HF;have HF:=Hi hbag;clear hq hbag;have HM:=Hi (HN.out.trans (HF.out.base.mono HN.out.size));have hs0:=HS0.out.below HM.out HS0.out.lt;obtain⟨k0,k1,k2,k3,k4,k5,-⟩:=zc hs0;clear hs0
     clear HM)
   |
    (go_at_call_of 51 (Value.string bl)
     apply cM;apply FBag.of (w0:=wn) (n:=1048576);(focus(first|exact HF.out|exact HF.out.drew));exact Z3.out.2.1;decide;rintro e wm ⟨qq,hq,x1,x2,x3,rfl,hbag⟩;obtain rfl:=Q6.out.inj hq;clear HF;have HF:=Hi hbag;clear hq hbag;have HM:=Hi (HN.out.trans (HF.out.base.mono HN.out.size));have hs0:=HS0.out.below HM.out HS0.out.lt;obtain⟨k0,k1,k2,k3,k4,k5,-⟩:=zc hs0;clear hs0
     clear HM)
   |
    (go_at_call_of 51 (Value.string bm)
     apply cM;apply FBag.of (w0:=wn) (n:=1048576);(focus(first|exact HF.out|exact HF.out.drew));exact Z3.out.2.2;decide;rintro e wm ⟨qq,hq,x1,x2,x3,rfl,hbag⟩;obtain rfl:=Q7.out.inj hq;clear HF;have HF:=Hi hbag;clear hq hbag;have HM:=Hi (HN.out.trans (HF.out.base.mono HN.out.size));have hs0:=HS0.out.below HM.out HS0.out.lt;obtain⟨k0,k1,k2,k3,k4,k5,-⟩:=zc hs0;clear hs0
     clear HM)
   |
    (go_at_call 77
     apply cM;apply FBag.sign (w0:=wn);(focus(first|exact HF.out|exact HF.out.drew));(focus(repeat(first|exact List.Mem.head _|apply List.Mem.tail)));rintro e wm ⟨rfl,hbag⟩;(first|rw[SC.out]|rw[SL.out]|rw[SM.out]);clear HF;have HF:=Hi hbag;clear hbag;have HM:=Hi (HN.out.trans (HF.out.base.mono HN.out.size));have hs0:=HS0.out.below HM.out HS0.out.lt;obtain⟨k0,k1,k2,k3,k4,k5,-⟩:=zc hs0;clear hs0
     clear HM)
   |fail)
  go_ret;exact⟨rfl,HB0.out.trans ((HN.out.trans (HF.out.base.mono HN.out.size)).mono HB0.out.size)⟩
end Go.Proofs.YtfpcipgoedifaaaGreatDoor
namespace Go.Proofs.YtfpcipgoedifaaaGreatDoor
open Go.RowKit Go.MapKept
set_option linter.unusedVariables false
set_option linter.unusedSimpArgs false
abbrev pairV(p:Int × Int):Value:=.agg #[.int .i64 p.1,.int .i64 p.2]
theorem Qiy:(Tryz.prog.info? 3).map (fun i=>(i.zero,i.size,i.bytes))=some (some (.int .i64 0),1,8):=by kernel_rfl
theorem Qiz:Tryz.prog.plainKey 3=true:=by kernel_rfl
theorem cellsInt:Tryz.prog.cellsOf 3=1:=by kernel_rfl
theorem Qps(b:Bool)(n:Nat)(p:Int × Int)(w:World):(Instr.checkKey b (n+2) 163 (pairV p)).run Tryz.prog w=.ok () w:=by
 obtain⟨i,hi,h⟩:=Option.map_eq_some_iff.1 Qiy;simp only[Prod.mk.injEq] at h;obtain⟨hz,hs,hb⟩:=h;have hstep:∀(v:Int) (w:World),(Instr.checkKey b (n+1) 3 (.int .i64 v)).run Tryz.prog w=.ok () w:=fun v w=>Go.MapKept.run_checkKey (k:=.int .i64 v) Tryz.underlying3 (by simp[IsKey]) b n
 have hpart:∀(j:Nat) (v:Value) (w:World),#[Value.int .i64 p.1,.int .i64 p.2][j]?=some v->(part 3 #[.int .i64 p.1,.int .i64 p.2] j).run Tryz.prog w=.ok v w:=fun j v w hj=>run_part_plain w Qiz hj
 simp only[Instr.checkKey,Sem.run_bind,run_underlying Tryz.underlying163,Result.andThen_ok];simp only[Std.Legacy.Range.forIn_eq_forIn_range',Std.Legacy.Range.size];simp[List.range',run_sizeOf _ hi,hs,hstep,cellsInt,hpart 0 _ _ rfl,hpart 1 _ _ rfl]
theorem Qfj(b:Bool)(p:Int × Int)(w:World):(Instr.checkKey b 10000 163 (pairV p)).run Tryz.prog w=.ok () w:=Qps b 9998 p w
theorem Qpt(n:Nat)(p q:Int × Int)(w:World):(Op.equalIn (n+2) 163 (pairV p) (pairV q)).run Tryz.prog w=.ok (decide (p=q)) w:=by
 obtain⟨i,hi,h⟩:=Option.map_eq_some_iff.1 Qiy;rw[run_equalIn_array w (n+1) _ _ Tryz.underlying163 hi];have hpart:∀(r:Int × Int) (j:Nat) (v:Value) (w:World),#[Value.int .i64 r.1,.int .i64 r.2][j]?=some v->(part 3 #[.int .i64 r.1,.int .i64 r.2] j).run Tryz.prog w=.ok v w:=fun r j v w hj=>run_part_plain w Qiz hj
 have hint:∀(x y:Int) (w:World),(Op.equalIn (n+1) 3 (.int .i64 x) (.int .i64 y)).run Tryz.prog w=.ok (x == y) w:=by
  intro x y w;simp[Op.equalIn,run_underlying Tryz.underlying3]
 simp[List.range,List.range.loop,Op.eqItems,cellsInt,hpart p 0 _ _ rfl,hpart p 1 _ _ rfl,hpart q 0 _ _ rfl,hpart q 1 _ _ rfl,hint];obtain⟨p1,p2⟩:=p;obtain⟨q1,q2⟩:=q;by_cases h1:p1=q1
 ·
  by_cases h2:p2=q2
  · simp[h1,h2]
  · simp[h1,h2]
 · simp[h1]
theorem Qi0(p q:Int × Int)(w:World):(Op.equal 163 (pairV p) (pairV q)).run Tryz.prog w=.ok (decide (p=q)) w:=Qpt 9998 p q w
def PairSet(es:Array MapEntry)(ps:List (Int × Int)):Prop:=es.toList.map (fun e=>(e.key,e.val))=ps.map fun p=>(pairV p,Value.agg #[])
theorem Qfk(p:Int × Int)(w:World):∀(es:List MapEntry) (ps:List (Int × Int)) (k:Nat),es.map (fun e=>(e.key,e.val))=ps.map (fun p=>(pairV p,Value.agg #[]))->
 ∃r:Option (Nat × Value),(Instr.findAsking 163 (pairV p) es k).run Tryz.prog w=.ok r w/\(p∈ ps->∃j,r=some (j,.agg #[]))/\(p ∉ ps->r=none)
 | [],ps,k,h=>by
   have:ps= []:=by simpa using h.symm
   subst this;exact⟨none,by simp[Instr.findAsking],by simp,fun _=>rfl⟩
 |e :: es,[],k,h=>by simp at h
 |e :: es,q :: ps,k,h=>by
  simp only[List.map_cons,List.cons.injEq,Prod.mk.injEq] at h;obtain⟨⟨hk,hv⟩,ht⟩:=h;by_cases hpq:p=q
  · exact⟨some (k,.agg #[]),by simp[Instr.findAsking,hk,hv,Qi0,hpq],fun _=>⟨k,rfl⟩,fun hn=>absurd (by simp[hpq]) hn⟩
  ·
   obtain⟨r,h1,h2,h3⟩:=Qfk p w es ps (k+1) ht;refine⟨r,?_,fun hm=>h2 ?_,fun hn=>h3 ?_⟩
   · simp only[Instr.findAsking,hk,Sem.run_bind,Qi0,Result.andThen_ok,hpq,decide_false]
     simpa using h1
   ·
    rcases List.mem_cons.1 hm with h|h
    · exact absurd h hpq
    · exact h
   · intro hm
     exact hn (List.mem_cons_of_mem _ hm)
theorem Qpu:∀w,(zeroValue 164).run Tryz.prog w=.ok (.agg #[]) w:=Tryz.zeroValue164
theorem Qpv(r clock:Nat)(es:Array MapEntry)(ps:List (Int × Int))(p:Int × Int)(w:World)(hb:w.heap[r]?=some (.map es clock))(hs:PairSet es ps):
 (Instr.lookup 162 (.map (some r)) (pairV p) true).run Tryz.prog w=.ok (.tuple #[.agg #[],.bool (decide (p∈ ps))]) w:=by
 obtain⟨x,h1,h2,h3⟩:=Qfk p w es.toList ps 0 hs;have hf:(Instr.findKey 163 (pairV p) es.toList).run Tryz.prog w=.ok x w:=by
  rw[run_findKey_eq w (by rw[Tryz.underlying163])];exact h1
 by_cases hm:p∈ ps
 · obtain⟨j,rfl⟩:=h2 hm
   simp[Instr.lookup,run_underlying Tryz.underlying162,Go.MapKept.run_getObj_map hb,Qfj,hf,hm]
 · obtain rfl:=h3 hm
   simp[Instr.lookup,run_underlying Tryz.underlying162,Go.MapKept.run_getObj_map hb,Qfj,hf,hm,Qpu]
theorem Qpw(r clock:Nat)(es:Array MapEntry)(ps:List (Int × Int))(p:Int × Int)(w:World)(hb:w.heap[r]?=some (.map es clock))(hs:PairSet es ps)(hn:p ∉ ps):
 (Instr.mapUpdate 162 (.map (some r)) (pairV p) (.agg #[])).run Tryz.prog w=.ok () { w with heap:=w.heap.setIfInBounds r (.map (es.push { key:=pairV p,val:=.agg #[],born:=clock }) (clock+1)) }:=by
 obtain⟨x,h1,h2,h3⟩:=Qfk p w es.toList ps 0 hs;have hf:(Instr.findKey 163 (pairV p) es.toList).run Tryz.prog w=.ok x w:=by
  rw[run_findKey_eq w (by rw[Tryz.underlying163])];exact h1
 obtain rfl:=h3 hn;simp[Instr.mapUpdate,run_underlying Tryz.underlying162,Go.MapKept.run_getObj_map hb,Qfj,hf,Go.MapKept.run_setObj_map _ hb,Result.andThen]
end Go.Proofs.YtfpcipgoedifaaaGreatDoor
