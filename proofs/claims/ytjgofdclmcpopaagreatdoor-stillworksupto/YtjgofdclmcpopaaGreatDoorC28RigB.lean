import Derived.Test.YtjgofdclmcpopaaGreatDoorC27Kept
namespace Go.Proofs.YtjgofdclmcpopaaGreatDoor
open Go.RowKit
open Go.Proofs.Tryz
set_option linter.unusedSimpArgs false
set_option linter.unusedVariables false
set_option maxHeartbeats 8000000
set_option maxRecDepth 1000000
theorem Qsd{q:Rat}(h:¬q=0):sgn3 q.num=if q.num<0 then -1 else 1:=by
 have h1:q.num≠0:=fun hc=>h (Rat.num_eq_zero.1 hc)
 unfold sgn3;by_cases h2:q.num<0
 . rw[if_pos h2,if_pos h2]
 . rw[if_neg h2,if_neg h2,if_neg h1]
theorem Qse{v:Value}{q:Rat}{w:World}(hx:FracV w v q):Calls prog 182 #[v] w fun e w'=>e=.returned (.int .i64 (sgn3 q.num))/\Below w.heap.size w w':=by
 have HX:=Hi hx;obtain⟨neg,a,n,c,b,m,d,rfl,hx⟩:=hx;have HN:=Hi hx.neg;clear hx;go_enter func182,ntmps182;go_wp2_with fail;obtain⟨W,hW⟩:=nm (w.alloc (.cells #[.bool neg,.slice a n c,.slice b m d] 128));have HB0:=Ua hW;have HSB:=Uc hW;rw[hW];clear hW;go_fit (Qb5 (HX.o.below HB0.o));rintro e w1 ⟨rfl,hb1⟩;obtain⟨k0,-⟩:=zc (HSB.o.below hb1 HSB.o.lt);have HB1:=Hi (HB0.o.trans (hb1.mono HB0.o.size));clear hb1;by_cases h:q=0
 .
  have hd:decide (q=0)=true:=decide_eq_true h;rw[hd];go_wp2;go_ret;exact⟨by rw[h];rfl,HB1.o⟩
 .
  have hd:decide (q=0)=false:=decide_eq_false h;rw[hd];have e3:=Qsd h;by_cases h2:q.num<0
  .
   obtain rfl:neg=true:=by rw[HN.o];exact decide_eq_true h2
   rw[if_pos h2] at e3;have E3:=Hi e3;clear e3 HN;go_wp2;go_ret;exact⟨by rw[E3.o];rfl,HB1.o⟩
  .
   obtain rfl:neg=false:=by rw[HN.o];exact decide_eq_false h2
   rw[if_neg h2] at e3;have E3:=Hi e3;clear e3 HN;go_wp2;go_ret;exact⟨by rw[E3.o];rfl,HB1.o⟩
theorem FBag.sign{w0 w:World}{L:List FE}{x1 x2 x3:Value}{j:Nat}{p:Rat}(h:FBag w0 w L)(hx:⟨x1,x2,x3,p,j⟩∈ L):
 Calls prog 182 #[.agg #[x1,x2,x3]] w (fun e w'=>e=.returned (.int .i64 (sgn3 p.num))/\FBag w0 w' L):=by
 obtain⟨hx,fx,kx⟩:=h.get hx;refine(Qse hx).mono ?_;rintro e w' ⟨rfl,hb⟩;exact⟨rfl,h.below hb⟩
theorem FBag.equalT{w0 w:World}{L:List FE}{x1 x2 x3 y1 y2 y3:Value}{j k:Nat}{p q:Rat}(h:FBag w0 w L)(hx:⟨x1,x2,x3,p,j⟩∈ L)(hy:⟨y1,y2,y3,q,k⟩∈ L)(he:p=q):
 Calls prog 72 #[.agg #[x1,x2,x3],.agg #[y1,y2,y3]] w (fun e w'=>e=.returned (.bool true)/\FBag w0 w' L):=by
 have:=h.equal hx hy;rw[decide_eq_true he] at this;exact this
theorem FBag.equalF{w0 w:World}{L:List FE}{x1 x2 x3 y1 y2 y3:Value}{j k:Nat}{p q:Rat}(h:FBag w0 w L)(hx:⟨x1,x2,x3,p,j⟩∈ L)(hy:⟨y1,y2,y3,q,k⟩∈ L)(he:¬p=q):
 Calls prog 72 #[.agg #[x1,x2,x3],.agg #[y1,y2,y3]] w (fun e w'=>e=.returned (.bool false)/\FBag w0 w' L):=by
 have:=h.equal hx hy;rw[decide_eq_false he] at this;exact this
def IsJ(n:Nat)(k:Int):Prop:=0<=k/\k<n
theorem Qam(a:Option Addr)(n c:Nat)(k:Int)(w:World)(h:IsJ n k):Calls prog 180 #[.slice a n c,.int .i64 k] w fun e w'=>e=.returned (.bool true)/\w'=w:=by
 obtain⟨h1,h2⟩:=h;go_enter func180,ntmps180;go_wp2;go_ret;exact⟨by simp[h1,h2],rfl⟩
theorem Qea(a:Option Addr)(n c:Nat)(k:Int)(w:World)(h:¬IsJ n k):Calls prog 180 #[.slice a n c,.int .i64 k] w fun e w'=>e=.returned (.bool false)/\w'=w:=by
 by_cases h1:0<=k
 .
  have h2:¬(k<(n:Int)):=fun h2=>h ⟨h1,h2⟩
  go_enter func180,ntmps180;go_wp2;go_ret;exact⟨by simp<;>omega,rfl⟩
 .
  have h2:decide (0<=k)=false:=decide_eq_false h1;go_enter func180,ntmps180;go_wp2;go_ret;exact⟨by simp<;>omega,rfl⟩
theorem Qc3(s0 s1 t0 t1:ByteArray)(px py qx qy:Rat)(w:World)(hg:Glob w)(h0:s0.size<=1048576)(h1:s1.size<=1048576)(h2:t0.size<=1048576)(h3:t1.size<=1048576)
 (q0:QOf s0.data.toList px) (q1:QOf s1.data.toList py) (q2:QOf t0.data.toList qx) (q3:QOf t1.data.toList qy):
 Calls prog 181 #[.agg #[.string s0,.string s1],.agg #[.string t0,.string t1]] w fun e w'=>e=.returned (.bool (decide (px=qx/\py=qy)))/\Below w.heap.size w w':=by
 by_cases hx:px=qx
 .
  have HXE:=Hi hx;by_cases hy:py=qy
  .
   have HYE:=Hi hy;rw[decide_eq_true ⟨hx,hy⟩];clear hx hy;obtain⟨HG,Q0,Q1,Q2,Q3⟩:=Id hg q0 q1 q2 q3;clear hg q0 q1 q2 q3;go_enter func181,ntmps181;go_wp2_with fail;obtain⟨W,hW⟩:=nm ((w.alloc (.cells #[.string s0,.string s1] 25)).alloc (.cells #[.string t0,.string t1] 25));have HB0:=Ub hW;have HS0:=Ud hW;have HS1:=Ue hW;rw[hW];have HR:=Hi (FBag.start (HG.o.below HB0.o));clear hW;have hs0:=HS0.o.below HR.o.base HS0.o.lt;have hs1:=HS1.o.below HR.o.base HS1.o.lt;obtain⟨k0,k1,-⟩:=zc hs0
   obtain⟨k2,k3,-⟩:=zc hs1;clear hs0 hs1
   first
    |(
     go_region_held3 (fun v=>v.cell? ⟨w.heap.size,0,none⟩=some (.string s0)/\v.cell? ⟨w.heap.size,1,none⟩=some (.string s1)/\v.cell? ⟨w.heap.size+1,0,none⟩=some (.string t0)/\v.cell? ⟨w.heap.size+1,1,none⟩=some (.string t1)) ((first|(simp [*];done)|go_keep)) (first
      |
       (go_at_call_of 149 (Value.string s0)
        apply cM;apply FBag.of (w0:=W) (n:=1048576);(focus(first|exact HR.o|exact HR.o.drew));assumption;decide;rintro e wn ⟨qq,hq,x1,x2,x3,rfl,hbag⟩;obtain rfl:=Q0.o.inj hq;clear HR;have HR:=Hi hbag;clear hq hbag;have hs0:=HS0.o.below HR.o.base HS0.o.lt;have hs1:=HS1.o.below HR.o.base HS1.o.lt;obtain⟨k0,k1,-⟩:=zc hs0;obtain⟨k2,k3,-⟩:=zc hs1;clear hs0 hs1
        skip)
      |
       (go_at_call_of 149 (Value.string s1)
        apply cM;apply FBag.of (w0:=W) (n:=1048576);(focus(first|exact HR.o|exact HR.o.drew));assumption;decide;rintro e wn ⟨qq,hq,x1,x2,x3,rfl,hbag⟩;obtain rfl:=Q1.o.inj hq;clear HR;have HR:=Hi hbag;clear hq hbag;have hs0:=HS0.o.below HR.o.base HS0.o.lt;have hs1:=HS1.o.below HR.o.base HS1.o.lt;obtain⟨k0,k1,-⟩:=zc hs0;obtain⟨k2,k3,-⟩:=zc hs1;clear hs0 hs1
        skip)
      |
       (go_at_call_of 149 (Value.string t0)
        apply cM;apply FBag.of (w0:=W) (n:=1048576);(focus(first|exact HR.o|exact HR.o.drew));assumption;decide;rintro e wn ⟨qq,hq,x1,x2,x3,rfl,hbag⟩;obtain rfl:=Q2.o.inj hq;clear HR;have HR:=Hi hbag;clear hq hbag;have hs0:=HS0.o.below HR.o.base HS0.o.lt;have hs1:=HS1.o.below HR.o.base HS1.o.lt;obtain⟨k0,k1,-⟩:=zc hs0;obtain⟨k2,k3,-⟩:=zc hs1;clear hs0 hs1
        skip)
      |
       (go_at_call_of 149 (Value.string t1)
        apply cM;apply FBag.of (w0:=W) (n:=1048576);(focus(first|exact HR.o|exact HR.o.drew));assumption;decide;rintro e wn ⟨qq,hq,x1,x2,x3,rfl,hbag⟩;obtain rfl:=Q3.o.inj hq;clear HR;have HR:=Hi hbag;clear hq hbag;have hs0:=HS0.o.below HR.o.base HS0.o.lt;have hs1:=HS1.o.below HR.o.base HS1.o.lt;obtain⟨k0,k1,-⟩:=zc hs0;obtain⟨k2,k3,-⟩:=zc hs1;clear hs0 hs1
        skip)
      |
       (go_at_call 72
        apply cM;apply FBag.equalT (w0:=W);(focus(first|exact HR.o|exact HR.o.drew));(focus(repeat(first|exact mH|apply mT)));(focus(repeat(first|exact mH|apply mT)));exact HXE.o;rintro e wn ⟨rfl,hbag⟩;clear HR;have HR:=Hi hbag;clear hbag;have hs0:=HS0.o.below HR.o.base HS0.o.lt;have hs1:=HS1.o.below HR.o.base HS1.o.lt;obtain⟨k0,k1,-⟩:=zc hs0;obtain⟨k2,k3,-⟩:=zc hs1;clear hs0 hs1
        skip)
      |
       (go_at_call 72
        apply cM;apply FBag.equalT (w0:=W);(focus(first|exact HR.o|exact HR.o.drew));(focus(repeat(first|exact mH|apply mT)));(focus(repeat(first|exact mH|apply mT)));exact HYE.o;rintro e wn ⟨rfl,hbag⟩;clear HR;have HR:=Hi hbag;clear hbag;have hs0:=HS0.o.below HR.o.base HS0.o.lt;have hs1:=HS1.o.below HR.o.base HS1.o.lt;obtain⟨k0,k1,-⟩:=zc hs0;obtain⟨k2,k3,-⟩:=zc hs1;clear hs0 hs1
        skip)
      ))
    |fail
   all_goals
    go_wp2;go_ret;exact⟨rfl,HB0.o.trans (HR.o.base.mono HB0.o.size)⟩
  .
   have HYE:=Hi hy;rw[decide_eq_false (fun h=>hy h.2)];clear hx hy;obtain⟨HG,Q0,Q1,Q2,Q3⟩:=Id hg q0 q1 q2 q3;clear hg q0 q1 q2 q3;go_enter func181,ntmps181;go_wp2_with fail;obtain⟨W,hW⟩:=nm ((w.alloc (.cells #[.string s0,.string s1] 25)).alloc (.cells #[.string t0,.string t1] 25));have HB0:=Ub hW;have HS0:=Ud hW;have HS1:=Ue hW;rw[hW];have HR:=Hi (FBag.start (HG.o.below HB0.o));clear hW;have hs0:=HS0.o.below HR.o.base HS0.o.lt;have hs1:=HS1.o.below HR.o.base HS1.o.lt;obtain⟨k0,-⟩:=zc hs0
   obtain⟨-,k1,-⟩:=zc hs0;obtain⟨k2,k3,-⟩:=zc hs1;clear hs0 hs1
   first
    |(
     go_region_held3 (fun v=>v.cell? ⟨w.heap.size,0,none⟩=some (.string s0)/\v.cell? ⟨w.heap.size,1,none⟩=some (.string s1)/\v.cell? ⟨w.heap.size+1,0,none⟩=some (.string t0)/\v.cell? ⟨w.heap.size+1,1,none⟩=some (.string t1)) ((first|(simp [*];done)|go_keep)) (first
      |
       (go_at_call_of 149 (Value.string s0)
        apply cM;apply FBag.of (w0:=W) (n:=1048576);(focus(first|exact HR.o|exact HR.o.drew));assumption;decide;rintro e wn ⟨qq,hq,x1,x2,x3,rfl,hbag⟩;obtain rfl:=Q0.o.inj hq;clear HR;have HR:=Hi hbag;clear hq hbag;have hs0:=HS0.o.below HR.o.base HS0.o.lt;have hs1:=HS1.o.below HR.o.base HS1.o.lt;obtain⟨k0,k1,-⟩:=zc hs0;obtain⟨k2,k3,-⟩:=zc hs1;clear hs0 hs1
        skip)
      |
       (go_at_call_of 149 (Value.string s1)
        apply cM;apply FBag.of (w0:=W) (n:=1048576);(focus(first|exact HR.o|exact HR.o.drew));assumption;decide;rintro e wn ⟨qq,hq,x1,x2,x3,rfl,hbag⟩;obtain rfl:=Q1.o.inj hq;clear HR;have HR:=Hi hbag;clear hq hbag;have hs0:=HS0.o.below HR.o.base HS0.o.lt;have hs1:=HS1.o.below HR.o.base HS1.o.lt;obtain⟨k0,k1,-⟩:=zc hs0;obtain⟨k2,k3,-⟩:=zc hs1;clear hs0 hs1
        skip)
      |
       (go_at_call_of 149 (Value.string t0)
        apply cM;apply FBag.of (w0:=W) (n:=1048576);(focus(first|exact HR.o|exact HR.o.drew));assumption;decide;rintro e wn ⟨qq,hq,x1,x2,x3,rfl,hbag⟩;obtain rfl:=Q2.o.inj hq;clear HR;have HR:=Hi hbag;clear hq hbag;have hs0:=HS0.o.below HR.o.base HS0.o.lt;have hs1:=HS1.o.below HR.o.base HS1.o.lt;obtain⟨k0,k1,-⟩:=zc hs0;obtain⟨k2,k3,-⟩:=zc hs1;clear hs0 hs1
        skip)
      |
       (go_at_call_of 149 (Value.string t1)
        apply cM;apply FBag.of (w0:=W) (n:=1048576);(focus(first|exact HR.o|exact HR.o.drew));assumption;decide;rintro e wn ⟨qq,hq,x1,x2,x3,rfl,hbag⟩;obtain rfl:=Q3.o.inj hq;clear HR;have HR:=Hi hbag;clear hq hbag;have hs0:=HS0.o.below HR.o.base HS0.o.lt;have hs1:=HS1.o.below HR.o.base HS1.o.lt;obtain⟨k0,k1,-⟩:=zc hs0;obtain⟨k2,k3,-⟩:=zc hs1;clear hs0 hs1
        skip)
      |
       (go_at_call 72
        apply cM;apply FBag.equalT (w0:=W);(focus(first|exact HR.o|exact HR.o.drew));(focus(repeat(first|exact mH|apply mT)));(focus(repeat(first|exact mH|apply mT)));exact HXE.o;rintro e wn ⟨rfl,hbag⟩;clear HR;have HR:=Hi hbag;clear hbag;have hs0:=HS0.o.below HR.o.base HS0.o.lt;have hs1:=HS1.o.below HR.o.base HS1.o.lt;obtain⟨k0,k1,-⟩:=zc hs0;obtain⟨k2,k3,-⟩:=zc hs1;clear hs0 hs1
        skip)
      |
       (go_at_call 72
        apply cM;apply FBag.equalF (w0:=W);(focus(first|exact HR.o|exact HR.o.drew));(focus(repeat(first|exact mH|apply mT)));(focus(repeat(first|exact mH|apply mT)));exact HYE.o;rintro e wn ⟨rfl,hbag⟩;clear HR;have HR:=Hi hbag;clear hbag;have hs0:=HS0.o.below HR.o.base HS0.o.lt;have hs1:=HS1.o.below HR.o.base HS1.o.lt;obtain⟨k0,k1,-⟩:=zc hs0;obtain⟨k2,k3,-⟩:=zc hs1;clear hs0 hs1
        skip)
      ))
    |fail
   all_goals
    go_wp2;go_ret;exact⟨rfl,HB0.o.trans (HR.o.base.mono HB0.o.size)⟩
 .
  have HXE:=Hi hx;rw[decide_eq_false (fun h=>hx h.1)];clear hx;obtain⟨HG,Q0,Q1,Q2,Q3⟩:=Id hg q0 q1 q2 q3;clear hg q0 q1 q2 q3;go_enter func181,ntmps181;go_wp2_with fail;obtain⟨W,hW⟩:=nm ((w.alloc (.cells #[.string s0,.string s1] 25)).alloc (.cells #[.string t0,.string t1] 25));have HB0:=Ub hW;have HS0:=Ud hW;have HS1:=Ue hW;rw[hW];have HR:=Hi (FBag.start (HG.o.below HB0.o));clear hW;have hs0:=HS0.o.below HR.o.base HS0.o.lt;have hs1:=HS1.o.below HR.o.base HS1.o.lt;obtain⟨k0,-⟩:=zc hs0
  obtain⟨-,k1,-⟩:=zc hs0;obtain⟨k2,k3,-⟩:=zc hs1;clear hs0 hs1
  first
   |(
    go_region_with (first
     |
      (go_at_call_of 149 (Value.string s0)
       apply cM;apply FBag.of (w0:=W) (n:=1048576);(focus(first|exact HR.o|exact HR.o.drew));assumption;decide;rintro e wn ⟨qq,hq,x1,x2,x3,rfl,hbag⟩;obtain rfl:=Q0.o.inj hq;clear HR;have HR:=Hi hbag;clear hq hbag;have hs0:=HS0.o.below HR.o.base HS0.o.lt;have hs1:=HS1.o.below HR.o.base HS1.o.lt;obtain⟨k0,k1,-⟩:=zc hs0;obtain⟨k2,k3,-⟩:=zc hs1;clear hs0 hs1
       skip)
     |
      (go_at_call_of 149 (Value.string s1)
       apply cM;apply FBag.of (w0:=W) (n:=1048576);(focus(first|exact HR.o|exact HR.o.drew));assumption;decide;rintro e wn ⟨qq,hq,x1,x2,x3,rfl,hbag⟩;obtain rfl:=Q1.o.inj hq;clear HR;have HR:=Hi hbag;clear hq hbag;have hs0:=HS0.o.below HR.o.base HS0.o.lt;have hs1:=HS1.o.below HR.o.base HS1.o.lt;obtain⟨k0,k1,-⟩:=zc hs0;obtain⟨k2,k3,-⟩:=zc hs1;clear hs0 hs1
       skip)
     |
      (go_at_call_of 149 (Value.string t0)
       apply cM;apply FBag.of (w0:=W) (n:=1048576);(focus(first|exact HR.o|exact HR.o.drew));assumption;decide;rintro e wn ⟨qq,hq,x1,x2,x3,rfl,hbag⟩;obtain rfl:=Q2.o.inj hq;clear HR;have HR:=Hi hbag;clear hq hbag;have hs0:=HS0.o.below HR.o.base HS0.o.lt;have hs1:=HS1.o.below HR.o.base HS1.o.lt;obtain⟨k0,k1,-⟩:=zc hs0;obtain⟨k2,k3,-⟩:=zc hs1;clear hs0 hs1
       skip)
     |
      (go_at_call_of 149 (Value.string t1)
       apply cM;apply FBag.of (w0:=W) (n:=1048576);(focus(first|exact HR.o|exact HR.o.drew));assumption;decide;rintro e wn ⟨qq,hq,x1,x2,x3,rfl,hbag⟩;obtain rfl:=Q3.o.inj hq;clear HR;have HR:=Hi hbag;clear hq hbag;have hs0:=HS0.o.below HR.o.base HS0.o.lt;have hs1:=HS1.o.below HR.o.base HS1.o.lt;obtain⟨k0,k1,-⟩:=zc hs0;obtain⟨k2,k3,-⟩:=zc hs1;clear hs0 hs1
       skip)
     |
      (go_at_call 72
       apply cM;apply FBag.equalF (w0:=W);(focus(first|exact HR.o|exact HR.o.drew));(focus(repeat(first|exact mH|apply mT)));(focus(repeat(first|exact mH|apply mT)));exact HXE.o;rintro e wn ⟨rfl,hbag⟩;clear HR;have HR:=Hi hbag;clear hbag;have hs0:=HS0.o.below HR.o.base HS0.o.lt;have hs1:=HS1.o.below HR.o.base HS1.o.lt;obtain⟨k0,k1,-⟩:=zc hs0;obtain⟨k2,k3,-⟩:=zc hs1;clear hs0 hs1
       skip)
     ))
   |fail
  all_goals
   go_wp2;go_ret;exact⟨rfl,HB0.o.trans (HR.o.base.mono HB0.o.size)⟩
def BarVal(p q:S2)(b:B6)(c:Int):Prop:=
 ∃px py qx qy vc vl vm,QOf p.x.data.toList px/\QOf p.y.data.toList py/\QOf q.x.data.toList qx/\QOf q.y.data.toList qy/\QOf b.c.data.toList vc/\QOf b.l.data.toList vl/\QOf b.m.data.toList vm/\
  c=if px=qx/\py=qy then 5 else if sgn3 vc.num<=0∨0<sgn3 vl.num∨sgn3 vm.num<0 then 5 else 0
def BarCode(js:List S2)(b:B6)(c:Int):Prop:=
 (¬(IsJ js.length b.a/\IsJ js.length b.b)/\c=4)∨
 (IsJ js.length b.a/\IsJ js.length b.b/\∃p q,js[b.a.toNat]?=some p/\js[b.b.toNat]?=some q/\BarVal p q b c)
theorem BarVal.inj{p q:S2}{b:B6}{c d:Int}(h:BarVal p q b c)(k:BarVal p q b d):c=d:=by
 obtain⟨px,py,qx,qy,vc,vl,vm,h1,h2,h3,h4,h5,h6,h7,rfl⟩:=h;obtain⟨px',py',qx',qy',vc',vl',vm',k1,k2,k3,k4,k5,k6,k7,rfl⟩:=k;obtain rfl:=h1.inj k1;obtain rfl:=h2.inj k2;obtain rfl:=h3.inj k3;obtain rfl:=h4.inj k4;obtain rfl:=h5.inj k5;obtain rfl:=h6.inj k6;obtain rfl:=h7.inj k7;rfl
theorem BarCode.inj{js:List S2}{b:B6}{c d:Int}(h:BarCode js b c)(k:BarCode js b d):c=d:=by
 rcases h with ⟨h1,rfl⟩|⟨h1,h2,p,q,hp,hq,hv⟩
 .
  rcases k with ⟨_,rfl⟩|⟨k1,k2,_⟩
  . rfl
  . exact absurd ⟨k1,k2⟩ h1
 .
  rcases k with ⟨k1,_⟩|⟨_,_,p',q',hp',hq',kv⟩
  . exact absurd ⟨h1,h2⟩ k1
  .
   rw[hp] at hp';rw[hq] at hq';cases hp';cases hq';exact hv.inj kv
structure FrSized (js:List S2) (bs:List B6) (hs:List H3):Prop where
 j:∀p,p∈ js->p.x.size<=1048576/\p.y.size<=1048576
 b:∀b,b∈ bs->b.c.size<=1048576/\b.e.size<=1048576/\b.l.size<=1048576/\b.m.size<=1048576
 h:∀x,x∈ hs->x.q.size<=1048576
theorem Qsf(a:Option Addr)(n cap:Nat)(ba bb:Int)(bc be bl bm:ByteArray)(w:World)(hj:¬(IsJ n ba/\IsJ n bb)):
 Calls prog 95 #[.slice a n cap,.agg #[.int .i64 ba,.int .i64 bb,.string bc,.string be,.string bl,.string bm]] w fun e w'=>e=.returned (.int .i64 4)/\Below w.heap.size w w':=by
 by_cases h1:IsJ n ba
 .
  have h2:¬IsJ n bb:=fun h=>hj ⟨h1,h⟩
  obtain⟨H1,H2⟩:=Ia h1 h2;clear h1 h2 hj;go_enter func95,ntmps95;obtain⟨W,hW⟩:=nm (w.alloc (.cells #[.int .i64 ba,.int .i64 bb,.string bc,.string be,.string bl,.string bm] 69));have HB0:=Ua hW;have HS0:=Uc hW;have HR:O (Below W.heap.size W W):=Hi bR;have hs0:=HS0.o.below HR.o HS0.o.lt;obtain⟨k0,k1,k2,k3,k4,-⟩:=zc hs0
  obtain⟨-,-,-,-,-,k5,-⟩:=zc hs0;clear hs0;rw[<-hW] at k0 k1 k2 k3 k4 k5;have HW:=Hi hW;clear hW;go_wp2_with fail;go_fit (Qam a n cap ba _ H1.o);rintro e w1 ⟨rfl,rfl⟩;go_wp2_with fail;go_fit (Qea a n cap bb _ H2.o);rintro e w2 ⟨rfl,rfl⟩;go_wp2;go_ret;exact⟨rfl,by rw[HW.o];exact HB0.o⟩
 .
  have H1:=Hi h1;clear h1 hj;go_enter func95,ntmps95;obtain⟨W,hW⟩:=nm (w.alloc (.cells #[.int .i64 ba,.int .i64 bb,.string bc,.string be,.string bl,.string bm] 69));have HB0:=Ua hW;have HS0:=Uc hW;have HR:O (Below W.heap.size W W):=Hi bR;have hs0:=HS0.o.below HR.o HS0.o.lt;obtain⟨k0,k1,k2,k3,k4,-⟩:=zc hs0
  obtain⟨-,-,-,-,-,k5,-⟩:=zc hs0;clear hs0;rw[<-hW] at k0 k1 k2 k3 k4 k5;have HW:=Hi hW;clear hW;go_wp2_with fail;go_fit (Qea a n cap ba _ H1.o);rintro e w1 ⟨rfl,rfl⟩;go_wp2;go_ret;exact⟨rfl,by rw[HW.o];exact HB0.o⟩
theorem Qsg(a:Option Addr)(cap ka kb:Nat)(js:List S2)(p q:S2)(bc be bl bm:ByteArray)(px py qx qy vc vl vm:Rat)(w:World)(hg:Glob w)(hj:ARow S2.cells w a cap js)(hp:js[ka]?=some p)(hq:js[kb]?=some q)
 (z1:p.x.size<=1048576/\p.y.size<=1048576) (z2:q.x.size<=1048576/\q.y.size<=1048576) (z3:bc.size<=1048576/\bl.size<=1048576/\bm.size<=1048576)
 (q1:QOf p.x.data.toList px) (q2:QOf p.y.data.toList py) (q3:QOf q.x.data.toList qx) (q4:QOf q.y.data.toList qy) (q5:QOf bc.data.toList vc) (q6:QOf bl.data.toList vl) (q7:QOf bm.data.toList vm):
 Calls prog 95 #[.slice a js.length cap,.agg #[.int .i64 ka,.int .i64 kb,.string bc,.string be,.string bl,.string bm]] w fun e w'=>e=.returned (.int .i64 (if px=qx/\py=qy then 5 else if sgn3 vc.num<=0∨0<sgn3 vl.num∨sgn3 vm.num<0 then 5 else 0))/\Below w.heap.size w w':=by
 have Z3:=Hi z3;clear z3;by_cases hpl:px=qx/\py=qy
 .
  rw[if_pos hpl];have hdp:=decide_eq_true hpl;have HD:=Hi hdp;clear hdp hpl;obtain⟨HG,HJ,HP,HQ,Z1,Z2,Q1,Q2,Q3⟩:=Ih hg hj hp hq z1 z2 q1 q2 q3;obtain⟨Q4,Q5,Q6,Q7⟩:=Ic q4 q5 q6 q7;have i1:((0:Int)<=(ka:Int)):=by omega
  have i2:((0:Int)<=(kb:Int)):=by omega
  have i3:((ka:Int)<(js.length:Int)):=by have:=(gZ hp).1;omega
  have i4:((kb:Int)<(js.length:Int)):=by have:=(gZ hq).1;omega
  clear hg hj hp hq z1 z2 q1 q2 q3 q4 q5 q6 q7;go_enter func95,ntmps95;obtain⟨W,hW⟩:=nm (w.alloc (.cells #[.int .i64 (ka:Int),.int .i64 (kb:Int),.string bc,.string be,.string bl,.string bm] 69));have HB0:=Ua hW;have HS0:=Uc hW;have HR:O (Below W.heap.size W W):=Hi bR;have hs0:=HS0.o.below HR.o HS0.o.lt;obtain⟨k0,k1,k2,-,k4,-⟩:=zc hs0
  obtain⟨-,-,-,-,-,k5,-⟩:=zc hs0;clear hs0;obtain⟨b1,o1,ha,l1,d0,d1⟩:=(HJ.o.below HB0.o).spot HP.o;obtain⟨b2,o2,ha2,l2,d2,d3⟩:=(HJ.o.below HB0.o).spot HQ.o;subst ha;cases ha2;rw[<-hW] at k0 k1 k2 k4 k5 d0 d1 d2 d3;have HW:=Hi hW;clear hW;go_wp2_with fail;go_fit (Qam _ js.length cap ka _ ⟨i1,i3⟩);rintro e w1 ⟨rfl,rfl⟩;go_wp2_with fail;go_fit (Qam _ js.length cap kb _ ⟨i2,i4⟩);rintro e w2 ⟨rfl,rfl⟩;go_wp2_with fail;rw[HW.o];rw[HW.o] at k0 k1 k2 k4 k5 d0 d1 d2 d3;go_region_held3 (fun v=>v.cell? ⟨w.heap.size,0,none⟩=some (.int .i64 ka)/\v.cell? ⟨w.heap.size,1,none⟩=some (.int .i64 kb)/\v.cell? ⟨b1,o1+ka*2,none⟩=some (.string p.x)/\v.cell? ⟨b1,o1+ka*2+1,none⟩=some (.string p.y)/\v.cell? ⟨b1,o1+kb*2,none⟩=some (.string q.x)/\v.cell? ⟨b1,o1+kb*2+1,none⟩=some (.string q.y)) ((first|(simp [*];done)|go_keep)) (first
   |(
    go_at_call 181;apply cM;apply Qc3 p.x p.y q.x q.y px py qx qy;(first|exact HG.o.below HB0.o|exact HG.o.below HB0.o.drew);exact Z1.o.1;exact Z1.o.2;exact Z2.o.1;exact Z2.o.2;exact Q1.o;exact Q2.o;exact Q3.o;exact Q4.o;rintro e wn ⟨rfl,hbn⟩;rw[HD.o];have HN:O (Below W.heap.size W wn):=Hi ((bR.drew).trans hbn);have HJN:=Hi ((HJ.o.below HB0.o).below HN.o);obtain⟨b3,o3,ha3,l3,d0,d1⟩:=HJN.o.spot HP.o;obtain⟨b4,o4,ha4,l4,d2,d3⟩:=HJN.o.spot HQ.o;cases ha3;cases ha4;have hs0:=HS0.o.below HN.o HS0.o.lt;obtain⟨k0,k1,k2,-,k4,-⟩:=zc hs0
    obtain⟨-,-,-,-,-,k5,-⟩:=zc hs0;clear hs0
    clear hbn)
   )
  go_wp2;go_ret;exact⟨rfl,HB0.o.trans (HN.o.mono HB0.o.size)⟩
 .
  rw[if_neg hpl];have hdp:=decide_eq_false hpl;have HD:=Hi hdp;clear hdp hpl;obtain⟨sc,hsc⟩:=nm (sgn3 vc.num);obtain⟨sl,hsl⟩:=nm (sgn3 vl.num);obtain⟨sm,hsm⟩:=nm (sgn3 vm.num);rw[hsc,hsl,hsm];obtain⟨SC,SL,SM⟩:=Ib hsc hsl hsm;clear hsc hsl hsm;by_cases c1:sc<=0
  .
   rw[if_pos (.inl c1)];obtain⟨HG,HJ,HP,HQ,Z1,Z2,Q1,Q2,Q3⟩:=Ih hg hj hp hq z1 z2 q1 q2 q3;obtain⟨Q4,Q5,Q6,Q7⟩:=Ic q4 q5 q6 q7;have i1:((0:Int)<=(ka:Int)):=by omega
   have i2:((0:Int)<=(kb:Int)):=by omega
   have i3:((ka:Int)<(js.length:Int)):=by have:=(gZ hp).1;omega
   have i4:((kb:Int)<(js.length:Int)):=by have:=(gZ hq).1;omega
   clear hg hj hp hq z1 z2 q1 q2 q3 q4 q5 q6 q7;go_enter func95,ntmps95;obtain⟨W,hW⟩:=nm (w.alloc (.cells #[.int .i64 (ka:Int),.int .i64 (kb:Int),.string bc,.string be,.string bl,.string bm] 69));have HB0:=Ua hW;have HS0:=Uc hW;have HR:O (Below W.heap.size W W):=Hi bR;have hs0:=HS0.o.below HR.o HS0.o.lt;obtain⟨k0,k1,k2,-,k4,-⟩:=zc hs0
   obtain⟨-,-,-,-,-,k5,-⟩:=zc hs0;clear hs0;obtain⟨b1,o1,ha,l1,d0,d1⟩:=(HJ.o.below HB0.o).spot HP.o;obtain⟨b2,o2,ha2,l2,d2,d3⟩:=(HJ.o.below HB0.o).spot HQ.o;subst ha;cases ha2;rw[<-hW] at k0 k1 k2 k4 k5 d0 d1 d2 d3;have HW:=Hi hW;clear hW;go_wp2_with fail;go_fit (Qam _ js.length cap ka _ ⟨i1,i3⟩);rintro e w1 ⟨rfl,rfl⟩;go_wp2_with fail;go_fit (Qam _ js.length cap kb _ ⟨i2,i4⟩);rintro e w2 ⟨rfl,rfl⟩;go_wp2_with fail;rw[HW.o];rw[HW.o] at k0 k1 k2 k4 k5 d0 d1 d2 d3;go_region_held3 (fun v=>v.cell? ⟨w.heap.size,0,none⟩=some (.int .i64 ka)/\v.cell? ⟨w.heap.size,1,none⟩=some (.int .i64 kb)/\v.cell? ⟨b1,o1+ka*2,none⟩=some (.string p.x)/\v.cell? ⟨b1,o1+ka*2+1,none⟩=some (.string p.y)/\v.cell? ⟨b1,o1+kb*2,none⟩=some (.string q.x)/\v.cell? ⟨b1,o1+kb*2+1,none⟩=some (.string q.y)) ((first|(simp [*];done)|go_keep)) (first
    |(
     go_at_call 181;apply cM;apply Qc3 p.x p.y q.x q.y px py qx qy;(first|exact HG.o.below HB0.o|exact HG.o.below HB0.o.drew);exact Z1.o.1;exact Z1.o.2;exact Z2.o.1;exact Z2.o.2;exact Q1.o;exact Q2.o;exact Q3.o;exact Q4.o;rintro e wn ⟨rfl,hbn⟩;rw[HD.o];have HN:O (Below W.heap.size W wn):=Hi ((bR.drew).trans hbn);have HJN:=Hi ((HJ.o.below HB0.o).below HN.o);obtain⟨b3,o3,ha3,l3,d0,d1⟩:=HJN.o.spot HP.o;obtain⟨b4,o4,ha4,l4,d2,d3⟩:=HJN.o.spot HQ.o;cases ha3;cases ha4;have hs0:=HS0.o.below HN.o HS0.o.lt;obtain⟨k0,k1,k2,-,k4,-⟩:=zc hs0
     obtain⟨-,-,-,-,-,k5,-⟩:=zc hs0;clear hs0
     clear hbn)
    )
   have HF:=Hi (FBag.start ((HG.o.below HB0.o).below HN.o));go_wp2_with (first
    |
     (go_at_call_of 149 (Value.string bc)
      apply cM;apply FBag.of (w0:=wn) (n:=1048576);(focus(first|exact HF.o|exact HF.o.drew));exact Z3.o.1;decide;rintro e wm ⟨qq,hq,x1,x2,x3,rfl,hbag⟩;obtain rfl:=Q5.o.inj hq;clear HF;have HF:=Hi hbag;clear hq hbag;have HM:=Hi (HN.o.trans (HF.o.base.mono HN.o.size));have hs0:=HS0.o.below HM.o HS0.o.lt;obtain⟨k0,k1,k2,-,k4,k5,-⟩:=zc hs0;clear hs0
      clear HM)
    |
     (go_at_call_of 149 (Value.string bl)
      apply cM;apply FBag.of (w0:=wn) (n:=1048576);(focus(first|exact HF.o|exact HF.o.drew));exact Z3.o.2.1;decide;rintro e wm ⟨qq,hq,x1,x2,x3,rfl,hbag⟩;obtain rfl:=Q6.o.inj hq;clear HF;have HF:=Hi hbag;clear hq hbag;have HM:=Hi (HN.o.trans (HF.o.base.mono HN.o.size));have hs0:=HS0.o.below HM.o HS0.o.lt;obtain⟨k0,k1,k2,-,k4,k5,-⟩:=zc hs0;clear hs0
      clear HM)
    |
     (go_at_call_of 149 (Value.string bm)
      apply cM;apply FBag.of (w0:=wn) (n:=1048576);(focus(first|exact HF.o|exact HF.o.drew));exact Z3.o.2.2;decide;rintro e wm ⟨qq,hq,x1,x2,x3,rfl,hbag⟩;obtain rfl:=Q7.o.inj hq;clear HF;have HF:=Hi hbag;clear hq hbag;have HM:=Hi (HN.o.trans (HF.o.base.mono HN.o.size));have hs0:=HS0.o.below HM.o HS0.o.lt;obtain⟨k0,k1,k2,-,k4,k5,-⟩:=zc hs0;clear hs0
      clear HM)
    |
     (go_at_call 182
      apply cM;apply FBag.sign (w0:=wn);(focus(first|exact HF.o|exact HF.o.drew));(focus(repeat(first|exact mH|apply mT)));rintro e wm ⟨rfl,hbag⟩;(first|rw[SC.o]|rw[SL.o]|rw[SM.o]);clear HF;have HF:=Hi hbag;clear hbag;have HM:=Hi (HN.o.trans (HF.o.base.mono HN.o.size));have hs0:=HS0.o.below HM.o HS0.o.lt;obtain⟨k0,k1,k2,-,k4,k5,-⟩:=zc hs0;clear hs0
      clear HM)
    |fail)
   go_ret;exact⟨rfl,HB0.o.trans ((HN.o.trans (HF.o.base.mono HN.o.size)).mono HB0.o.size)⟩
  .
   by_cases c2:0<sl
   .
    rw[if_pos (.inr (.inl c2))];obtain⟨HG,HJ,HP,HQ,Z1,Z2,Q1,Q2,Q3⟩:=Ih hg hj hp hq z1 z2 q1 q2 q3;obtain⟨Q4,Q5,Q6,Q7⟩:=Ic q4 q5 q6 q7;have i1:((0:Int)<=(ka:Int)):=by omega
    have i2:((0:Int)<=(kb:Int)):=by omega
    have i3:((ka:Int)<(js.length:Int)):=by have:=(gZ hp).1;omega
    have i4:((kb:Int)<(js.length:Int)):=by have:=(gZ hq).1;omega
    clear hg hj hp hq z1 z2 q1 q2 q3 q4 q5 q6 q7;go_enter func95,ntmps95;obtain⟨W,hW⟩:=nm (w.alloc (.cells #[.int .i64 (ka:Int),.int .i64 (kb:Int),.string bc,.string be,.string bl,.string bm] 69));have HB0:=Ua hW;have HS0:=Uc hW;have HR:O (Below W.heap.size W W):=Hi bR;have hs0:=HS0.o.below HR.o HS0.o.lt;obtain⟨k0,k1,k2,-,k4,-⟩:=zc hs0
    obtain⟨-,-,-,-,-,k5,-⟩:=zc hs0;clear hs0;obtain⟨b1,o1,ha,l1,d0,d1⟩:=(HJ.o.below HB0.o).spot HP.o;obtain⟨b2,o2,ha2,l2,d2,d3⟩:=(HJ.o.below HB0.o).spot HQ.o;subst ha;cases ha2;rw[<-hW] at k0 k1 k2 k4 k5 d0 d1 d2 d3;have HW:=Hi hW;clear hW;go_wp2_with fail;go_fit (Qam _ js.length cap ka _ ⟨i1,i3⟩);rintro e w1 ⟨rfl,rfl⟩;go_wp2_with fail;go_fit (Qam _ js.length cap kb _ ⟨i2,i4⟩);rintro e w2 ⟨rfl,rfl⟩;go_wp2_with fail;rw[HW.o];rw[HW.o] at k0 k1 k2 k4 k5 d0 d1 d2 d3;go_region_held3 (fun v=>v.cell? ⟨w.heap.size,0,none⟩=some (.int .i64 ka)/\v.cell? ⟨w.heap.size,1,none⟩=some (.int .i64 kb)/\v.cell? ⟨b1,o1+ka*2,none⟩=some (.string p.x)/\v.cell? ⟨b1,o1+ka*2+1,none⟩=some (.string p.y)/\v.cell? ⟨b1,o1+kb*2,none⟩=some (.string q.x)/\v.cell? ⟨b1,o1+kb*2+1,none⟩=some (.string q.y)) ((first|(simp [*];done)|go_keep)) (first
     |(
      go_at_call 181;apply cM;apply Qc3 p.x p.y q.x q.y px py qx qy;(first|exact HG.o.below HB0.o|exact HG.o.below HB0.o.drew);exact Z1.o.1;exact Z1.o.2;exact Z2.o.1;exact Z2.o.2;exact Q1.o;exact Q2.o;exact Q3.o;exact Q4.o;rintro e wn ⟨rfl,hbn⟩;rw[HD.o];have HN:O (Below W.heap.size W wn):=Hi ((bR.drew).trans hbn);have HJN:=Hi ((HJ.o.below HB0.o).below HN.o);obtain⟨b3,o3,ha3,l3,d0,d1⟩:=HJN.o.spot HP.o;obtain⟨b4,o4,ha4,l4,d2,d3⟩:=HJN.o.spot HQ.o;cases ha3;cases ha4;have hs0:=HS0.o.below HN.o HS0.o.lt;obtain⟨k0,k1,k2,-,k4,-⟩:=zc hs0
      obtain⟨-,-,-,-,-,k5,-⟩:=zc hs0;clear hs0
      clear hbn)
     )
    have HF:=Hi (FBag.start ((HG.o.below HB0.o).below HN.o));go_wp2_with (first
     |
      (go_at_call_of 149 (Value.string bc)
       apply cM;apply FBag.of (w0:=wn) (n:=1048576);(focus(first|exact HF.o|exact HF.o.drew));exact Z3.o.1;decide;rintro e wm ⟨qq,hq,x1,x2,x3,rfl,hbag⟩;obtain rfl:=Q5.o.inj hq;clear HF;have HF:=Hi hbag;clear hq hbag;have HM:=Hi (HN.o.trans (HF.o.base.mono HN.o.size));have hs0:=HS0.o.below HM.o HS0.o.lt;obtain⟨k0,k1,k2,-,k4,k5,-⟩:=zc hs0;clear hs0
       clear HM)
     |
      (go_at_call_of 149 (Value.string bl)
       apply cM;apply FBag.of (w0:=wn) (n:=1048576);(focus(first|exact HF.o|exact HF.o.drew));exact Z3.o.2.1;decide;rintro e wm ⟨qq,hq,x1,x2,x3,rfl,hbag⟩;obtain rfl:=Q6.o.inj hq;clear HF;have HF:=Hi hbag;clear hq hbag;have HM:=Hi (HN.o.trans (HF.o.base.mono HN.o.size));have hs0:=HS0.o.below HM.o HS0.o.lt;obtain⟨k0,k1,k2,-,k4,k5,-⟩:=zc hs0;clear hs0
       clear HM)
     |
      (go_at_call_of 149 (Value.string bm)
       apply cM;apply FBag.of (w0:=wn) (n:=1048576);(focus(first|exact HF.o|exact HF.o.drew));exact Z3.o.2.2;decide;rintro e wm ⟨qq,hq,x1,x2,x3,rfl,hbag⟩;obtain rfl:=Q7.o.inj hq;clear HF;have HF:=Hi hbag;clear hq hbag;have HM:=Hi (HN.o.trans (HF.o.base.mono HN.o.size));have hs0:=HS0.o.below HM.o HS0.o.lt;obtain⟨k0,k1,k2,-,k4,k5,-⟩:=zc hs0;clear hs0
       clear HM)
     |
      (go_at_call 182
       apply cM;apply FBag.sign (w0:=wn);(focus(first|exact HF.o|exact HF.o.drew));(focus(repeat(first|exact mH|apply mT)));rintro e wm ⟨rfl,hbag⟩;(first|rw[SC.o]|rw[SL.o]|rw[SM.o]);clear HF;have HF:=Hi hbag;clear hbag;have HM:=Hi (HN.o.trans (HF.o.base.mono HN.o.size));have hs0:=HS0.o.below HM.o HS0.o.lt;obtain⟨k0,k1,k2,-,k4,k5,-⟩:=zc hs0;clear hs0
       clear HM)
     |fail)
    go_ret;exact⟨rfl,HB0.o.trans ((HN.o.trans (HF.o.base.mono HN.o.size)).mono HB0.o.size)⟩
   .
    by_cases c3:sm<0
    .
     rw[if_pos (.inr (.inr c3))];obtain⟨HG,HJ,HP,HQ,Z1,Z2,Q1,Q2,Q3⟩:=Ih hg hj hp hq z1 z2 q1 q2 q3;obtain⟨Q4,Q5,Q6,Q7⟩:=Ic q4 q5 q6 q7;have i1:((0:Int)<=(ka:Int)):=by omega
     have i2:((0:Int)<=(kb:Int)):=by omega
     have i3:((ka:Int)<(js.length:Int)):=by have:=(gZ hp).1;omega
     have i4:((kb:Int)<(js.length:Int)):=by have:=(gZ hq).1;omega
     clear hg hj hp hq z1 z2 q1 q2 q3 q4 q5 q6 q7;go_enter func95,ntmps95;obtain⟨W,hW⟩:=nm (w.alloc (.cells #[.int .i64 (ka:Int),.int .i64 (kb:Int),.string bc,.string be,.string bl,.string bm] 69));have HB0:=Ua hW;have HS0:=Uc hW;have HR:O (Below W.heap.size W W):=Hi bR;have hs0:=HS0.o.below HR.o HS0.o.lt;obtain⟨k0,k1,k2,-,k4,-⟩:=zc hs0
     obtain⟨-,-,-,-,-,k5,-⟩:=zc hs0;clear hs0;obtain⟨b1,o1,ha,l1,d0,d1⟩:=(HJ.o.below HB0.o).spot HP.o;obtain⟨b2,o2,ha2,l2,d2,d3⟩:=(HJ.o.below HB0.o).spot HQ.o;subst ha;cases ha2;rw[<-hW] at k0 k1 k2 k4 k5 d0 d1 d2 d3;have HW:=Hi hW;clear hW;go_wp2_with fail;go_fit (Qam _ js.length cap ka _ ⟨i1,i3⟩);rintro e w1 ⟨rfl,rfl⟩;go_wp2_with fail;go_fit (Qam _ js.length cap kb _ ⟨i2,i4⟩);rintro e w2 ⟨rfl,rfl⟩;go_wp2_with fail;rw[HW.o];rw[HW.o] at k0 k1 k2 k4 k5 d0 d1 d2 d3;go_region_held3 (fun v=>v.cell? ⟨w.heap.size,0,none⟩=some (.int .i64 ka)/\v.cell? ⟨w.heap.size,1,none⟩=some (.int .i64 kb)/\v.cell? ⟨b1,o1+ka*2,none⟩=some (.string p.x)/\v.cell? ⟨b1,o1+ka*2+1,none⟩=some (.string p.y)/\v.cell? ⟨b1,o1+kb*2,none⟩=some (.string q.x)/\v.cell? ⟨b1,o1+kb*2+1,none⟩=some (.string q.y)) ((first|(simp [*];done)|go_keep)) (first
      |(
       go_at_call 181;apply cM;apply Qc3 p.x p.y q.x q.y px py qx qy;(first|exact HG.o.below HB0.o|exact HG.o.below HB0.o.drew);exact Z1.o.1;exact Z1.o.2;exact Z2.o.1;exact Z2.o.2;exact Q1.o;exact Q2.o;exact Q3.o;exact Q4.o;rintro e wn ⟨rfl,hbn⟩;rw[HD.o];have HN:O (Below W.heap.size W wn):=Hi ((bR.drew).trans hbn);have HJN:=Hi ((HJ.o.below HB0.o).below HN.o);obtain⟨b3,o3,ha3,l3,d0,d1⟩:=HJN.o.spot HP.o;obtain⟨b4,o4,ha4,l4,d2,d3⟩:=HJN.o.spot HQ.o;cases ha3;cases ha4;have hs0:=HS0.o.below HN.o HS0.o.lt;obtain⟨k0,k1,k2,-,k4,-⟩:=zc hs0
       obtain⟨-,-,-,-,-,k5,-⟩:=zc hs0;clear hs0
       clear hbn)
      )
     have HF:=Hi (FBag.start ((HG.o.below HB0.o).below HN.o));go_wp2_with (first
      |
       (go_at_call_of 149 (Value.string bc)
        apply cM;apply FBag.of (w0:=wn) (n:=1048576);(focus(first|exact HF.o|exact HF.o.drew));exact Z3.o.1;decide;rintro e wm ⟨qq,hq,x1,x2,x3,rfl,hbag⟩;obtain rfl:=Q5.o.inj hq;clear HF;have HF:=Hi hbag;clear hq hbag;have HM:=Hi (HN.o.trans (HF.o.base.mono HN.o.size));have hs0:=HS0.o.below HM.o HS0.o.lt;obtain⟨k0,k1,k2,-,k4,k5,-⟩:=zc hs0;clear hs0
        clear HM)
      |
       (go_at_call_of 149 (Value.string bl)
        apply cM;apply FBag.of (w0:=wn) (n:=1048576);(focus(first|exact HF.o|exact HF.o.drew));exact Z3.o.2.1;decide;rintro e wm ⟨qq,hq,x1,x2,x3,rfl,hbag⟩;obtain rfl:=Q6.o.inj hq;clear HF;have HF:=Hi hbag;clear hq hbag;have HM:=Hi (HN.o.trans (HF.o.base.mono HN.o.size));have hs0:=HS0.o.below HM.o HS0.o.lt;obtain⟨k0,k1,k2,-,k4,k5,-⟩:=zc hs0;clear hs0
        clear HM)
      |
       (go_at_call_of 149 (Value.string bm)
        apply cM;apply FBag.of (w0:=wn) (n:=1048576);(focus(first|exact HF.o|exact HF.o.drew));exact Z3.o.2.2;decide;rintro e wm ⟨qq,hq,x1,x2,x3,rfl,hbag⟩;obtain rfl:=Q7.o.inj hq;clear HF;have HF:=Hi hbag;clear hq hbag;have HM:=Hi (HN.o.trans (HF.o.base.mono HN.o.size));have hs0:=HS0.o.below HM.o HS0.o.lt;obtain⟨k0,k1,k2,-,k4,k5,-⟩:=zc hs0;clear hs0
        clear HM)
      |
       (go_at_call 182
        apply cM;apply FBag.sign (w0:=wn);(focus(first|exact HF.o|exact HF.o.drew));(focus(repeat(first|exact mH|apply mT)));rintro e wm ⟨rfl,hbag⟩;(first|rw[SC.o]|rw[SL.o]|rw[SM.o]);clear HF;have HF:=Hi hbag;clear hbag;have HM:=Hi (HN.o.trans (HF.o.base.mono HN.o.size));have hs0:=HS0.o.below HM.o HS0.o.lt;obtain⟨k0,k1,k2,-,k4,k5,-⟩:=zc hs0;clear hs0
        clear HM)
      |fail)
     go_ret;exact⟨rfl,HB0.o.trans ((HN.o.trans (HF.o.base.mono HN.o.size)).mono HB0.o.size)⟩
    .
     rw[if_neg (fun h=>h.elim c1 (fun h=>h.elim c2 c3))];obtain⟨HG,HJ,HP,HQ,Z1,Z2,Q1,Q2,Q3⟩:=Ih hg hj hp hq z1 z2 q1 q2 q3;obtain⟨Q4,Q5,Q6,Q7⟩:=Ic q4 q5 q6 q7;have i1:((0:Int)<=(ka:Int)):=by omega
     have i2:((0:Int)<=(kb:Int)):=by omega
     have i3:((ka:Int)<(js.length:Int)):=by have:=(gZ hp).1;omega
     have i4:((kb:Int)<(js.length:Int)):=by have:=(gZ hq).1;omega
     clear hg hj hp hq z1 z2 q1 q2 q3 q4 q5 q6 q7;go_enter func95,ntmps95;obtain⟨W,hW⟩:=nm (w.alloc (.cells #[.int .i64 (ka:Int),.int .i64 (kb:Int),.string bc,.string be,.string bl,.string bm] 69));have HB0:=Ua hW;have HS0:=Uc hW;have HR:O (Below W.heap.size W W):=Hi bR;have hs0:=HS0.o.below HR.o HS0.o.lt;obtain⟨k0,k1,k2,-,k4,-⟩:=zc hs0
     obtain⟨-,-,-,-,-,k5,-⟩:=zc hs0;clear hs0;obtain⟨b1,o1,ha,l1,d0,d1⟩:=(HJ.o.below HB0.o).spot HP.o;obtain⟨b2,o2,ha2,l2,d2,d3⟩:=(HJ.o.below HB0.o).spot HQ.o;subst ha;cases ha2;rw[<-hW] at k0 k1 k2 k4 k5 d0 d1 d2 d3;have HW:=Hi hW;clear hW;go_wp2_with fail;go_fit (Qam _ js.length cap ka _ ⟨i1,i3⟩);rintro e w1 ⟨rfl,rfl⟩;go_wp2_with fail;go_fit (Qam _ js.length cap kb _ ⟨i2,i4⟩);rintro e w2 ⟨rfl,rfl⟩;go_wp2_with fail;rw[HW.o];rw[HW.o] at k0 k1 k2 k4 k5 d0 d1 d2 d3;go_region_held3 (fun v=>v.cell? ⟨w.heap.size,0,none⟩=some (.int .i64 ka)/\v.cell? ⟨w.heap.size,1,none⟩=some (.int .i64 kb)/\v.cell? ⟨b1,o1+ka*2,none⟩=some (.string p.x)/\v.cell? ⟨b1,o1+ka*2+1,none⟩=some (.string p.y)/\v.cell? ⟨b1,o1+kb*2,none⟩=some (.string q.x)/\v.cell? ⟨b1,o1+kb*2+1,none⟩=some (.string q.y)) ((first|(simp [*];done)|go_keep)) (first
      |(
       go_at_call 181;apply cM;apply Qc3 p.x p.y q.x q.y px py qx qy;(first|exact HG.o.below HB0.o|exact HG.o.below HB0.o.drew);exact Z1.o.1;exact Z1.o.2;exact Z2.o.1;exact Z2.o.2;exact Q1.o;exact Q2.o;exact Q3.o;exact Q4.o;rintro e wn ⟨rfl,hbn⟩;rw[HD.o];have HN:O (Below W.heap.size W wn):=Hi ((bR.drew).trans hbn);have HJN:=Hi ((HJ.o.below HB0.o).below HN.o);obtain⟨b3,o3,ha3,l3,d0,d1⟩:=HJN.o.spot HP.o;obtain⟨b4,o4,ha4,l4,d2,d3⟩:=HJN.o.spot HQ.o;cases ha3;cases ha4;have hs0:=HS0.o.below HN.o HS0.o.lt;obtain⟨k0,k1,k2,-,k4,-⟩:=zc hs0
       obtain⟨-,-,-,-,-,k5,-⟩:=zc hs0;clear hs0
       clear hbn)
      )
     have HF:=Hi (FBag.start ((HG.o.below HB0.o).below HN.o));go_wp2_with (first
      |
       (go_at_call_of 149 (Value.string bc)
        apply cM;apply FBag.of (w0:=wn) (n:=1048576);(focus(first|exact HF.o|exact HF.o.drew));exact Z3.o.1;decide;rintro e wm ⟨qq,hq,x1,x2,x3,rfl,hbag⟩;obtain rfl:=Q5.o.inj hq;clear HF;have HF:=Hi hbag;clear hq hbag;have HM:=Hi (HN.o.trans (HF.o.base.mono HN.o.size));have hs0:=HS0.o.below HM.o HS0.o.lt;obtain⟨k0,k1,k2,-,k4,k5,-⟩:=zc hs0;clear hs0
        clear HM)
      |
       (go_at_call_of 149 (Value.string bl)
        apply cM;apply FBag.of (w0:=wn) (n:=1048576);(focus(first|exact HF.o|exact HF.o.drew));exact Z3.o.2.1;decide;rintro e wm ⟨qq,hq,x1,x2,x3,rfl,hbag⟩;obtain rfl:=Q6.o.inj hq;clear HF;have HF:=Hi hbag;clear hq hbag;have HM:=Hi (HN.o.trans (HF.o.base.mono HN.o.size));have hs0:=HS0.o.below HM.o HS0.o.lt;obtain⟨k0,k1,k2,-,k4,k5,-⟩:=zc hs0;clear hs0
        clear HM)
      |
       (go_at_call_of 149 (Value.string bm)
        apply cM;apply FBag.of (w0:=wn) (n:=1048576);(focus(first|exact HF.o|exact HF.o.drew));exact Z3.o.2.2;decide;rintro e wm ⟨qq,hq,x1,x2,x3,rfl,hbag⟩;obtain rfl:=Q7.o.inj hq;clear HF;have HF:=Hi hbag;clear hq hbag;have HM:=Hi (HN.o.trans (HF.o.base.mono HN.o.size));have hs0:=HS0.o.below HM.o HS0.o.lt;obtain⟨k0,k1,k2,-,k4,k5,-⟩:=zc hs0;clear hs0
        clear HM)
      |
       (go_at_call 182
        apply cM;apply FBag.sign (w0:=wn);(focus(first|exact HF.o|exact HF.o.drew));(focus(repeat(first|exact mH|apply mT)));rintro e wm ⟨rfl,hbag⟩;(first|rw[SC.o]|rw[SL.o]|rw[SM.o]);clear HF;have HF:=Hi hbag;clear hbag;have HM:=Hi (HN.o.trans (HF.o.base.mono HN.o.size));have hs0:=HS0.o.below HM.o HS0.o.lt;obtain⟨k0,k1,k2,-,k4,k5,-⟩:=zc hs0;clear hs0
        clear HM)
      |fail)
     go_ret;exact⟨rfl,HB0.o.trans ((HN.o.trans (HF.o.base.mono HN.o.size)).mono HB0.o.size)⟩
end Go.Proofs.YtjgofdclmcpopaaGreatDoor
