/- package rig: joints and places; num's Sign. -/
import Derived.Test.YtbbkamnfjejceaaGreatDoorP19Kept
namespace Go.Proofs.YtbbkamnfjejceaaGreatDoor
open Go.RowKit
set_option linter.unusedVariables false
set_option linter.unusedSimpArgs false
theorem Qny{q:Rat}(h:¬q=0):sgn3 q.num=if q.num<0 then -1 else 1:=by
 have h1:q.num≠0:=fun hc=>h (Rat.num_eq_zero.1 hc)
 unfold sgn3;by_cases h2:q.num<0
 · rw[if_pos h2,if_pos h2]
 · rw[if_neg h2,if_neg h2,if_neg h1]
set_option maxHeartbeats 1000000 in
theorem Qnz{v:Value}{q:Rat}{w:World}(hx:FracV w v q):Calls Tryz.prog 128 #[v] w fun e w'=>e=.returned (.int .i64 (sgn3 q.num))∧Below w.heap.size w w':=by
 have HX:=Hi hx;obtain⟨neg,a,n,c,b,m,d,rfl,hx⟩:=hx;have HN:=Hi hx.neg;clear hx;go_enter Tryz.func128,Tryz.ntmps128;go_wp2_with fail;obtain⟨W,hW⟩:∃W,w.alloc (.cells #[.bool neg,.slice a n c,.slice b m d] 77)=W:=⟨_,rfl⟩;have HB0:Hid (Below w.heap.size w W):=Hi (by rw[←hW];exact(Below.refl _ _).alloc (Nat.le_refl _) _);have HSB:Hid (SB W w.heap.size 77 #[.bool neg,.slice a n c,.slice b m d]):=Hi (by rw[←hW];exact SB.new w _ _);rw[hW];clear hW;go_fit (Qbf (HX.out.below HB0.out));rintro e w1 ⟨rfl,hb1⟩;have hs:=HSB.out.below hb1 HSB.out.lt;have k0:w1.cell? ⟨w.heap.size,0,none⟩=some (.bool neg):=hs.cell 0;have HB1:=Hi (HB0.out.trans (hb1.mono HB0.out.size));clear hb1 hs;by_cases h:q=0
 ·
  have hd:decide (q=0)=true:=decide_eq_true h;rw[hd];go_wp2;go_ret;exact⟨by rw[h];rfl,HB1.out⟩
 ·
  have hd:decide (q=0)=false:=decide_eq_false h;rw[hd];have e3:=Qny h;by_cases h2:q.num<0
  ·
   obtain rfl:neg=true:=by rw[HN.out];exact decide_eq_true h2
   rw[if_pos h2] at e3;have E3:=Hi e3;clear e3 HN;go_wp2;go_ret;exact⟨by rw[E3.out];rfl,HB1.out⟩
  ·
   obtain rfl:neg=false:=by rw[HN.out];exact decide_eq_false h2
   rw[if_neg h2] at e3;have E3:=Hi e3;clear e3 HN;go_wp2;go_ret;exact⟨by rw[E3.out];rfl,HB1.out⟩
theorem FBag.sign{w0 w:World}{L:List FE}{x1 x2 x3:Value}{j:Nat}{p:Rat}(h:FBag w0 w L)(hx:⟨x1,x2,x3,p,j⟩∈ L):
 Calls Tryz.prog 128 #[.agg #[x1,x2,x3]] w (fun e w'=>e=.returned (.int .i64 (sgn3 p.num))∧FBag w0 w' L):=by
 obtain⟨hx,fx,kx⟩:=h.get hx;refine(Qnz hx).mono ?_;rintro e w' ⟨rfl,hb⟩;exact⟨rfl,h.below hb⟩
theorem FBag.equalT{w0 w:World}{L:List FE}{x1 x2 x3 y1 y2 y3:Value}{j k:Nat}{p q:Rat}(h:FBag w0 w L)(hx:⟨x1,x2,x3,p,j⟩∈ L)(hy:⟨y1,y2,y3,q,k⟩∈ L)(he:p=q):
 Calls Tryz.prog 39 #[.agg #[x1,x2,x3],.agg #[y1,y2,y3]] w (fun e w'=>e=.returned (.bool true)∧FBag w0 w' L):=by
 have:=h.equal hx hy;rw[decide_eq_true he] at this;exact this
theorem FBag.equalF{w0 w:World}{L:List FE}{x1 x2 x3 y1 y2 y3:Value}{j k:Nat}{p q:Rat}(h:FBag w0 w L)(hx:⟨x1,x2,x3,p,j⟩∈ L)(hy:⟨y1,y2,y3,q,k⟩∈ L)(he:¬p=q):
 Calls Tryz.prog 39 #[.agg #[x1,x2,x3],.agg #[y1,y2,y3]] w (fun e w'=>e=.returned (.bool false)∧FBag w0 w' L):=by
 have:=h.equal hx hy;rw[decide_eq_false he] at this;exact this
def IsJ(n:Nat)(k:Int):Prop:=0≤k∧k<n
theorem Qax(a:Option Addr)(n c:Nat)(k:Int)(w:World)(h:IsJ n k):Calls Tryz.prog 126 #[.slice a n c,.int .i64 k] w fun e w'=>e=.returned (.bool true)∧w'=w:=by
 obtain⟨h1,h2⟩:=h;go_enter Tryz.func126,Tryz.ntmps126;go_wp2;go_ret;exact⟨by simp[h1,h2],rfl⟩
theorem Qcu(a:Option Addr)(n c:Nat)(k:Int)(w:World)(h:¬IsJ n k):Calls Tryz.prog 126 #[.slice a n c,.int .i64 k] w fun e w'=>e=.returned (.bool false)∧w'=w:=by
 by_cases h1:0≤k
 ·
  have h2:¬(k<(n:Int)):=fun h2=>h ⟨h1,h2⟩
  go_enter Tryz.func126,Tryz.ntmps126;go_wp2;go_ret;exact⟨by simp<;>omega,rfl⟩
 ·
  have h2:decide (0≤k)=false:=decide_eq_false h1;go_enter Tryz.func126,Tryz.ntmps126;go_wp2;go_ret;exact⟨by simp<;>omega,rfl⟩
set_option maxRecDepth 100000 in
set_option maxHeartbeats 4000000 in
theorem Qn0(s0 s1 t0 t1:ByteArray)(px py qx qy:Rat)(w:World)(hg:Glob w)(h0:s0.size≤1048576)(h1:s1.size≤1048576)(h2:t0.size≤1048576)(h3:t1.size≤1048576)
 (q0:QOf s0.data.toList px) (q1:QOf s1.data.toList py) (q2:QOf t0.data.toList qx) (q3:QOf t1.data.toList qy):
 Calls Tryz.prog 127 #[.agg #[.string s0,.string s1],.agg #[.string t0,.string t1]] w fun e w'=>e=.returned (.bool (decide (px=qx∧py=qy)))∧Below w.heap.size w w':=by
 by_cases hx:px=qx
 ·
  have HXE:=Hi hx;by_cases hy:py=qy
  ·
   have HYE:=Hi hy;rw[decide_eq_true ⟨hx,hy⟩];clear hx hy;have HG:=Hi hg;have Q0:=Hi q0;have Q1:=Hi q1;have Q2:=Hi q2;have Q3:=Hi q3;clear hg q0 q1 q2 q3;go_enter Tryz.func127,Tryz.ntmps127;go_wp2_with fail;obtain⟨W,hW⟩:∃W,(w.alloc (.cells #[.string s0,.string s1] 25)).alloc (.cells #[.string t0,.string t1] 25)=W:=⟨_,rfl⟩;have HB0:Hid (Below w.heap.size w W):=Hi (by rw[←hW];exact Below.new2 w _ _);have HS0:Hid (SB W w.heap.size 25 #[.string s0,.string s1]):=Hi (by rw[←hW];exact(SB.new w _ _).alloc _);have HS1:Hid (SB W (w.heap.size+1) 25 #[.string t0,.string t1]):=Hi (by rw[←hW];exact SB.new2 w _ _ _ _);rw[hW];have HR:=Hi (FBag.start (HG.out.below HB0.out));clear hW;have hs0:=HS0.out.below HR.out.base HS0.out.lt;have hs1:=HS1.out.below HR.out.base HS1.out.lt;have k0:W.cell? ⟨w.heap.size,0,none⟩=some (.string s0):=hs0.cell 0;have k1:W.cell? ⟨w.heap.size,1,none⟩=some (.string s1):=hs0.cell 1
   have k2:W.cell? ⟨w.heap.size+1,0,none⟩=some (.string t0):=hs1.cell 0;have k3:W.cell? ⟨w.heap.size+1,1,none⟩=some (.string t1):=hs1.cell 1;clear hs0 hs1
   first
    |(
     go_region_held3 (fun v=>v.cell? ⟨w.heap.size,0,none⟩=some (.string s0)∧v.cell? ⟨w.heap.size,1,none⟩=some (.string s1)∧v.cell? ⟨w.heap.size+1,0,none⟩=some (.string t0)∧v.cell? ⟨w.heap.size+1,1,none⟩=some (.string t1)) ((first|(simp [*];done)|go_keep)) (first
      |
       (go_at_call_of 85 (Value.string s0)
        apply Calls.mono;apply FBag.of (w0:=W) (n:=1048576);(focus(first|exact HR.out|exact HR.out.drew));assumption;decide;rintro e wn ⟨qq,hq,x1,x2,x3,rfl,hbag⟩;obtain rfl:=Q0.out.inj hq;clear HR;have HR:=Hi hbag;clear hq hbag;have hs0:=HS0.out.below HR.out.base HS0.out.lt;have hs1:=HS1.out.below HR.out.base HS1.out.lt;have k0:wn.cell? ⟨w.heap.size,0,none⟩=some (.string s0):=hs0.cell 0;have k1:wn.cell? ⟨w.heap.size,1,none⟩=some (.string s1):=hs0.cell 1;have k2:wn.cell? ⟨w.heap.size+1,0,none⟩=some (.string t0):=hs1.cell 0;have k3:wn.cell? ⟨w.heap.size+1,1,none⟩=some (.string t1):=hs1.cell 1;clear hs0 hs1
        skip)
      |
       (go_at_call_of 85 (Value.string s1)
        apply Calls.mono;apply FBag.of (w0:=W) (n:=1048576);(focus(first|exact HR.out|exact HR.out.drew));assumption;decide;rintro e wn ⟨qq,hq,x1,x2,x3,rfl,hbag⟩;obtain rfl:=Q1.out.inj hq;clear HR;have HR:=Hi hbag;clear hq hbag;have hs0:=HS0.out.below HR.out.base HS0.out.lt;have hs1:=HS1.out.below HR.out.base HS1.out.lt;have k0:wn.cell? ⟨w.heap.size,0,none⟩=some (.string s0):=hs0.cell 0;have k1:wn.cell? ⟨w.heap.size,1,none⟩=some (.string s1):=hs0.cell 1;have k2:wn.cell? ⟨w.heap.size+1,0,none⟩=some (.string t0):=hs1.cell 0;have k3:wn.cell? ⟨w.heap.size+1,1,none⟩=some (.string t1):=hs1.cell 1;clear hs0 hs1
        skip)
      |
       (go_at_call_of 85 (Value.string t0)
        apply Calls.mono;apply FBag.of (w0:=W) (n:=1048576);(focus(first|exact HR.out|exact HR.out.drew));assumption;decide;rintro e wn ⟨qq,hq,x1,x2,x3,rfl,hbag⟩;obtain rfl:=Q2.out.inj hq;clear HR;have HR:=Hi hbag;clear hq hbag;have hs0:=HS0.out.below HR.out.base HS0.out.lt;have hs1:=HS1.out.below HR.out.base HS1.out.lt;have k0:wn.cell? ⟨w.heap.size,0,none⟩=some (.string s0):=hs0.cell 0;have k1:wn.cell? ⟨w.heap.size,1,none⟩=some (.string s1):=hs0.cell 1;have k2:wn.cell? ⟨w.heap.size+1,0,none⟩=some (.string t0):=hs1.cell 0;have k3:wn.cell? ⟨w.heap.size+1,1,none⟩=some (.string t1):=hs1.cell 1;clear hs0 hs1
        skip)
      |
       (go_at_call_of 85 (Value.string t1)
        apply Calls.mono;apply FBag.of (w0:=W) (n:=1048576);(focus(first|exact HR.out|exact HR.out.drew));assumption;decide;rintro e wn ⟨qq,hq,x1,x2,x3,rfl,hbag⟩;obtain rfl:=Q3.out.inj hq;clear HR;have HR:=Hi hbag;clear hq hbag;have hs0:=HS0.out.below HR.out.base HS0.out.lt;have hs1:=HS1.out.below HR.out.base HS1.out.lt;have k0:wn.cell? ⟨w.heap.size,0,none⟩=some (.string s0):=hs0.cell 0;have k1:wn.cell? ⟨w.heap.size,1,none⟩=some (.string s1):=hs0.cell 1;have k2:wn.cell? ⟨w.heap.size+1,0,none⟩=some (.string t0):=hs1.cell 0;have k3:wn.cell? ⟨w.heap.size+1,1,none⟩=some (.string t1):=hs1.cell 1;clear hs0 hs1
        skip)
      |
       (go_at_call 39
        apply Calls.mono;apply FBag.equalT (w0:=W);(focus(first|exact HR.out|exact HR.out.drew));(focus(repeat(first|exact List.Mem.head _|apply List.Mem.tail)));(focus(repeat(first|exact List.Mem.head _|apply List.Mem.tail)));exact HXE.out;rintro e wn ⟨rfl,hbag⟩;clear HR;have HR:=Hi hbag;clear hbag;have hs0:=HS0.out.below HR.out.base HS0.out.lt;have hs1:=HS1.out.below HR.out.base HS1.out.lt;have k0:wn.cell? ⟨w.heap.size,0,none⟩=some (.string s0):=hs0.cell 0;have k1:wn.cell? ⟨w.heap.size,1,none⟩=some (.string s1):=hs0.cell 1;have k2:wn.cell? ⟨w.heap.size+1,0,none⟩=some (.string t0):=hs1.cell 0;have k3:wn.cell? ⟨w.heap.size+1,1,none⟩=some (.string t1):=hs1.cell 1;clear hs0 hs1
        skip)
      |
       (go_at_call 39
        apply Calls.mono;apply FBag.equalT (w0:=W);(focus(first|exact HR.out|exact HR.out.drew));(focus(repeat(first|exact List.Mem.head _|apply List.Mem.tail)));(focus(repeat(first|exact List.Mem.head _|apply List.Mem.tail)));exact HYE.out;rintro e wn ⟨rfl,hbag⟩;clear HR;have HR:=Hi hbag;clear hbag;have hs0:=HS0.out.below HR.out.base HS0.out.lt;have hs1:=HS1.out.below HR.out.base HS1.out.lt;have k0:wn.cell? ⟨w.heap.size,0,none⟩=some (.string s0):=hs0.cell 0;have k1:wn.cell? ⟨w.heap.size,1,none⟩=some (.string s1):=hs0.cell 1;have k2:wn.cell? ⟨w.heap.size+1,0,none⟩=some (.string t0):=hs1.cell 0;have k3:wn.cell? ⟨w.heap.size+1,1,none⟩=some (.string t1):=hs1.cell 1;clear hs0 hs1
        skip)
      ))
    |fail
   all_goals
    go_wp2;go_ret;exact⟨rfl,HB0.out.trans (HR.out.base.mono HB0.out.size)⟩
  ·
   have HYE:=Hi hy;rw[decide_eq_false (fun h=>hy h.2)];clear hx hy;have HG:=Hi hg;have Q0:=Hi q0;have Q1:=Hi q1;have Q2:=Hi q2;have Q3:=Hi q3;clear hg q0 q1 q2 q3;go_enter Tryz.func127,Tryz.ntmps127;go_wp2_with fail;obtain⟨W,hW⟩:∃W,(w.alloc (.cells #[.string s0,.string s1] 25)).alloc (.cells #[.string t0,.string t1] 25)=W:=⟨_,rfl⟩;have HB0:Hid (Below w.heap.size w W):=Hi (by rw[←hW];exact Below.new2 w _ _);have HS0:Hid (SB W w.heap.size 25 #[.string s0,.string s1]):=Hi (by rw[←hW];exact(SB.new w _ _).alloc _);have HS1:Hid (SB W (w.heap.size+1) 25 #[.string t0,.string t1]):=Hi (by rw[←hW];exact SB.new2 w _ _ _ _);rw[hW];have HR:=Hi (FBag.start (HG.out.below HB0.out));clear hW;have hs0:=HS0.out.below HR.out.base HS0.out.lt;have hs1:=HS1.out.below HR.out.base HS1.out.lt;have k0:W.cell? ⟨w.heap.size,0,none⟩=some (.string s0):=hs0.cell 0
   have k1:W.cell? ⟨w.heap.size,1,none⟩=some (.string s1):=hs0.cell 1;have k2:W.cell? ⟨w.heap.size+1,0,none⟩=some (.string t0):=hs1.cell 0;have k3:W.cell? ⟨w.heap.size+1,1,none⟩=some (.string t1):=hs1.cell 1;clear hs0 hs1
   first
    |(
     go_region_held3 (fun v=>v.cell? ⟨w.heap.size,0,none⟩=some (.string s0)∧v.cell? ⟨w.heap.size,1,none⟩=some (.string s1)∧v.cell? ⟨w.heap.size+1,0,none⟩=some (.string t0)∧v.cell? ⟨w.heap.size+1,1,none⟩=some (.string t1)) ((first|(simp [*];done)|go_keep)) (first
      |
       (go_at_call_of 85 (Value.string s0)
        apply Calls.mono;apply FBag.of (w0:=W) (n:=1048576);(focus(first|exact HR.out|exact HR.out.drew));assumption;decide;rintro e wn ⟨qq,hq,x1,x2,x3,rfl,hbag⟩;obtain rfl:=Q0.out.inj hq;clear HR;have HR:=Hi hbag;clear hq hbag;have hs0:=HS0.out.below HR.out.base HS0.out.lt;have hs1:=HS1.out.below HR.out.base HS1.out.lt;have k0:wn.cell? ⟨w.heap.size,0,none⟩=some (.string s0):=hs0.cell 0;have k1:wn.cell? ⟨w.heap.size,1,none⟩=some (.string s1):=hs0.cell 1;have k2:wn.cell? ⟨w.heap.size+1,0,none⟩=some (.string t0):=hs1.cell 0;have k3:wn.cell? ⟨w.heap.size+1,1,none⟩=some (.string t1):=hs1.cell 1;clear hs0 hs1
        skip)
      |
       (go_at_call_of 85 (Value.string s1)
        apply Calls.mono;apply FBag.of (w0:=W) (n:=1048576);(focus(first|exact HR.out|exact HR.out.drew));assumption;decide;rintro e wn ⟨qq,hq,x1,x2,x3,rfl,hbag⟩;obtain rfl:=Q1.out.inj hq;clear HR;have HR:=Hi hbag;clear hq hbag;have hs0:=HS0.out.below HR.out.base HS0.out.lt;have hs1:=HS1.out.below HR.out.base HS1.out.lt;have k0:wn.cell? ⟨w.heap.size,0,none⟩=some (.string s0):=hs0.cell 0;have k1:wn.cell? ⟨w.heap.size,1,none⟩=some (.string s1):=hs0.cell 1;have k2:wn.cell? ⟨w.heap.size+1,0,none⟩=some (.string t0):=hs1.cell 0;have k3:wn.cell? ⟨w.heap.size+1,1,none⟩=some (.string t1):=hs1.cell 1;clear hs0 hs1
        skip)
      |
       (go_at_call_of 85 (Value.string t0)
        apply Calls.mono;apply FBag.of (w0:=W) (n:=1048576);(focus(first|exact HR.out|exact HR.out.drew));assumption;decide;rintro e wn ⟨qq,hq,x1,x2,x3,rfl,hbag⟩;obtain rfl:=Q2.out.inj hq;clear HR;have HR:=Hi hbag;clear hq hbag;have hs0:=HS0.out.below HR.out.base HS0.out.lt;have hs1:=HS1.out.below HR.out.base HS1.out.lt;have k0:wn.cell? ⟨w.heap.size,0,none⟩=some (.string s0):=hs0.cell 0;have k1:wn.cell? ⟨w.heap.size,1,none⟩=some (.string s1):=hs0.cell 1;have k2:wn.cell? ⟨w.heap.size+1,0,none⟩=some (.string t0):=hs1.cell 0;have k3:wn.cell? ⟨w.heap.size+1,1,none⟩=some (.string t1):=hs1.cell 1;clear hs0 hs1
        skip)
      |
       (go_at_call_of 85 (Value.string t1)
        apply Calls.mono;apply FBag.of (w0:=W) (n:=1048576);(focus(first|exact HR.out|exact HR.out.drew));assumption;decide;rintro e wn ⟨qq,hq,x1,x2,x3,rfl,hbag⟩;obtain rfl:=Q3.out.inj hq;clear HR;have HR:=Hi hbag;clear hq hbag;have hs0:=HS0.out.below HR.out.base HS0.out.lt;have hs1:=HS1.out.below HR.out.base HS1.out.lt;have k0:wn.cell? ⟨w.heap.size,0,none⟩=some (.string s0):=hs0.cell 0;have k1:wn.cell? ⟨w.heap.size,1,none⟩=some (.string s1):=hs0.cell 1;have k2:wn.cell? ⟨w.heap.size+1,0,none⟩=some (.string t0):=hs1.cell 0;have k3:wn.cell? ⟨w.heap.size+1,1,none⟩=some (.string t1):=hs1.cell 1;clear hs0 hs1
        skip)
      |
       (go_at_call 39
        apply Calls.mono;apply FBag.equalT (w0:=W);(focus(first|exact HR.out|exact HR.out.drew));(focus(repeat(first|exact List.Mem.head _|apply List.Mem.tail)));(focus(repeat(first|exact List.Mem.head _|apply List.Mem.tail)));exact HXE.out;rintro e wn ⟨rfl,hbag⟩;clear HR;have HR:=Hi hbag;clear hbag;have hs0:=HS0.out.below HR.out.base HS0.out.lt;have hs1:=HS1.out.below HR.out.base HS1.out.lt;have k0:wn.cell? ⟨w.heap.size,0,none⟩=some (.string s0):=hs0.cell 0;have k1:wn.cell? ⟨w.heap.size,1,none⟩=some (.string s1):=hs0.cell 1;have k2:wn.cell? ⟨w.heap.size+1,0,none⟩=some (.string t0):=hs1.cell 0;have k3:wn.cell? ⟨w.heap.size+1,1,none⟩=some (.string t1):=hs1.cell 1;clear hs0 hs1
        skip)
      |
       (go_at_call 39
        apply Calls.mono;apply FBag.equalF (w0:=W);(focus(first|exact HR.out|exact HR.out.drew));(focus(repeat(first|exact List.Mem.head _|apply List.Mem.tail)));(focus(repeat(first|exact List.Mem.head _|apply List.Mem.tail)));exact HYE.out;rintro e wn ⟨rfl,hbag⟩;clear HR;have HR:=Hi hbag;clear hbag;have hs0:=HS0.out.below HR.out.base HS0.out.lt;have hs1:=HS1.out.below HR.out.base HS1.out.lt;have k0:wn.cell? ⟨w.heap.size,0,none⟩=some (.string s0):=hs0.cell 0;have k1:wn.cell? ⟨w.heap.size,1,none⟩=some (.string s1):=hs0.cell 1;have k2:wn.cell? ⟨w.heap.size+1,0,none⟩=some (.string t0):=hs1.cell 0;have k3:wn.cell? ⟨w.heap.size+1,1,none⟩=some (.string t1):=hs1.cell 1;clear hs0 hs1
        skip)
      ))
    |fail
   all_goals
    go_wp2;go_ret;exact⟨rfl,HB0.out.trans (HR.out.base.mono HB0.out.size)⟩
 ·
  have HXE:=Hi hx;rw[decide_eq_false (fun h=>hx h.1)];clear hx;have HG:=Hi hg;have Q0:=Hi q0;have Q1:=Hi q1;have Q2:=Hi q2;have Q3:=Hi q3;clear hg q0 q1 q2 q3;go_enter Tryz.func127,Tryz.ntmps127;go_wp2_with fail;obtain⟨W,hW⟩:∃W,(w.alloc (.cells #[.string s0,.string s1] 25)).alloc (.cells #[.string t0,.string t1] 25)=W:=⟨_,rfl⟩;have HB0:Hid (Below w.heap.size w W):=Hi (by rw[←hW];exact Below.new2 w _ _);have HS0:Hid (SB W w.heap.size 25 #[.string s0,.string s1]):=Hi (by rw[←hW];exact(SB.new w _ _).alloc _);have HS1:Hid (SB W (w.heap.size+1) 25 #[.string t0,.string t1]):=Hi (by rw[←hW];exact SB.new2 w _ _ _ _);rw[hW];have HR:=Hi (FBag.start (HG.out.below HB0.out));clear hW;have hs0:=HS0.out.below HR.out.base HS0.out.lt;have hs1:=HS1.out.below HR.out.base HS1.out.lt;have k0:W.cell? ⟨w.heap.size,0,none⟩=some (.string s0):=hs0.cell 0
  have k1:W.cell? ⟨w.heap.size,1,none⟩=some (.string s1):=hs0.cell 1;have k2:W.cell? ⟨w.heap.size+1,0,none⟩=some (.string t0):=hs1.cell 0;have k3:W.cell? ⟨w.heap.size+1,1,none⟩=some (.string t1):=hs1.cell 1;clear hs0 hs1
  first
   |(
    go_region_with (first
     |
      (go_at_call_of 85 (Value.string s0)
       apply Calls.mono;apply FBag.of (w0:=W) (n:=1048576);(focus(first|exact HR.out|exact HR.out.drew));assumption;decide;rintro e wn ⟨qq,hq,x1,x2,x3,rfl,hbag⟩;obtain rfl:=Q0.out.inj hq;clear HR;have HR:=Hi hbag;clear hq hbag;have hs0:=HS0.out.below HR.out.base HS0.out.lt;have hs1:=HS1.out.below HR.out.base HS1.out.lt;have k0:wn.cell? ⟨w.heap.size,0,none⟩=some (.string s0):=hs0.cell 0;have k1:wn.cell? ⟨w.heap.size,1,none⟩=some (.string s1):=hs0.cell 1;have k2:wn.cell? ⟨w.heap.size+1,0,none⟩=some (.string t0):=hs1.cell 0;have k3:wn.cell? ⟨w.heap.size+1,1,none⟩=some (.string t1):=hs1.cell 1;clear hs0 hs1
       skip)
     |
      (go_at_call_of 85 (Value.string s1)
       apply Calls.mono;apply FBag.of (w0:=W) (n:=1048576);(focus(first|exact HR.out|exact HR.out.drew));assumption;decide;rintro e wn ⟨qq,hq,x1,x2,x3,rfl,hbag⟩;obtain rfl:=Q1.out.inj hq;clear HR;have HR:=Hi hbag;clear hq hbag;have hs0:=HS0.out.below HR.out.base HS0.out.lt;have hs1:=HS1.out.below HR.out.base HS1.out.lt;have k0:wn.cell? ⟨w.heap.size,0,none⟩=some (.string s0):=hs0.cell 0;have k1:wn.cell? ⟨w.heap.size,1,none⟩=some (.string s1):=hs0.cell 1;have k2:wn.cell? ⟨w.heap.size+1,0,none⟩=some (.string t0):=hs1.cell 0;have k3:wn.cell? ⟨w.heap.size+1,1,none⟩=some (.string t1):=hs1.cell 1;clear hs0 hs1
       skip)
     |
      (go_at_call_of 85 (Value.string t0)
       apply Calls.mono;apply FBag.of (w0:=W) (n:=1048576);(focus(first|exact HR.out|exact HR.out.drew));assumption;decide;rintro e wn ⟨qq,hq,x1,x2,x3,rfl,hbag⟩;obtain rfl:=Q2.out.inj hq;clear HR;have HR:=Hi hbag;clear hq hbag;have hs0:=HS0.out.below HR.out.base HS0.out.lt;have hs1:=HS1.out.below HR.out.base HS1.out.lt;have k0:wn.cell? ⟨w.heap.size,0,none⟩=some (.string s0):=hs0.cell 0;have k1:wn.cell? ⟨w.heap.size,1,none⟩=some (.string s1):=hs0.cell 1;have k2:wn.cell? ⟨w.heap.size+1,0,none⟩=some (.string t0):=hs1.cell 0;have k3:wn.cell? ⟨w.heap.size+1,1,none⟩=some (.string t1):=hs1.cell 1;clear hs0 hs1
       skip)
     |
      (go_at_call_of 85 (Value.string t1)
       apply Calls.mono;apply FBag.of (w0:=W) (n:=1048576);(focus(first|exact HR.out|exact HR.out.drew));assumption;decide;rintro e wn ⟨qq,hq,x1,x2,x3,rfl,hbag⟩;obtain rfl:=Q3.out.inj hq;clear HR;have HR:=Hi hbag;clear hq hbag;have hs0:=HS0.out.below HR.out.base HS0.out.lt;have hs1:=HS1.out.below HR.out.base HS1.out.lt;have k0:wn.cell? ⟨w.heap.size,0,none⟩=some (.string s0):=hs0.cell 0;have k1:wn.cell? ⟨w.heap.size,1,none⟩=some (.string s1):=hs0.cell 1;have k2:wn.cell? ⟨w.heap.size+1,0,none⟩=some (.string t0):=hs1.cell 0;have k3:wn.cell? ⟨w.heap.size+1,1,none⟩=some (.string t1):=hs1.cell 1;clear hs0 hs1
       skip)
     |
      (go_at_call 39
       apply Calls.mono;apply FBag.equalF (w0:=W);(focus(first|exact HR.out|exact HR.out.drew));(focus(repeat(first|exact List.Mem.head _|apply List.Mem.tail)));(focus(repeat(first|exact List.Mem.head _|apply List.Mem.tail)));exact HXE.out;rintro e wn ⟨rfl,hbag⟩;clear HR;have HR:=Hi hbag;clear hbag;have hs0:=HS0.out.below HR.out.base HS0.out.lt;have hs1:=HS1.out.below HR.out.base HS1.out.lt;have k0:wn.cell? ⟨w.heap.size,0,none⟩=some (.string s0):=hs0.cell 0;have k1:wn.cell? ⟨w.heap.size,1,none⟩=some (.string s1):=hs0.cell 1;have k2:wn.cell? ⟨w.heap.size+1,0,none⟩=some (.string t0):=hs1.cell 0;have k3:wn.cell? ⟨w.heap.size+1,1,none⟩=some (.string t1):=hs1.cell 1;clear hs0 hs1
       skip)
     ))
   |fail
  all_goals
   go_wp2;go_ret;exact⟨rfl,HB0.out.trans (HR.out.base.mono HB0.out.size)⟩
end Go.Proofs.YtbbkamnfjejceaaGreatDoor
