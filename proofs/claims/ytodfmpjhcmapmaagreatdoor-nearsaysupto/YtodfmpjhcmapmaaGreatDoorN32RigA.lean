/- package rig: joints and places; num's Sign. -/
import Derived.Test.YtodfmpjhcmapmaaGreatDoorN31Own
namespace Go.Proofs.YtodfmpjhcmapmaaGreatDoor
open Go.RowKit
set_option linter.unusedVariables false
set_option linter.unusedSimpArgs false
structure Lent (w:World) (g1 g2 g3:Nat) (js:List S2) (bs:List B6) (hs:List H3):Prop where
 j:ARow S2.cells w (some ⟨g1,0,none⟩) (js.length+3) (js++ [spotMark,spotMark,spotMark])
 b:ARow B6.cells w (some ⟨g2,0,none⟩) (bs.length+3) (bs++ [barMark,barMark,barMark])
 h:ARow H3.cells w (some ⟨g3,0,none⟩) (hs.length+3) (hs++ [holdMark,holdMark,holdMark])
theorem Lent.below{w w':World}{g1 g2 g3:Nat}{js:List S2}{bs:List B6}{hs:List H3}(h:Lent w g1 g2 g3 js bs hs)(hb:Below w.heap.size w w'):Lent w' g1 g2 g3 js bs hs:=⟨h.j.below hb,h.b.below hb,h.h.below hb⟩
structure FrRow (w:World) (a1 a2 a3:Option Addr) (c1 c2 c3:Nat) (js:List S2) (bs:List B6) (hs:List H3):Prop where
 j:ARow S2.cells w a1 c1 js
 b:ARow B6.cells w a2 c2 bs
 h:ARow H3.cells w a3 c3 hs
theorem FrRow.below{w w':World}{a1 a2 a3:Option Addr}{c1 c2 c3:Nat}{js:List S2}{bs:List B6}{hs:List H3}(h:FrRow w a1 a2 a3 c1 c2 c3 js bs hs)(hb:Below w.heap.size w w'):FrRow w' a1 a2 a3 c1 c2 c3 js bs hs:=⟨h.j.below hb,h.b.below hb,h.h.below hb⟩
theorem Lent.row{w:World}{g1 g2 g3:Nat}{js:List S2}{bs:List B6}{hs:List H3}(h:Lent w g1 g2 g3 js bs hs):FrRow w (some ⟨g1,0,none⟩) (some ⟨g2,0,none⟩) (some ⟨g3,0,none⟩) (js.length+3) (bs.length+3) (hs.length+3) js bs hs:=⟨h.j.left,h.b.left,h.h.left⟩
set_option maxRecDepth 100000 in
set_option maxHeartbeats 4000000 in
theorem Qlc(g1 g2 g3:Nat)(a1 a2 a3:Option Addr)(c1 c2 c3:Nat)(js:List S2)(bs:List B6)(hs:List H3)(w:World)(hm:Marks3 w)(hl:Lent w g1 g2 g3 js bs hs)(hf:FrRow w a1 a2 a3 c1 c2 c3 js bs hs)
 (n1:js.length≤1048576) (n2:bs.length≤1048576) (n3:hs.length≤1048576):
 Calls Tryz.prog 11 #[.agg #[.slice (some ⟨g1,0,none⟩) js.length (js.length+3),.slice (some ⟨g2,0,none⟩) bs.length (bs.length+3),.slice (some ⟨g3,0,none⟩) hs.length (hs.length+3)],.agg #[.slice a1 js.length c1,.slice a2 bs.length c2,.slice a3 hs.length c3]] w fun e w'=>e=.returned (.bool true)∧Below w.heap.size w w':=by
 have HL:=Hi hl;have HF:=Hi hf;have HM:=Hi hm;clear hl hf hm;go_enter Tryz.func11,Tryz.ntmps11;obtain⟨W,hW⟩:∃W,(w.alloc (.cells #[.slice (some ⟨g1,0,none⟩) js.length (js.length+3),.slice (some ⟨g2,0,none⟩) bs.length (bs.length+3),.slice (some ⟨g3,0,none⟩) hs.length (hs.length+3)] 26)).alloc (.cells #[.slice a1 js.length c1,.slice a2 bs.length c2,.slice a3 hs.length c3] 26)=W:=⟨_,rfl⟩;have HB0:Hid (Below w.heap.size w W):=Hi (by rw[←hW];exact Below.new2 w _ _);have HS0:Hid (SB W w.heap.size 26 #[.slice (some ⟨g1,0,none⟩) js.length (js.length+3),.slice (some ⟨g2,0,none⟩) bs.length (bs.length+3),.slice (some ⟨g3,0,none⟩) hs.length (hs.length+3)]):=Hi (by rw[←hW];exact(SB.new w _ _).alloc _);have HS1:Hid (SB W (w.heap.size+1) 26 #[.slice a1 js.length c1,.slice a2 bs.length c2,.slice a3 hs.length c3]):=Hi (by rw[←hW];exact SB.new2 w _ _ _ _);have HMW:=Hi (Marks3.stay.step _ _ HB0.out HM.out)
 have HR:Hid (Below W.heap.size W W):=Hi (Below.refl _ _);have hx:=HS0.out.below HR.out HS0.out.lt;have hy:=HS1.out.below HR.out HS1.out.lt;have hmm:=Marks3.stay.step _ _ HR.out HMW.out;have x0:W.cell? ⟨w.heap.size,0,none⟩=some (.slice (some ⟨g1,0,none⟩) js.length (js.length+3)):=hx.cell 0;have x1:W.cell? ⟨w.heap.size,1,none⟩=some (.slice (some ⟨g2,0,none⟩) bs.length (bs.length+3)):=hx.cell 1;have x2:W.cell? ⟨w.heap.size,2,none⟩=some (.slice (some ⟨g3,0,none⟩) hs.length (hs.length+3)):=hx.cell 2;have y0:W.cell? ⟨w.heap.size+1,0,none⟩=some (.slice a1 js.length c1):=hy.cell 0;have y1:W.cell? ⟨w.heap.size+1,1,none⟩=some (.slice a2 bs.length c2):=hy.cell 1;have y2:W.cell? ⟨w.heap.size+1,2,none⟩=some (.slice a3 hs.length c3):=hy.cell 2;have m0:=hmm.s0;have m1:=hmm.s1;have m2:=hmm.b0;have m3:=hmm.b1;have m4:=hmm.b2;have m5:=hmm.b3;have m6:=hmm.b4;have m7:=hmm.b5;have m8:=hmm.h0;have m9:=hmm.h1
 have m10:=hmm.h2;clear hx hy hmm;rw[←hW] at x0 x1 x2 y0 y1 y2 m0 m1 m2 m3 m4 m5 m6 m7 m8 m9 m10;have HW:=Hi hW;clear hW;go_wp2_with fail;rw[HW.out];clear x0 x1 x2 y0 y1 y2 m0 m1 m2 m3 m4 m5 m6 m7 m8 m9 m10;go_fit (Qrv g1 a1 c1 js _ _ W (HL.out.j.below HB0.out) (HF.out.j.below HB0.out) n1);rintro e w1 ⟨rfl,hb1⟩;have HR1:=Hi hb1;clear hb1;have hx:=HS0.out.below HR1.out HS0.out.lt;have hy:=HS1.out.below HR1.out HS1.out.lt;have hmm:=Marks3.stay.step _ _ HR1.out HMW.out;have x0:w1.cell? ⟨w.heap.size,0,none⟩=some (.slice (some ⟨g1,0,none⟩) js.length (js.length+3)):=hx.cell 0;have x1:w1.cell? ⟨w.heap.size,1,none⟩=some (.slice (some ⟨g2,0,none⟩) bs.length (bs.length+3)):=hx.cell 1;have x2:w1.cell? ⟨w.heap.size,2,none⟩=some (.slice (some ⟨g3,0,none⟩) hs.length (hs.length+3)):=hx.cell 2;have y0:w1.cell? ⟨w.heap.size+1,0,none⟩=some (.slice a1 js.length c1):=hy.cell 0
 have y1:w1.cell? ⟨w.heap.size+1,1,none⟩=some (.slice a2 bs.length c2):=hy.cell 1;have y2:w1.cell? ⟨w.heap.size+1,2,none⟩=some (.slice a3 hs.length c3):=hy.cell 2;have m0:=hmm.s0;have m1:=hmm.s1;have m2:=hmm.b0;have m3:=hmm.b1;have m4:=hmm.b2;have m5:=hmm.b3;have m6:=hmm.b4;have m7:=hmm.b5;have m8:=hmm.h0;have m9:=hmm.h1;have m10:=hmm.h2;clear hx hy hmm;go_wp2_with fail;clear x0 x1 x2 y0 y1 y2 m0 m1 m2 m3 m4 m5 m6 m7 m8 m9 m10;go_fit (Qrw g2 a2 c2 bs _ _ _ _ _ _ w1 ((HL.out.b.below HB0.out).below HR1.out) ((HF.out.b.below HB0.out).below HR1.out) n2);rintro e w2 ⟨rfl,hb2⟩;have HR2:=Hi (HR1.out.trans (hb2.mono HR1.out.size));clear hb2;have hx:=HS0.out.below HR2.out HS0.out.lt;have hy:=HS1.out.below HR2.out HS1.out.lt;have hmm:=Marks3.stay.step _ _ HR2.out HMW.out;have x0:w2.cell? ⟨w.heap.size,0,none⟩=some (.slice (some ⟨g1,0,none⟩) js.length (js.length+3)):=hx.cell 0
 have x1:w2.cell? ⟨w.heap.size,1,none⟩=some (.slice (some ⟨g2,0,none⟩) bs.length (bs.length+3)):=hx.cell 1;have x2:w2.cell? ⟨w.heap.size,2,none⟩=some (.slice (some ⟨g3,0,none⟩) hs.length (hs.length+3)):=hx.cell 2;have y0:w2.cell? ⟨w.heap.size+1,0,none⟩=some (.slice a1 js.length c1):=hy.cell 0;have y1:w2.cell? ⟨w.heap.size+1,1,none⟩=some (.slice a2 bs.length c2):=hy.cell 1;have y2:w2.cell? ⟨w.heap.size+1,2,none⟩=some (.slice a3 hs.length c3):=hy.cell 2;have m0:=hmm.s0;have m1:=hmm.s1;have m2:=hmm.b0;have m3:=hmm.b1;have m4:=hmm.b2;have m5:=hmm.b3;have m6:=hmm.b4;have m7:=hmm.b5;have m8:=hmm.h0;have m9:=hmm.h1;have m10:=hmm.h2;clear hx hy hmm;go_wp2_with fail;clear x0 x1 x2 y0 y1 y2 m0 m1 m2 m3 m4 m5 m6 m7 m8 m9 m10;go_fit (Qrx g3 a3 c3 hs _ _ _ w2 ((HL.out.h.below HB0.out).below HR2.out) ((HF.out.h.below HB0.out).below HR2.out) n3);rintro e w3 ⟨rfl,hb3⟩
 have HR3:=Hi (HR2.out.trans (hb3.mono HR2.out.size));clear hb3;go_wp2;go_ret;exact⟨rfl,HB0.out.trans (HR3.out.mono HB0.out.size)⟩
end Go.Proofs.YtodfmpjhcmapmaaGreatDoor
namespace Go.Proofs.YtodfmpjhcmapmaaGreatDoor
open Go.RowKit
set_option linter.unusedVariables false
theorem Glob.stay:Stay Glob:=⟨fun _ _ hb h=>h.below hb⟩
theorem Lent.stay(g1 g2 g3:Nat)(js:List S2)(bs:List B6)(hs:List H3):Stay (fun w=>Lent w g1 g2 g3 js bs hs):=⟨fun _ _ hb h=>h.below hb⟩
theorem FrRow.stay(a1 a2 a3:Option Addr)(c1 c2 c3:Nat)(js:List S2)(bs:List B6)(hs:List H3):Stay (fun w=>FrRow w a1 a2 a3 c1 c2 c3 js bs hs):=⟨fun _ _ hb h=>h.below hb⟩
theorem PBag.nth{w0 w:World}{L:List (World→Prop)}{P:World→Prop}(h:PBag w0 w L)(k:Nat)(e:L[k]?=some P):P w:=h.get P (List.mem_of_getElem? e)
theorem PBag.add{w0 w:World}{L:List (World→Prop)}{P:World→Prop}(h:PBag w0 w L)(hP:P w)(hs:Stay P):PBag w0 w (L++ [P]):=
 ⟨h.base,fun Q hQ=>by
   rcases List.mem_append.1 hQ with hQ|hQ
   · exact h.ps Q hQ
   · obtain rfl:=List.mem_singleton.1 hQ
     exact⟨hP,hs⟩⟩
theorem bTr{w x y:World}(h:Below w.heap.size w x)(k:Below x.heap.size x y):Below w.heap.size w y:=h.trans (k.mono h.size)
set_option linter.unusedSimpArgs false
theorem Qq4{q:Rat}(h:¬q=0):sgn3 q.num=if q.num<0 then -1 else 1:=by
 have h1:q.num≠0:=fun hc=>h (Rat.num_eq_zero.1 hc)
 unfold sgn3;by_cases h2:q.num<0
 · rw[if_pos h2,if_pos h2]
 · rw[if_neg h2,if_neg h2,if_neg h1]
set_option maxHeartbeats 1000000 in
theorem Qi2{v:Value}{q:Rat}{w:World}(hx:FracV w v q):Calls Tryz.prog 63 #[v] w fun e w'=>e=.returned (.int .i64 (sgn3 q.num))∧Below w.heap.size w w':=by
 have HX:=Hi hx;obtain⟨neg,a,n,c,b,m,d,rfl,hx⟩:=hx;have HN:=Hi hx.neg;clear hx;go_enter Tryz.func63,Tryz.ntmps63;go_wp2_with fail;obtain⟨W,hW⟩:∃W,w.alloc (.cells #[.bool neg,.slice a n c,.slice b m d] 62)=W:=⟨_,rfl⟩;have HB0:Hid (Below w.heap.size w W):=Hi (by rw[←hW];exact(Below.refl _ _).alloc (Nat.le_refl _) _);have HSB:Hid (SB W w.heap.size 62 #[.bool neg,.slice a n c,.slice b m d]):=Hi (by rw[←hW];exact SB.new w _ _);rw[hW];clear hW;go_fit (Qk1 (HX.out.below HB0.out));rintro e w1 ⟨rfl,hb1⟩;have hs:=HSB.out.below hb1 HSB.out.lt;have k0:w1.cell? ⟨w.heap.size,0,none⟩=some (.bool neg):=hs.cell 0;have HB1:=Hi (HB0.out.trans (hb1.mono HB0.out.size));clear hb1 hs;by_cases h:q=0
 ·
  have hd:decide (q=0)=true:=decide_eq_true h;rw[hd];go_wp2;go_ret;exact⟨by rw[h];rfl,HB1.out⟩
 ·
  have hd:decide (q=0)=false:=decide_eq_false h;rw[hd];have e3:=Qq4 h;by_cases h2:q.num<0
  ·
   obtain rfl:neg=true:=by rw[HN.out];exact decide_eq_true h2
   rw[if_pos h2] at e3;have E3:=Hi e3;clear e3 HN;go_wp2;go_ret;exact⟨by rw[E3.out];rfl,HB1.out⟩
  ·
   obtain rfl:neg=false:=by rw[HN.out];exact decide_eq_false h2
   rw[if_neg h2] at e3;have E3:=Hi e3;clear e3 HN;go_wp2;go_ret;exact⟨by rw[E3.out];rfl,HB1.out⟩
theorem FBag.sign{w0 w:World}{L:List FE}{x1 x2 x3:Value}{j:Nat}{p:Rat}(h:FBag w0 w L)(hx:⟨x1,x2,x3,p,j⟩∈ L):
 Calls Tryz.prog 63 #[.agg #[x1,x2,x3]] w (fun e w'=>e=.returned (.int .i64 (sgn3 p.num))∧FBag w0 w' L):=by
 obtain⟨hx,fx,kx⟩:=h.get hx;refine(Qi2 hx).mono ?_;rintro e w' ⟨rfl,hb⟩;exact⟨rfl,h.below hb⟩
theorem FBag.equalT{w0 w:World}{L:List FE}{x1 x2 x3 y1 y2 y3:Value}{j k:Nat}{p q:Rat}(h:FBag w0 w L)(hx:⟨x1,x2,x3,p,j⟩∈ L)(hy:⟨y1,y2,y3,q,k⟩∈ L)(he:p=q):
 Calls Tryz.prog 143 #[.agg #[x1,x2,x3],.agg #[y1,y2,y3]] w (fun e w'=>e=.returned (.bool true)∧FBag w0 w' L):=by
 have:=h.equal hx hy;rw[decide_eq_true he] at this;exact this
theorem FBag.equalF{w0 w:World}{L:List FE}{x1 x2 x3 y1 y2 y3:Value}{j k:Nat}{p q:Rat}(h:FBag w0 w L)(hx:⟨x1,x2,x3,p,j⟩∈ L)(hy:⟨y1,y2,y3,q,k⟩∈ L)(he:¬p=q):
 Calls Tryz.prog 143 #[.agg #[x1,x2,x3],.agg #[y1,y2,y3]] w (fun e w'=>e=.returned (.bool false)∧FBag w0 w' L):=by
 have:=h.equal hx hy;rw[decide_eq_false he] at this;exact this
def IsJ(n:Nat)(k:Int):Prop:=0≤k∧k<n
theorem Qbl(a:Option Addr)(n c:Nat)(k:Int)(w:World)(h:IsJ n k):Calls Tryz.prog 105 #[.slice a n c,.int .i64 k] w fun e w'=>e=.returned (.bool true)∧w'=w:=by
 obtain⟨h1,h2⟩:=h;go_enter Tryz.func105,Tryz.ntmps105;go_wp2;go_ret;exact⟨by simp[h1,h2],rfl⟩
theorem Qfb(a:Option Addr)(n c:Nat)(k:Int)(w:World)(h:¬IsJ n k):Calls Tryz.prog 105 #[.slice a n c,.int .i64 k] w fun e w'=>e=.returned (.bool false)∧w'=w:=by
 by_cases h1:0≤k
 ·
  have h2:¬(k<(n:Int)):=fun h2=>h ⟨h1,h2⟩
  go_enter Tryz.func105,Tryz.ntmps105;go_wp2;go_ret;exact⟨by simp<;>omega,rfl⟩
 ·
  have h2:decide (0≤k)=false:=decide_eq_false h1;go_enter Tryz.func105,Tryz.ntmps105;go_wp2;go_ret;exact⟨by simp<;>omega,rfl⟩
set_option maxRecDepth 100000 in
set_option maxHeartbeats 4000000 in
theorem Qq5(s0 s1 t0 t1:ByteArray)(px py qx qy:Rat)(w:World)(hg:Glob w)(h0:s0.size≤1048576)(h1:s1.size≤1048576)(h2:t0.size≤1048576)(h3:t1.size≤1048576)
 (q0:QOf s0.data.toList px) (q1:QOf s1.data.toList py) (q2:QOf t0.data.toList qx) (q3:QOf t1.data.toList qy):
 Calls Tryz.prog 106 #[.agg #[.string s0,.string s1],.agg #[.string t0,.string t1]] w fun e w'=>e=.returned (.bool (decide (px=qx∧py=qy)))∧Below w.heap.size w w':=by
 by_cases hx:px=qx
 ·
  have HXE:=Hi hx;by_cases hy:py=qy
  ·
   have HYE:=Hi hy;rw[decide_eq_true ⟨hx,hy⟩];clear hx hy;have HG:=Hi hg;have Q0:=Hi q0;have Q1:=Hi q1;have Q2:=Hi q2;have Q3:=Hi q3;clear hg q0 q1 q2 q3;go_enter Tryz.func106,Tryz.ntmps106;go_wp2_with fail;obtain⟨W,hW⟩:∃W,(w.alloc (.cells #[.string s0,.string s1] 36)).alloc (.cells #[.string t0,.string t1] 36)=W:=⟨_,rfl⟩;have HB0:Hid (Below w.heap.size w W):=Hi (by rw[←hW];exact Below.new2 w _ _);have HS0:Hid (SB W w.heap.size 36 #[.string s0,.string s1]):=Hi (by rw[←hW];exact(SB.new w _ _).alloc _);have HS1:Hid (SB W (w.heap.size+1) 36 #[.string t0,.string t1]):=Hi (by rw[←hW];exact SB.new2 w _ _ _ _);rw[hW];have HR:=Hi (FBag.start (HG.out.below HB0.out));clear hW;have hs0:=HS0.out.below HR.out.base HS0.out.lt;have hs1:=HS1.out.below HR.out.base HS1.out.lt;have k0:W.cell? ⟨w.heap.size,0,none⟩=some (.string s0):=hs0.cell 0;have k1:W.cell? ⟨w.heap.size,1,none⟩=some (.string s1):=hs0.cell 1
   have k2:W.cell? ⟨w.heap.size+1,0,none⟩=some (.string t0):=hs1.cell 0;have k3:W.cell? ⟨w.heap.size+1,1,none⟩=some (.string t1):=hs1.cell 1;clear hs0 hs1
   first
    |(
     go_region_held3 (fun v=>v.cell? ⟨w.heap.size,0,none⟩=some (.string s0)∧v.cell? ⟨w.heap.size,1,none⟩=some (.string s1)∧v.cell? ⟨w.heap.size+1,0,none⟩=some (.string t0)∧v.cell? ⟨w.heap.size+1,1,none⟩=some (.string t1)) ((first|(simp [*];done)|go_keep)) (first
      |
       (go_at_call_of 29 (Value.string s0)
        apply Calls.mono;apply FBag.of (w0:=W) (n:=1048576);(focus(first|exact HR.out|exact HR.out.drew));assumption;decide;rintro e wn ⟨qq,hq,x1,x2,x3,rfl,hbag⟩;obtain rfl:=Q0.out.inj hq;clear HR;have HR:=Hi hbag;clear hq hbag;have hs0:=HS0.out.below HR.out.base HS0.out.lt;have hs1:=HS1.out.below HR.out.base HS1.out.lt;have k0:wn.cell? ⟨w.heap.size,0,none⟩=some (.string s0):=hs0.cell 0;have k1:wn.cell? ⟨w.heap.size,1,none⟩=some (.string s1):=hs0.cell 1;have k2:wn.cell? ⟨w.heap.size+1,0,none⟩=some (.string t0):=hs1.cell 0;have k3:wn.cell? ⟨w.heap.size+1,1,none⟩=some (.string t1):=hs1.cell 1;clear hs0 hs1
        skip)
      |
       (go_at_call_of 29 (Value.string s1)
        apply Calls.mono;apply FBag.of (w0:=W) (n:=1048576);(focus(first|exact HR.out|exact HR.out.drew));assumption;decide;rintro e wn ⟨qq,hq,x1,x2,x3,rfl,hbag⟩;obtain rfl:=Q1.out.inj hq;clear HR;have HR:=Hi hbag;clear hq hbag;have hs0:=HS0.out.below HR.out.base HS0.out.lt;have hs1:=HS1.out.below HR.out.base HS1.out.lt;have k0:wn.cell? ⟨w.heap.size,0,none⟩=some (.string s0):=hs0.cell 0;have k1:wn.cell? ⟨w.heap.size,1,none⟩=some (.string s1):=hs0.cell 1;have k2:wn.cell? ⟨w.heap.size+1,0,none⟩=some (.string t0):=hs1.cell 0;have k3:wn.cell? ⟨w.heap.size+1,1,none⟩=some (.string t1):=hs1.cell 1;clear hs0 hs1
        skip)
      |
       (go_at_call_of 29 (Value.string t0)
        apply Calls.mono;apply FBag.of (w0:=W) (n:=1048576);(focus(first|exact HR.out|exact HR.out.drew));assumption;decide;rintro e wn ⟨qq,hq,x1,x2,x3,rfl,hbag⟩;obtain rfl:=Q2.out.inj hq;clear HR;have HR:=Hi hbag;clear hq hbag;have hs0:=HS0.out.below HR.out.base HS0.out.lt;have hs1:=HS1.out.below HR.out.base HS1.out.lt;have k0:wn.cell? ⟨w.heap.size,0,none⟩=some (.string s0):=hs0.cell 0;have k1:wn.cell? ⟨w.heap.size,1,none⟩=some (.string s1):=hs0.cell 1;have k2:wn.cell? ⟨w.heap.size+1,0,none⟩=some (.string t0):=hs1.cell 0;have k3:wn.cell? ⟨w.heap.size+1,1,none⟩=some (.string t1):=hs1.cell 1;clear hs0 hs1
        skip)
      |
       (go_at_call_of 29 (Value.string t1)
        apply Calls.mono;apply FBag.of (w0:=W) (n:=1048576);(focus(first|exact HR.out|exact HR.out.drew));assumption;decide;rintro e wn ⟨qq,hq,x1,x2,x3,rfl,hbag⟩;obtain rfl:=Q3.out.inj hq;clear HR;have HR:=Hi hbag;clear hq hbag;have hs0:=HS0.out.below HR.out.base HS0.out.lt;have hs1:=HS1.out.below HR.out.base HS1.out.lt;have k0:wn.cell? ⟨w.heap.size,0,none⟩=some (.string s0):=hs0.cell 0;have k1:wn.cell? ⟨w.heap.size,1,none⟩=some (.string s1):=hs0.cell 1;have k2:wn.cell? ⟨w.heap.size+1,0,none⟩=some (.string t0):=hs1.cell 0;have k3:wn.cell? ⟨w.heap.size+1,1,none⟩=some (.string t1):=hs1.cell 1;clear hs0 hs1
        skip)
      |
       (go_at_call 143
        apply Calls.mono;apply FBag.equalT (w0:=W);(focus(first|exact HR.out|exact HR.out.drew));(focus(repeat(first|exact List.Mem.head _|apply List.Mem.tail)));(focus(repeat(first|exact List.Mem.head _|apply List.Mem.tail)));exact HXE.out;rintro e wn ⟨rfl,hbag⟩;clear HR;have HR:=Hi hbag;clear hbag;have hs0:=HS0.out.below HR.out.base HS0.out.lt;have hs1:=HS1.out.below HR.out.base HS1.out.lt;have k0:wn.cell? ⟨w.heap.size,0,none⟩=some (.string s0):=hs0.cell 0;have k1:wn.cell? ⟨w.heap.size,1,none⟩=some (.string s1):=hs0.cell 1;have k2:wn.cell? ⟨w.heap.size+1,0,none⟩=some (.string t0):=hs1.cell 0;have k3:wn.cell? ⟨w.heap.size+1,1,none⟩=some (.string t1):=hs1.cell 1;clear hs0 hs1
        skip)
      |
       (go_at_call 143
        apply Calls.mono;apply FBag.equalT (w0:=W);(focus(first|exact HR.out|exact HR.out.drew));(focus(repeat(first|exact List.Mem.head _|apply List.Mem.tail)));(focus(repeat(first|exact List.Mem.head _|apply List.Mem.tail)));exact HYE.out;rintro e wn ⟨rfl,hbag⟩;clear HR;have HR:=Hi hbag;clear hbag;have hs0:=HS0.out.below HR.out.base HS0.out.lt;have hs1:=HS1.out.below HR.out.base HS1.out.lt;have k0:wn.cell? ⟨w.heap.size,0,none⟩=some (.string s0):=hs0.cell 0;have k1:wn.cell? ⟨w.heap.size,1,none⟩=some (.string s1):=hs0.cell 1;have k2:wn.cell? ⟨w.heap.size+1,0,none⟩=some (.string t0):=hs1.cell 0;have k3:wn.cell? ⟨w.heap.size+1,1,none⟩=some (.string t1):=hs1.cell 1;clear hs0 hs1
        skip)
      ))
    |fail
   all_goals
    go_wp2;go_ret;exact⟨rfl,HB0.out.trans (HR.out.base.mono HB0.out.size)⟩
  ·
   have HYE:=Hi hy;rw[decide_eq_false (fun h=>hy h.2)];clear hx hy;have HG:=Hi hg;have Q0:=Hi q0;have Q1:=Hi q1;have Q2:=Hi q2;have Q3:=Hi q3;clear hg q0 q1 q2 q3;go_enter Tryz.func106,Tryz.ntmps106;go_wp2_with fail;obtain⟨W,hW⟩:∃W,(w.alloc (.cells #[.string s0,.string s1] 36)).alloc (.cells #[.string t0,.string t1] 36)=W:=⟨_,rfl⟩;have HB0:Hid (Below w.heap.size w W):=Hi (by rw[←hW];exact Below.new2 w _ _);have HS0:Hid (SB W w.heap.size 36 #[.string s0,.string s1]):=Hi (by rw[←hW];exact(SB.new w _ _).alloc _);have HS1:Hid (SB W (w.heap.size+1) 36 #[.string t0,.string t1]):=Hi (by rw[←hW];exact SB.new2 w _ _ _ _);rw[hW];have HR:=Hi (FBag.start (HG.out.below HB0.out));clear hW;have hs0:=HS0.out.below HR.out.base HS0.out.lt;have hs1:=HS1.out.below HR.out.base HS1.out.lt;have k0:W.cell? ⟨w.heap.size,0,none⟩=some (.string s0):=hs0.cell 0
   have k1:W.cell? ⟨w.heap.size,1,none⟩=some (.string s1):=hs0.cell 1;have k2:W.cell? ⟨w.heap.size+1,0,none⟩=some (.string t0):=hs1.cell 0;have k3:W.cell? ⟨w.heap.size+1,1,none⟩=some (.string t1):=hs1.cell 1;clear hs0 hs1
   first
    |(
     go_region_held3 (fun v=>v.cell? ⟨w.heap.size,0,none⟩=some (.string s0)∧v.cell? ⟨w.heap.size,1,none⟩=some (.string s1)∧v.cell? ⟨w.heap.size+1,0,none⟩=some (.string t0)∧v.cell? ⟨w.heap.size+1,1,none⟩=some (.string t1)) ((first|(simp [*];done)|go_keep)) (first
      |
       (go_at_call_of 29 (Value.string s0)
        apply Calls.mono;apply FBag.of (w0:=W) (n:=1048576);(focus(first|exact HR.out|exact HR.out.drew));assumption;decide;rintro e wn ⟨qq,hq,x1,x2,x3,rfl,hbag⟩;obtain rfl:=Q0.out.inj hq;clear HR;have HR:=Hi hbag;clear hq hbag;have hs0:=HS0.out.below HR.out.base HS0.out.lt;have hs1:=HS1.out.below HR.out.base HS1.out.lt;have k0:wn.cell? ⟨w.heap.size,0,none⟩=some (.string s0):=hs0.cell 0;have k1:wn.cell? ⟨w.heap.size,1,none⟩=some (.string s1):=hs0.cell 1;have k2:wn.cell? ⟨w.heap.size+1,0,none⟩=some (.string t0):=hs1.cell 0;have k3:wn.cell? ⟨w.heap.size+1,1,none⟩=some (.string t1):=hs1.cell 1;clear hs0 hs1
        skip)
      |
       (go_at_call_of 29 (Value.string s1)
        apply Calls.mono;apply FBag.of (w0:=W) (n:=1048576);(focus(first|exact HR.out|exact HR.out.drew));assumption;decide;rintro e wn ⟨qq,hq,x1,x2,x3,rfl,hbag⟩;obtain rfl:=Q1.out.inj hq;clear HR;have HR:=Hi hbag;clear hq hbag;have hs0:=HS0.out.below HR.out.base HS0.out.lt;have hs1:=HS1.out.below HR.out.base HS1.out.lt;have k0:wn.cell? ⟨w.heap.size,0,none⟩=some (.string s0):=hs0.cell 0;have k1:wn.cell? ⟨w.heap.size,1,none⟩=some (.string s1):=hs0.cell 1;have k2:wn.cell? ⟨w.heap.size+1,0,none⟩=some (.string t0):=hs1.cell 0;have k3:wn.cell? ⟨w.heap.size+1,1,none⟩=some (.string t1):=hs1.cell 1;clear hs0 hs1
        skip)
      |
       (go_at_call_of 29 (Value.string t0)
        apply Calls.mono;apply FBag.of (w0:=W) (n:=1048576);(focus(first|exact HR.out|exact HR.out.drew));assumption;decide;rintro e wn ⟨qq,hq,x1,x2,x3,rfl,hbag⟩;obtain rfl:=Q2.out.inj hq;clear HR;have HR:=Hi hbag;clear hq hbag;have hs0:=HS0.out.below HR.out.base HS0.out.lt;have hs1:=HS1.out.below HR.out.base HS1.out.lt;have k0:wn.cell? ⟨w.heap.size,0,none⟩=some (.string s0):=hs0.cell 0;have k1:wn.cell? ⟨w.heap.size,1,none⟩=some (.string s1):=hs0.cell 1;have k2:wn.cell? ⟨w.heap.size+1,0,none⟩=some (.string t0):=hs1.cell 0;have k3:wn.cell? ⟨w.heap.size+1,1,none⟩=some (.string t1):=hs1.cell 1;clear hs0 hs1
        skip)
      |
       (go_at_call_of 29 (Value.string t1)
        apply Calls.mono;apply FBag.of (w0:=W) (n:=1048576);(focus(first|exact HR.out|exact HR.out.drew));assumption;decide;rintro e wn ⟨qq,hq,x1,x2,x3,rfl,hbag⟩;obtain rfl:=Q3.out.inj hq;clear HR;have HR:=Hi hbag;clear hq hbag;have hs0:=HS0.out.below HR.out.base HS0.out.lt;have hs1:=HS1.out.below HR.out.base HS1.out.lt;have k0:wn.cell? ⟨w.heap.size,0,none⟩=some (.string s0):=hs0.cell 0;have k1:wn.cell? ⟨w.heap.size,1,none⟩=some (.string s1):=hs0.cell 1;have k2:wn.cell? ⟨w.heap.size+1,0,none⟩=some (.string t0):=hs1.cell 0;have k3:wn.cell? ⟨w.heap.size+1,1,none⟩=some (.string t1):=hs1.cell 1;clear hs0 hs1
        skip)
      |
       (go_at_call 143
        apply Calls.mono;apply FBag.equalT (w0:=W);(focus(first|exact HR.out|exact HR.out.drew));(focus(repeat(first|exact List.Mem.head _|apply List.Mem.tail)));(focus(repeat(first|exact List.Mem.head _|apply List.Mem.tail)));exact HXE.out;rintro e wn ⟨rfl,hbag⟩;clear HR;have HR:=Hi hbag;clear hbag;have hs0:=HS0.out.below HR.out.base HS0.out.lt;have hs1:=HS1.out.below HR.out.base HS1.out.lt;have k0:wn.cell? ⟨w.heap.size,0,none⟩=some (.string s0):=hs0.cell 0;have k1:wn.cell? ⟨w.heap.size,1,none⟩=some (.string s1):=hs0.cell 1;have k2:wn.cell? ⟨w.heap.size+1,0,none⟩=some (.string t0):=hs1.cell 0;have k3:wn.cell? ⟨w.heap.size+1,1,none⟩=some (.string t1):=hs1.cell 1;clear hs0 hs1
        skip)
      |
       (go_at_call 143
        apply Calls.mono;apply FBag.equalF (w0:=W);(focus(first|exact HR.out|exact HR.out.drew));(focus(repeat(first|exact List.Mem.head _|apply List.Mem.tail)));(focus(repeat(first|exact List.Mem.head _|apply List.Mem.tail)));exact HYE.out;rintro e wn ⟨rfl,hbag⟩;clear HR;have HR:=Hi hbag;clear hbag;have hs0:=HS0.out.below HR.out.base HS0.out.lt;have hs1:=HS1.out.below HR.out.base HS1.out.lt;have k0:wn.cell? ⟨w.heap.size,0,none⟩=some (.string s0):=hs0.cell 0;have k1:wn.cell? ⟨w.heap.size,1,none⟩=some (.string s1):=hs0.cell 1;have k2:wn.cell? ⟨w.heap.size+1,0,none⟩=some (.string t0):=hs1.cell 0;have k3:wn.cell? ⟨w.heap.size+1,1,none⟩=some (.string t1):=hs1.cell 1;clear hs0 hs1
        skip)
      ))
    |fail
   all_goals
    go_wp2;go_ret;exact⟨rfl,HB0.out.trans (HR.out.base.mono HB0.out.size)⟩
 ·
  have HXE:=Hi hx;rw[decide_eq_false (fun h=>hx h.1)];clear hx;have HG:=Hi hg;have Q0:=Hi q0;have Q1:=Hi q1;have Q2:=Hi q2;have Q3:=Hi q3;clear hg q0 q1 q2 q3;go_enter Tryz.func106,Tryz.ntmps106;go_wp2_with fail;obtain⟨W,hW⟩:∃W,(w.alloc (.cells #[.string s0,.string s1] 36)).alloc (.cells #[.string t0,.string t1] 36)=W:=⟨_,rfl⟩;have HB0:Hid (Below w.heap.size w W):=Hi (by rw[←hW];exact Below.new2 w _ _);have HS0:Hid (SB W w.heap.size 36 #[.string s0,.string s1]):=Hi (by rw[←hW];exact(SB.new w _ _).alloc _);have HS1:Hid (SB W (w.heap.size+1) 36 #[.string t0,.string t1]):=Hi (by rw[←hW];exact SB.new2 w _ _ _ _);rw[hW];have HR:=Hi (FBag.start (HG.out.below HB0.out));clear hW;have hs0:=HS0.out.below HR.out.base HS0.out.lt;have hs1:=HS1.out.below HR.out.base HS1.out.lt;have k0:W.cell? ⟨w.heap.size,0,none⟩=some (.string s0):=hs0.cell 0
  have k1:W.cell? ⟨w.heap.size,1,none⟩=some (.string s1):=hs0.cell 1;have k2:W.cell? ⟨w.heap.size+1,0,none⟩=some (.string t0):=hs1.cell 0;have k3:W.cell? ⟨w.heap.size+1,1,none⟩=some (.string t1):=hs1.cell 1;clear hs0 hs1
  first
   |(
    go_region_with (first
     |
      (go_at_call_of 29 (Value.string s0)
       apply Calls.mono;apply FBag.of (w0:=W) (n:=1048576);(focus(first|exact HR.out|exact HR.out.drew));assumption;decide;rintro e wn ⟨qq,hq,x1,x2,x3,rfl,hbag⟩;obtain rfl:=Q0.out.inj hq;clear HR;have HR:=Hi hbag;clear hq hbag;have hs0:=HS0.out.below HR.out.base HS0.out.lt;have hs1:=HS1.out.below HR.out.base HS1.out.lt;have k0:wn.cell? ⟨w.heap.size,0,none⟩=some (.string s0):=hs0.cell 0;have k1:wn.cell? ⟨w.heap.size,1,none⟩=some (.string s1):=hs0.cell 1;have k2:wn.cell? ⟨w.heap.size+1,0,none⟩=some (.string t0):=hs1.cell 0;have k3:wn.cell? ⟨w.heap.size+1,1,none⟩=some (.string t1):=hs1.cell 1;clear hs0 hs1
       skip)
     |
      (go_at_call_of 29 (Value.string s1)
       apply Calls.mono;apply FBag.of (w0:=W) (n:=1048576);(focus(first|exact HR.out|exact HR.out.drew));assumption;decide;rintro e wn ⟨qq,hq,x1,x2,x3,rfl,hbag⟩;obtain rfl:=Q1.out.inj hq;clear HR;have HR:=Hi hbag;clear hq hbag;have hs0:=HS0.out.below HR.out.base HS0.out.lt;have hs1:=HS1.out.below HR.out.base HS1.out.lt;have k0:wn.cell? ⟨w.heap.size,0,none⟩=some (.string s0):=hs0.cell 0;have k1:wn.cell? ⟨w.heap.size,1,none⟩=some (.string s1):=hs0.cell 1;have k2:wn.cell? ⟨w.heap.size+1,0,none⟩=some (.string t0):=hs1.cell 0;have k3:wn.cell? ⟨w.heap.size+1,1,none⟩=some (.string t1):=hs1.cell 1;clear hs0 hs1
       skip)
     |
      (go_at_call_of 29 (Value.string t0)
       apply Calls.mono;apply FBag.of (w0:=W) (n:=1048576);(focus(first|exact HR.out|exact HR.out.drew));assumption;decide;rintro e wn ⟨qq,hq,x1,x2,x3,rfl,hbag⟩;obtain rfl:=Q2.out.inj hq;clear HR;have HR:=Hi hbag;clear hq hbag;have hs0:=HS0.out.below HR.out.base HS0.out.lt;have hs1:=HS1.out.below HR.out.base HS1.out.lt;have k0:wn.cell? ⟨w.heap.size,0,none⟩=some (.string s0):=hs0.cell 0;have k1:wn.cell? ⟨w.heap.size,1,none⟩=some (.string s1):=hs0.cell 1;have k2:wn.cell? ⟨w.heap.size+1,0,none⟩=some (.string t0):=hs1.cell 0;have k3:wn.cell? ⟨w.heap.size+1,1,none⟩=some (.string t1):=hs1.cell 1;clear hs0 hs1
       skip)
     |
      (go_at_call_of 29 (Value.string t1)
       apply Calls.mono;apply FBag.of (w0:=W) (n:=1048576);(focus(first|exact HR.out|exact HR.out.drew));assumption;decide;rintro e wn ⟨qq,hq,x1,x2,x3,rfl,hbag⟩;obtain rfl:=Q3.out.inj hq;clear HR;have HR:=Hi hbag;clear hq hbag;have hs0:=HS0.out.below HR.out.base HS0.out.lt;have hs1:=HS1.out.below HR.out.base HS1.out.lt;have k0:wn.cell? ⟨w.heap.size,0,none⟩=some (.string s0):=hs0.cell 0;have k1:wn.cell? ⟨w.heap.size,1,none⟩=some (.string s1):=hs0.cell 1;have k2:wn.cell? ⟨w.heap.size+1,0,none⟩=some (.string t0):=hs1.cell 0;have k3:wn.cell? ⟨w.heap.size+1,1,none⟩=some (.string t1):=hs1.cell 1;clear hs0 hs1
       skip)
     |
      (go_at_call 143
       apply Calls.mono;apply FBag.equalF (w0:=W);(focus(first|exact HR.out|exact HR.out.drew));(focus(repeat(first|exact List.Mem.head _|apply List.Mem.tail)));(focus(repeat(first|exact List.Mem.head _|apply List.Mem.tail)));exact HXE.out;rintro e wn ⟨rfl,hbag⟩;clear HR;have HR:=Hi hbag;clear hbag;have hs0:=HS0.out.below HR.out.base HS0.out.lt;have hs1:=HS1.out.below HR.out.base HS1.out.lt;have k0:wn.cell? ⟨w.heap.size,0,none⟩=some (.string s0):=hs0.cell 0;have k1:wn.cell? ⟨w.heap.size,1,none⟩=some (.string s1):=hs0.cell 1;have k2:wn.cell? ⟨w.heap.size+1,0,none⟩=some (.string t0):=hs1.cell 0;have k3:wn.cell? ⟨w.heap.size+1,1,none⟩=some (.string t1):=hs1.cell 1;clear hs0 hs1
       skip)
     ))
   |fail
  all_goals
   go_wp2;go_ret;exact⟨rfl,HB0.out.trans (HR.out.base.mono HB0.out.size)⟩
end Go.Proofs.YtodfmpjhcmapmaaGreatDoor
