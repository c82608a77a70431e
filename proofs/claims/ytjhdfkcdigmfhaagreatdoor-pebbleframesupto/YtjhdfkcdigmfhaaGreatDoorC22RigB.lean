/- package rig: whether a bar is right. -/
import Derived.Test.YtjhdfkcdigmfhaaGreatDoorC21RigA
namespace Go.Proofs.YtjhdfkcdigmfhaaGreatDoor
open Go.RowKit
set_option linter.unusedVariables false
set_option linter.unusedSimpArgs false
def BarVal(p q:S2)(b:B6)(c:Int):Prop:=
 ∃px py qx qy vc vl vm,QOf p.x.data.toList px∧QOf p.y.data.toList py∧QOf q.x.data.toList qx∧QOf q.y.data.toList qy∧QOf b.c.data.toList vc∧QOf b.l.data.toList vl∧QOf b.m.data.toList vm∧
  c=if px=qx∧py=qy then 5 else if sgn3 vc.num≤0∨0<sgn3 vl.num∨sgn3 vm.num<0 then 5 else 0
def BarCode(js:List S2)(b:B6)(c:Int):Prop:=
 (¬(IsJ js.length b.a∧IsJ js.length b.b)∧c=4)∨
 (IsJ js.length b.a∧IsJ js.length b.b∧∃p q,js[b.a.toNat]?=some p∧js[b.b.toNat]?=some q∧BarVal p q b c)
theorem BarVal.inj{p q:S2}{b:B6}{c d:Int}(h:BarVal p q b c)(k:BarVal p q b d):c=d:=by
 obtain⟨px,py,qx,qy,vc,vl,vm,h1,h2,h3,h4,h5,h6,h7,rfl⟩:=h
 obtain⟨px',py',qx',qy',vc',vl',vm',k1,k2,k3,k4,k5,k6,k7,rfl⟩:=k
 obtain rfl:=h1.inj k1
 obtain rfl:=h2.inj k2
 obtain rfl:=h3.inj k3
 obtain rfl:=h4.inj k4
 obtain rfl:=h5.inj k5
 obtain rfl:=h6.inj k6
 obtain rfl:=h7.inj k7
 rfl
theorem BarCode.inj{js:List S2}{b:B6}{c d:Int}(h:BarCode js b c)(k:BarCode js b d):c=d:=by
 rcases h with ⟨h1,rfl⟩|⟨h1,h2,p,q,hp,hq,hv⟩
 ·
  rcases k with ⟨_,rfl⟩|⟨k1,k2,_⟩
  · rfl
  · exact absurd ⟨k1,k2⟩ h1
 ·
  rcases k with ⟨k1,_⟩|⟨_,_,p',q',hp',hq',kv⟩
  · exact absurd ⟨h1,h2⟩ k1
  ·
   rw[hp] at hp'
   rw[hq] at hq'
   cases hp'
   cases hq'
   exact hv.inj kv
structure FrSized (js:List S2) (bs:List B6) (hs:List H3):Prop where
 j:∀p,p∈ js→p.x.size≤1048576∧p.y.size≤1048576
 b:∀b,b∈ bs→b.c.size≤1048576∧b.e.size≤1048576∧b.l.size≤1048576∧b.m.size≤1048576
 h:∀x,x∈ hs→x.q.size≤1048576
set_option maxRecDepth 100000 in
set_option maxHeartbeats 2000000 in
theorem Qn8(a:Option Addr)(n cap:Nat)(ba bb:Int)(bc be bl bm:ByteArray)(w:World)(hj:¬(IsJ n ba∧IsJ n bb)):
 Calls Tryz.prog 95 #[.slice a n cap,.agg #[.int .i64 ba,.int .i64 bb,.string bc,.string be,.string bl,.string bm]] w fun e w'=>e=.returned (.int .i64 4)∧Below w.heap.size w w':=by
 by_cases h1:IsJ n ba
 ·
  have h2:¬IsJ n bb:=fun h=>hj ⟨h1,h⟩
  have H1:=Hi h1
  have H2:=Hi h2
  clear h1 h2 hj
  go_enter Tryz.func95,Tryz.ntmps95
  obtain⟨W,hW⟩:∃W,w.alloc (.cells #[.int .i64 ba,.int .i64 bb,.string bc,.string be,.string bl,.string bm] 69)=W:=⟨_,rfl⟩
  have HB0:Hid (Below w.heap.size w W):=Hi (by rw[←hW];exact(Below.refl _ _).alloc (Nat.le_refl _) _)
  have HS0:Hid (SB W w.heap.size 69 #[.int .i64 ba,.int .i64 bb,.string bc,.string be,.string bl,.string bm]):=Hi (by rw[←hW];exact SB.new w _ _)
  have HR:Hid (Below W.heap.size W W):=Hi (Below.refl _ _)
  have hs0:=HS0.out.below HR.out HS0.out.lt
  have k0:W.cell? ⟨w.heap.size,0,none⟩=some (.int .i64 ba):=hs0.cell 0
  have k1:W.cell? ⟨w.heap.size,1,none⟩=some (.int .i64 bb):=hs0.cell 1
  have k2:W.cell? ⟨w.heap.size,2,none⟩=some (.string bc):=hs0.cell 2
  have k3:W.cell? ⟨w.heap.size,3,none⟩=some (.string be):=hs0.cell 3
  have k4:W.cell? ⟨w.heap.size,4,none⟩=some (.string bl):=hs0.cell 4
  have k5:W.cell? ⟨w.heap.size,5,none⟩=some (.string bm):=hs0.cell 5
  clear hs0
  rw[←hW] at k0 k1 k2 k3 k4 k5
  have HW:=Hi hW
  clear hW
  go_wp2_with fail
  go_fit (Qaf a n cap ba _ H1.out)
  rintro e w1 ⟨rfl,rfl⟩
  go_wp2_with fail
  go_fit (Qcu a n cap bb _ H2.out)
  rintro e w2 ⟨rfl,rfl⟩
  go_wp2
  go_ret
  exact⟨rfl,by rw[HW.out];exact HB0.out⟩
 ·
  have H1:=Hi h1
  clear h1 hj
  go_enter Tryz.func95,Tryz.ntmps95
  obtain⟨W,hW⟩:∃W,w.alloc (.cells #[.int .i64 ba,.int .i64 bb,.string bc,.string be,.string bl,.string bm] 69)=W:=⟨_,rfl⟩
  have HB0:Hid (Below w.heap.size w W):=Hi (by rw[←hW];exact(Below.refl _ _).alloc (Nat.le_refl _) _)
  have HS0:Hid (SB W w.heap.size 69 #[.int .i64 ba,.int .i64 bb,.string bc,.string be,.string bl,.string bm]):=Hi (by rw[←hW];exact SB.new w _ _)
  have HR:Hid (Below W.heap.size W W):=Hi (Below.refl _ _)
  have hs0:=HS0.out.below HR.out HS0.out.lt
  have k0:W.cell? ⟨w.heap.size,0,none⟩=some (.int .i64 ba):=hs0.cell 0
  have k1:W.cell? ⟨w.heap.size,1,none⟩=some (.int .i64 bb):=hs0.cell 1
  have k2:W.cell? ⟨w.heap.size,2,none⟩=some (.string bc):=hs0.cell 2
  have k3:W.cell? ⟨w.heap.size,3,none⟩=some (.string be):=hs0.cell 3
  have k4:W.cell? ⟨w.heap.size,4,none⟩=some (.string bl):=hs0.cell 4
  have k5:W.cell? ⟨w.heap.size,5,none⟩=some (.string bm):=hs0.cell 5
  clear hs0
  rw[←hW] at k0 k1 k2 k3 k4 k5
  have HW:=Hi hW
  clear hW
  go_wp2_with fail
  go_fit (Qcu a n cap ba _ H1.out)
  rintro e w1 ⟨rfl,rfl⟩
  go_wp2
  go_ret
  exact⟨rfl,by rw[HW.out];exact HB0.out⟩
set_option maxRecDepth 100000 in
set_option maxHeartbeats 4000000 in
theorem Qn9(a:Option Addr)(cap ka kb:Nat)(js:List S2)(p q:S2)(bc be bl bm:ByteArray)(px py qx qy vc vl vm:Rat)(w:World)(hg:Glob w)(hj:ARow S2.cells w a cap js)(hp:js[ka]?=some p)(hq:js[kb]?=some q)
 (z1:p.x.size≤1048576∧p.y.size≤1048576) (z2:q.x.size≤1048576∧q.y.size≤1048576) (z3:bc.size≤1048576∧bl.size≤1048576∧bm.size≤1048576)
 (q1:QOf p.x.data.toList px) (q2:QOf p.y.data.toList py) (q3:QOf q.x.data.toList qx) (q4:QOf q.y.data.toList qy) (q5:QOf bc.data.toList vc) (q6:QOf bl.data.toList vl) (q7:QOf bm.data.toList vm):
 Calls Tryz.prog 95 #[.slice a js.length cap,.agg #[.int .i64 ka,.int .i64 kb,.string bc,.string be,.string bl,.string bm]] w fun e w'=>e=.returned (.int .i64 (if px=qx∧py=qy then 5 else if sgn3 vc.num≤0∨0<sgn3 vl.num∨sgn3 vm.num<0 then 5 else 0))∧Below w.heap.size w w':=by
 have Z3:=Hi z3
 clear z3
 by_cases hpl:px=qx∧py=qy
 ·
  rw[if_pos hpl]
  have hdp:=decide_eq_true hpl
  have HD:=Hi hdp
  clear hdp hpl
  have HG:=Hi hg
  have HJ:=Hi hj
  have HP:=Hi hp
  have HQ:=Hi hq
  have Z1:=Hi z1
  have Z2:=Hi z2
  have Q1:=Hi q1
  have Q2:=Hi q2
  have Q3:=Hi q3
  have Q4:=Hi q4
  have Q5:=Hi q5
  have Q6:=Hi q6
  have Q7:=Hi q7
  have i1:((0:Int)≤(ka:Int)):=by omega
  have i2:((0:Int)≤(kb:Int)):=by omega
  have i3:((ka:Int)<(js.length:Int)):=by have:=(List.getElem?_eq_some_iff.1 hp).1;omega
  have i4:((kb:Int)<(js.length:Int)):=by have:=(List.getElem?_eq_some_iff.1 hq).1;omega
  clear hg hj hp hq z1 z2 q1 q2 q3 q4 q5 q6 q7
  go_enter Tryz.func95,Tryz.ntmps95
  obtain⟨W,hW⟩:∃W,w.alloc (.cells #[.int .i64 (ka:Int),.int .i64 (kb:Int),.string bc,.string be,.string bl,.string bm] 69)=W:=⟨_,rfl⟩
  have HB0:Hid (Below w.heap.size w W):=Hi (by rw[←hW];exact(Below.refl _ _).alloc (Nat.le_refl _) _)
  have HS0:Hid (SB W w.heap.size 69 #[.int .i64 (ka:Int),.int .i64 (kb:Int),.string bc,.string be,.string bl,.string bm]):=Hi (by rw[←hW];exact SB.new w _ _)
  have HR:Hid (Below W.heap.size W W):=Hi (Below.refl _ _)
  have hs0:=HS0.out.below HR.out HS0.out.lt
  have k0:W.cell? ⟨w.heap.size,0,none⟩=some (.int .i64 (ka:Int)):=hs0.cell 0
  have k1:W.cell? ⟨w.heap.size,1,none⟩=some (.int .i64 (kb:Int)):=hs0.cell 1
  have k2:W.cell? ⟨w.heap.size,2,none⟩=some (.string bc):=hs0.cell 2
  have k3:W.cell? ⟨w.heap.size,3,none⟩=some (.string be):=hs0.cell 3
  have k4:W.cell? ⟨w.heap.size,4,none⟩=some (.string bl):=hs0.cell 4
  have k5:W.cell? ⟨w.heap.size,5,none⟩=some (.string bm):=hs0.cell 5
  clear hs0
  obtain⟨b1,o1,ha,l1,d0,d1⟩:=(HJ.out.below HB0.out).spot HP.out
  obtain⟨b2,o2,ha2,l2,d2,d3⟩:=(HJ.out.below HB0.out).spot HQ.out
  subst ha
  cases ha2
  rw[←hW] at k0 k1 k2 k3 k4 k5 d0 d1 d2 d3
  have HW:=Hi hW
  clear hW
  go_wp2_with fail
  go_fit (Qaf _ js.length cap ka _ ⟨i1,i3⟩)
  rintro e w1 ⟨rfl,rfl⟩
  go_wp2_with fail
  go_fit (Qaf _ js.length cap kb _ ⟨i2,i4⟩)
  rintro e w2 ⟨rfl,rfl⟩
  go_wp2_with fail
  rw[HW.out]
  rw[HW.out] at k0 k1 k2 k3 k4 k5 d0 d1 d2 d3
  go_region_held3 (fun v=>v.cell? ⟨w.heap.size,0,none⟩=some (.int .i64 ka)∧v.cell? ⟨w.heap.size,1,none⟩=some (.int .i64 kb)∧v.cell? ⟨b1,o1+ka*2,none⟩=some (.string p.x)∧v.cell? ⟨b1,o1+ka*2+1,none⟩=some (.string p.y)∧v.cell? ⟨b1,o1+kb*2,none⟩=some (.string q.x)∧v.cell? ⟨b1,o1+kb*2+1,none⟩=some (.string q.y)) ((first|(simp [*];done)|go_keep)) (first
   |(
    go_at_call 181
    apply Calls.mono
    apply Qb2 p.x p.y q.x q.y px py qx qy
    (first|exact HG.out.below HB0.out|exact HG.out.below HB0.out.drew)
    exact Z1.out.1
    exact Z1.out.2
    exact Z2.out.1
    exact Z2.out.2
    exact Q1.out
    exact Q2.out
    exact Q3.out
    exact Q4.out
    rintro e wn ⟨rfl,hbn⟩
    rw[HD.out]
    have HN:Hid (Below W.heap.size W wn):=Hi (((Below.refl _ _).drew).trans hbn)
    have HJN:=Hi ((HJ.out.below HB0.out).below HN.out)
    obtain⟨b3,o3,ha3,l3,d0,d1⟩:=HJN.out.spot HP.out
    obtain⟨b4,o4,ha4,l4,d2,d3⟩:=HJN.out.spot HQ.out
    cases ha3
    cases ha4
    have hs0:=HS0.out.below HN.out HS0.out.lt
    have k0:wn.cell? ⟨w.heap.size,0,none⟩=some (.int .i64 (ka:Int)):=hs0.cell 0
    have k1:wn.cell? ⟨w.heap.size,1,none⟩=some (.int .i64 (kb:Int)):=hs0.cell 1
    have k2:wn.cell? ⟨w.heap.size,2,none⟩=some (.string bc):=hs0.cell 2
    have k3:wn.cell? ⟨w.heap.size,3,none⟩=some (.string be):=hs0.cell 3
    have k4:wn.cell? ⟨w.heap.size,4,none⟩=some (.string bl):=hs0.cell 4
    have k5:wn.cell? ⟨w.heap.size,5,none⟩=some (.string bm):=hs0.cell 5
    clear hs0
    clear hbn)
   )
  go_wp2
  go_ret
  exact⟨rfl,HB0.out.trans (HN.out.mono HB0.out.size)⟩
 ·
  rw[if_neg hpl]
  have hdp:=decide_eq_false hpl
  have HD:=Hi hdp
  clear hdp hpl
  obtain⟨sc,hsc⟩:∃sc,sgn3 vc.num=sc:=⟨_,rfl⟩
  obtain⟨sl,hsl⟩:∃sl,sgn3 vl.num=sl:=⟨_,rfl⟩
  obtain⟨sm,hsm⟩:∃sm,sgn3 vm.num=sm:=⟨_,rfl⟩
  rw[hsc,hsl,hsm]
  have SC:=Hi hsc
  have SL:=Hi hsl
  have SM:=Hi hsm
  clear hsc hsl hsm
  by_cases c1:sc≤0
  ·
   rw[if_pos (.inl c1)]
   have HG:=Hi hg
   have HJ:=Hi hj
   have HP:=Hi hp
   have HQ:=Hi hq
   have Z1:=Hi z1
   have Z2:=Hi z2
   have Q1:=Hi q1
   have Q2:=Hi q2
   have Q3:=Hi q3
   have Q4:=Hi q4
   have Q5:=Hi q5
   have Q6:=Hi q6
   have Q7:=Hi q7
   have i1:((0:Int)≤(ka:Int)):=by omega
   have i2:((0:Int)≤(kb:Int)):=by omega
   have i3:((ka:Int)<(js.length:Int)):=by have:=(List.getElem?_eq_some_iff.1 hp).1;omega
   have i4:((kb:Int)<(js.length:Int)):=by have:=(List.getElem?_eq_some_iff.1 hq).1;omega
   clear hg hj hp hq z1 z2 q1 q2 q3 q4 q5 q6 q7
   go_enter Tryz.func95,Tryz.ntmps95
   obtain⟨W,hW⟩:∃W,w.alloc (.cells #[.int .i64 (ka:Int),.int .i64 (kb:Int),.string bc,.string be,.string bl,.string bm] 69)=W:=⟨_,rfl⟩
   have HB0:Hid (Below w.heap.size w W):=Hi (by rw[←hW];exact(Below.refl _ _).alloc (Nat.le_refl _) _)
   have HS0:Hid (SB W w.heap.size 69 #[.int .i64 (ka:Int),.int .i64 (kb:Int),.string bc,.string be,.string bl,.string bm]):=Hi (by rw[←hW];exact SB.new w _ _)
   have HR:Hid (Below W.heap.size W W):=Hi (Below.refl _ _)
   have hs0:=HS0.out.below HR.out HS0.out.lt
   have k0:W.cell? ⟨w.heap.size,0,none⟩=some (.int .i64 (ka:Int)):=hs0.cell 0
   have k1:W.cell? ⟨w.heap.size,1,none⟩=some (.int .i64 (kb:Int)):=hs0.cell 1
   have k2:W.cell? ⟨w.heap.size,2,none⟩=some (.string bc):=hs0.cell 2
   have k3:W.cell? ⟨w.heap.size,3,none⟩=some (.string be):=hs0.cell 3
   have k4:W.cell? ⟨w.heap.size,4,none⟩=some (.string bl):=hs0.cell 4
   have k5:W.cell? ⟨w.heap.size,5,none⟩=some (.string bm):=hs0.cell 5
   clear hs0
   obtain⟨b1,o1,ha,l1,d0,d1⟩:=(HJ.out.below HB0.out).spot HP.out
   obtain⟨b2,o2,ha2,l2,d2,d3⟩:=(HJ.out.below HB0.out).spot HQ.out
   subst ha
   cases ha2
   rw[←hW] at k0 k1 k2 k3 k4 k5 d0 d1 d2 d3
   have HW:=Hi hW
   clear hW
   go_wp2_with fail
   go_fit (Qaf _ js.length cap ka _ ⟨i1,i3⟩)
   rintro e w1 ⟨rfl,rfl⟩
   go_wp2_with fail
   go_fit (Qaf _ js.length cap kb _ ⟨i2,i4⟩)
   rintro e w2 ⟨rfl,rfl⟩
   go_wp2_with fail
   rw[HW.out]
   rw[HW.out] at k0 k1 k2 k3 k4 k5 d0 d1 d2 d3
   go_region_held3 (fun v=>v.cell? ⟨w.heap.size,0,none⟩=some (.int .i64 ka)∧v.cell? ⟨w.heap.size,1,none⟩=some (.int .i64 kb)∧v.cell? ⟨b1,o1+ka*2,none⟩=some (.string p.x)∧v.cell? ⟨b1,o1+ka*2+1,none⟩=some (.string p.y)∧v.cell? ⟨b1,o1+kb*2,none⟩=some (.string q.x)∧v.cell? ⟨b1,o1+kb*2+1,none⟩=some (.string q.y)) ((first|(simp [*];done)|go_keep)) (first
    |(
     go_at_call 181
     apply Calls.mono
     apply Qb2 p.x p.y q.x q.y px py qx qy
     (first|exact HG.out.below HB0.out|exact HG.out.below HB0.out.drew)
     exact Z1.out.1
     exact Z1.out.2
     exact Z2.out.1
     exact Z2.out.2
     exact Q1.out
     exact Q2.out
     exact Q3.out
     exact Q4.out
     rintro e wn ⟨rfl,hbn⟩
     rw[HD.out]
     have HN:Hid (Below W.heap.size W wn):=Hi (((Below.refl _ _).drew).trans hbn)
     have HJN:=Hi ((HJ.out.below HB0.out).below HN.out)
     obtain⟨b3,o3,ha3,l3,d0,d1⟩:=HJN.out.spot HP.out
     obtain⟨b4,o4,ha4,l4,d2,d3⟩:=HJN.out.spot HQ.out
     cases ha3
     cases ha4
     have hs0:=HS0.out.below HN.out HS0.out.lt
     have k0:wn.cell? ⟨w.heap.size,0,none⟩=some (.int .i64 (ka:Int)):=hs0.cell 0
     have k1:wn.cell? ⟨w.heap.size,1,none⟩=some (.int .i64 (kb:Int)):=hs0.cell 1
     have k2:wn.cell? ⟨w.heap.size,2,none⟩=some (.string bc):=hs0.cell 2
     have k3:wn.cell? ⟨w.heap.size,3,none⟩=some (.string be):=hs0.cell 3
     have k4:wn.cell? ⟨w.heap.size,4,none⟩=some (.string bl):=hs0.cell 4
     have k5:wn.cell? ⟨w.heap.size,5,none⟩=some (.string bm):=hs0.cell 5
     clear hs0
     clear hbn)
    )
   have HF:=Hi (FBag.start ((HG.out.below HB0.out).below HN.out))
   go_wp2_with (first
    |
     (go_at_call_of 149 (Value.string bc)
      apply Calls.mono
      apply FBag.of (w0:=wn) (n:=1048576)
      (focus(first|exact HF.out|exact HF.out.drew))
      exact Z3.out.1
      decide
      rintro e wm ⟨qq,hq,x1,x2,x3,rfl,hbag⟩
      obtain rfl:=Q5.out.inj hq
      clear HF
      have HF:=Hi hbag
      clear hq hbag
      have HM:=Hi (HN.out.trans (HF.out.base.mono HN.out.size))
      have hs0:=HS0.out.below HM.out HS0.out.lt
      have k0:wm.cell? ⟨w.heap.size,0,none⟩=some (.int .i64 (ka:Int)):=hs0.cell 0
      have k1:wm.cell? ⟨w.heap.size,1,none⟩=some (.int .i64 (kb:Int)):=hs0.cell 1
      have k2:wm.cell? ⟨w.heap.size,2,none⟩=some (.string bc):=hs0.cell 2
      have k3:wm.cell? ⟨w.heap.size,3,none⟩=some (.string be):=hs0.cell 3
      have k4:wm.cell? ⟨w.heap.size,4,none⟩=some (.string bl):=hs0.cell 4
      have k5:wm.cell? ⟨w.heap.size,5,none⟩=some (.string bm):=hs0.cell 5
      clear hs0
      clear HM)
    |
     (go_at_call_of 149 (Value.string bl)
      apply Calls.mono
      apply FBag.of (w0:=wn) (n:=1048576)
      (focus(first|exact HF.out|exact HF.out.drew))
      exact Z3.out.2.1
      decide
      rintro e wm ⟨qq,hq,x1,x2,x3,rfl,hbag⟩
      obtain rfl:=Q6.out.inj hq
      clear HF
      have HF:=Hi hbag
      clear hq hbag
      have HM:=Hi (HN.out.trans (HF.out.base.mono HN.out.size))
      have hs0:=HS0.out.below HM.out HS0.out.lt
      have k0:wm.cell? ⟨w.heap.size,0,none⟩=some (.int .i64 (ka:Int)):=hs0.cell 0
      have k1:wm.cell? ⟨w.heap.size,1,none⟩=some (.int .i64 (kb:Int)):=hs0.cell 1
      have k2:wm.cell? ⟨w.heap.size,2,none⟩=some (.string bc):=hs0.cell 2
      have k3:wm.cell? ⟨w.heap.size,3,none⟩=some (.string be):=hs0.cell 3
      have k4:wm.cell? ⟨w.heap.size,4,none⟩=some (.string bl):=hs0.cell 4
      have k5:wm.cell? ⟨w.heap.size,5,none⟩=some (.string bm):=hs0.cell 5
      clear hs0
      clear HM)
    |
     (go_at_call_of 149 (Value.string bm)
      apply Calls.mono
      apply FBag.of (w0:=wn) (n:=1048576)
      (focus(first|exact HF.out|exact HF.out.drew))
      exact Z3.out.2.2
      decide
      rintro e wm ⟨qq,hq,x1,x2,x3,rfl,hbag⟩
      obtain rfl:=Q7.out.inj hq
      clear HF
      have HF:=Hi hbag
      clear hq hbag
      have HM:=Hi (HN.out.trans (HF.out.base.mono HN.out.size))
      have hs0:=HS0.out.below HM.out HS0.out.lt
      have k0:wm.cell? ⟨w.heap.size,0,none⟩=some (.int .i64 (ka:Int)):=hs0.cell 0
      have k1:wm.cell? ⟨w.heap.size,1,none⟩=some (.int .i64 (kb:Int)):=hs0.cell 1
      have k2:wm.cell? ⟨w.heap.size,2,none⟩=some (.string bc):=hs0.cell 2
      have k3:wm.cell? ⟨w.heap.size,3,none⟩=some (.string be):=hs0.cell 3
      have k4:wm.cell? ⟨w.heap.size,4,none⟩=some (.string bl):=hs0.cell 4
      have k5:wm.cell? ⟨w.heap.size,5,none⟩=some (.string bm):=hs0.cell 5
      clear hs0
      clear HM)
    |
     (go_at_call 182
      apply Calls.mono
      apply FBag.sign (w0:=wn)
      (focus(first|exact HF.out|exact HF.out.drew))
      (focus(repeat(first|exact List.Mem.head _|apply List.Mem.tail)))
      rintro e wm ⟨rfl,hbag⟩
      (first|rw[SC.out]|rw[SL.out]|rw[SM.out])
      clear HF
      have HF:=Hi hbag
      clear hbag
      have HM:=Hi (HN.out.trans (HF.out.base.mono HN.out.size))
      have hs0:=HS0.out.below HM.out HS0.out.lt
      have k0:wm.cell? ⟨w.heap.size,0,none⟩=some (.int .i64 (ka:Int)):=hs0.cell 0
      have k1:wm.cell? ⟨w.heap.size,1,none⟩=some (.int .i64 (kb:Int)):=hs0.cell 1
      have k2:wm.cell? ⟨w.heap.size,2,none⟩=some (.string bc):=hs0.cell 2
      have k3:wm.cell? ⟨w.heap.size,3,none⟩=some (.string be):=hs0.cell 3
      have k4:wm.cell? ⟨w.heap.size,4,none⟩=some (.string bl):=hs0.cell 4
      have k5:wm.cell? ⟨w.heap.size,5,none⟩=some (.string bm):=hs0.cell 5
      clear hs0
      clear HM)
    |fail)
   go_ret
   exact⟨rfl,HB0.out.trans ((HN.out.trans (HF.out.base.mono HN.out.size)).mono HB0.out.size)⟩
  ·
   by_cases c2:0<sl
   ·
    rw[if_pos (.inr (.inl c2))]
    have HG:=Hi hg
    have HJ:=Hi hj
    have HP:=Hi hp
    have HQ:=Hi hq
    have Z1:=Hi z1
    have Z2:=Hi z2
    have Q1:=Hi q1
    have Q2:=Hi q2
    have Q3:=Hi q3
    have Q4:=Hi q4
    have Q5:=Hi q5
    have Q6:=Hi q6
    have Q7:=Hi q7
    have i1:((0:Int)≤(ka:Int)):=by omega
    have i2:((0:Int)≤(kb:Int)):=by omega
    have i3:((ka:Int)<(js.length:Int)):=by have:=(List.getElem?_eq_some_iff.1 hp).1;omega
    have i4:((kb:Int)<(js.length:Int)):=by have:=(List.getElem?_eq_some_iff.1 hq).1;omega
    clear hg hj hp hq z1 z2 q1 q2 q3 q4 q5 q6 q7
    go_enter Tryz.func95,Tryz.ntmps95
    obtain⟨W,hW⟩:∃W,w.alloc (.cells #[.int .i64 (ka:Int),.int .i64 (kb:Int),.string bc,.string be,.string bl,.string bm] 69)=W:=⟨_,rfl⟩
    have HB0:Hid (Below w.heap.size w W):=Hi (by rw[←hW];exact(Below.refl _ _).alloc (Nat.le_refl _) _)
    have HS0:Hid (SB W w.heap.size 69 #[.int .i64 (ka:Int),.int .i64 (kb:Int),.string bc,.string be,.string bl,.string bm]):=Hi (by rw[←hW];exact SB.new w _ _)
    have HR:Hid (Below W.heap.size W W):=Hi (Below.refl _ _)
    have hs0:=HS0.out.below HR.out HS0.out.lt
    have k0:W.cell? ⟨w.heap.size,0,none⟩=some (.int .i64 (ka:Int)):=hs0.cell 0
    have k1:W.cell? ⟨w.heap.size,1,none⟩=some (.int .i64 (kb:Int)):=hs0.cell 1
    have k2:W.cell? ⟨w.heap.size,2,none⟩=some (.string bc):=hs0.cell 2
    have k3:W.cell? ⟨w.heap.size,3,none⟩=some (.string be):=hs0.cell 3
    have k4:W.cell? ⟨w.heap.size,4,none⟩=some (.string bl):=hs0.cell 4
    have k5:W.cell? ⟨w.heap.size,5,none⟩=some (.string bm):=hs0.cell 5
    clear hs0
    obtain⟨b1,o1,ha,l1,d0,d1⟩:=(HJ.out.below HB0.out).spot HP.out
    obtain⟨b2,o2,ha2,l2,d2,d3⟩:=(HJ.out.below HB0.out).spot HQ.out
    subst ha
    cases ha2
    rw[←hW] at k0 k1 k2 k3 k4 k5 d0 d1 d2 d3
    have HW:=Hi hW
    clear hW
    go_wp2_with fail
    go_fit (Qaf _ js.length cap ka _ ⟨i1,i3⟩)
    rintro e w1 ⟨rfl,rfl⟩
    go_wp2_with fail
    go_fit (Qaf _ js.length cap kb _ ⟨i2,i4⟩)
    rintro e w2 ⟨rfl,rfl⟩
    go_wp2_with fail
    rw[HW.out]
    rw[HW.out] at k0 k1 k2 k3 k4 k5 d0 d1 d2 d3
    go_region_held3 (fun v=>v.cell? ⟨w.heap.size,0,none⟩=some (.int .i64 ka)∧v.cell? ⟨w.heap.size,1,none⟩=some (.int .i64 kb)∧v.cell? ⟨b1,o1+ka*2,none⟩=some (.string p.x)∧v.cell? ⟨b1,o1+ka*2+1,none⟩=some (.string p.y)∧v.cell? ⟨b1,o1+kb*2,none⟩=some (.string q.x)∧v.cell? ⟨b1,o1+kb*2+1,none⟩=some (.string q.y)) ((first|(simp [*];done)|go_keep)) (first
     |(
      go_at_call 181
      apply Calls.mono
      apply Qb2 p.x p.y q.x q.y px py qx qy
      (first|exact HG.out.below HB0.out|exact HG.out.below HB0.out.drew)
      exact Z1.out.1
      exact Z1.out.2
      exact Z2.out.1
      exact Z2.out.2
      exact Q1.out
      exact Q2.out
      exact Q3.out
      exact Q4.out
      rintro e wn ⟨rfl,hbn⟩
      rw[HD.out]
      have HN:Hid (Below W.heap.size W wn):=Hi (((Below.refl _ _).drew).trans hbn)
      have HJN:=Hi ((HJ.out.below HB0.out).below HN.out)
      obtain⟨b3,o3,ha3,l3,d0,d1⟩:=HJN.out.spot HP.out
      obtain⟨b4,o4,ha4,l4,d2,d3⟩:=HJN.out.spot HQ.out
      cases ha3
      cases ha4
      have hs0:=HS0.out.below HN.out HS0.out.lt
      have k0:wn.cell? ⟨w.heap.size,0,none⟩=some (.int .i64 (ka:Int)):=hs0.cell 0
      have k1:wn.cell? ⟨w.heap.size,1,none⟩=some (.int .i64 (kb:Int)):=hs0.cell 1
      have k2:wn.cell? ⟨w.heap.size,2,none⟩=some (.string bc):=hs0.cell 2
      have k3:wn.cell? ⟨w.heap.size,3,none⟩=some (.string be):=hs0.cell 3
      have k4:wn.cell? ⟨w.heap.size,4,none⟩=some (.string bl):=hs0.cell 4
      have k5:wn.cell? ⟨w.heap.size,5,none⟩=some (.string bm):=hs0.cell 5
      clear hs0
      clear hbn)
     )
    have HF:=Hi (FBag.start ((HG.out.below HB0.out).below HN.out))
    go_wp2_with (first
     |
      (go_at_call_of 149 (Value.string bc)
       apply Calls.mono
       apply FBag.of (w0:=wn) (n:=1048576)
       (focus(first|exact HF.out|exact HF.out.drew))
       exact Z3.out.1
       decide
       rintro e wm ⟨qq,hq,x1,x2,x3,rfl,hbag⟩
       obtain rfl:=Q5.out.inj hq
       clear HF
       have HF:=Hi hbag
       clear hq hbag
       have HM:=Hi (HN.out.trans (HF.out.base.mono HN.out.size))
       have hs0:=HS0.out.below HM.out HS0.out.lt
       have k0:wm.cell? ⟨w.heap.size,0,none⟩=some (.int .i64 (ka:Int)):=hs0.cell 0
       have k1:wm.cell? ⟨w.heap.size,1,none⟩=some (.int .i64 (kb:Int)):=hs0.cell 1
       have k2:wm.cell? ⟨w.heap.size,2,none⟩=some (.string bc):=hs0.cell 2
       have k3:wm.cell? ⟨w.heap.size,3,none⟩=some (.string be):=hs0.cell 3
       have k4:wm.cell? ⟨w.heap.size,4,none⟩=some (.string bl):=hs0.cell 4
       have k5:wm.cell? ⟨w.heap.size,5,none⟩=some (.string bm):=hs0.cell 5
       clear hs0
       clear HM)
     |
      (go_at_call_of 149 (Value.string bl)
       apply Calls.mono
       apply FBag.of (w0:=wn) (n:=1048576)
       (focus(first|exact HF.out|exact HF.out.drew))
       exact Z3.out.2.1
       decide
       rintro e wm ⟨qq,hq,x1,x2,x3,rfl,hbag⟩
       obtain rfl:=Q6.out.inj hq
       clear HF
       have HF:=Hi hbag
       clear hq hbag
       have HM:=Hi (HN.out.trans (HF.out.base.mono HN.out.size))
       have hs0:=HS0.out.below HM.out HS0.out.lt
       have k0:wm.cell? ⟨w.heap.size,0,none⟩=some (.int .i64 (ka:Int)):=hs0.cell 0
       have k1:wm.cell? ⟨w.heap.size,1,none⟩=some (.int .i64 (kb:Int)):=hs0.cell 1
       have k2:wm.cell? ⟨w.heap.size,2,none⟩=some (.string bc):=hs0.cell 2
       have k3:wm.cell? ⟨w.heap.size,3,none⟩=some (.string be):=hs0.cell 3
       have k4:wm.cell? ⟨w.heap.size,4,none⟩=some (.string bl):=hs0.cell 4
       have k5:wm.cell? ⟨w.heap.size,5,none⟩=some (.string bm):=hs0.cell 5
       clear hs0
       clear HM)
     |
      (go_at_call_of 149 (Value.string bm)
       apply Calls.mono
       apply FBag.of (w0:=wn) (n:=1048576)
       (focus(first|exact HF.out|exact HF.out.drew))
       exact Z3.out.2.2
       decide
       rintro e wm ⟨qq,hq,x1,x2,x3,rfl,hbag⟩
       obtain rfl:=Q7.out.inj hq
       clear HF
       have HF:=Hi hbag
       clear hq hbag
       have HM:=Hi (HN.out.trans (HF.out.base.mono HN.out.size))
       have hs0:=HS0.out.below HM.out HS0.out.lt
       have k0:wm.cell? ⟨w.heap.size,0,none⟩=some (.int .i64 (ka:Int)):=hs0.cell 0
       have k1:wm.cell? ⟨w.heap.size,1,none⟩=some (.int .i64 (kb:Int)):=hs0.cell 1
       have k2:wm.cell? ⟨w.heap.size,2,none⟩=some (.string bc):=hs0.cell 2
       have k3:wm.cell? ⟨w.heap.size,3,none⟩=some (.string be):=hs0.cell 3
       have k4:wm.cell? ⟨w.heap.size,4,none⟩=some (.string bl):=hs0.cell 4
       have k5:wm.cell? ⟨w.heap.size,5,none⟩=some (.string bm):=hs0.cell 5
       clear hs0
       clear HM)
     |
      (go_at_call 182
       apply Calls.mono
       apply FBag.sign (w0:=wn)
       (focus(first|exact HF.out|exact HF.out.drew))
       (focus(repeat(first|exact List.Mem.head _|apply List.Mem.tail)))
       rintro e wm ⟨rfl,hbag⟩
       (first|rw[SC.out]|rw[SL.out]|rw[SM.out])
       clear HF
       have HF:=Hi hbag
       clear hbag
       have HM:=Hi (HN.out.trans (HF.out.base.mono HN.out.size))
       have hs0:=HS0.out.below HM.out HS0.out.lt
       have k0:wm.cell? ⟨w.heap.size,0,none⟩=some (.int .i64 (ka:Int)):=hs0.cell 0
       have k1:wm.cell? ⟨w.heap.size,1,none⟩=some (.int .i64 (kb:Int)):=hs0.cell 1
       have k2:wm.cell? ⟨w.heap.size,2,none⟩=some (.string bc):=hs0.cell 2
       have k3:wm.cell? ⟨w.heap.size,3,none⟩=some (.string be):=hs0.cell 3
       have k4:wm.cell? ⟨w.heap.size,4,none⟩=some (.string bl):=hs0.cell 4
       have k5:wm.cell? ⟨w.heap.size,5,none⟩=some (.string bm):=hs0.cell 5
       clear hs0
       clear HM)
     |fail)
    go_ret
    exact⟨rfl,HB0.out.trans ((HN.out.trans (HF.out.base.mono HN.out.size)).mono HB0.out.size)⟩
   ·
    by_cases c3:sm<0
    ·
     rw[if_pos (.inr (.inr c3))]
     have HG:=Hi hg
     have HJ:=Hi hj
     have HP:=Hi hp
     have HQ:=Hi hq
     have Z1:=Hi z1
     have Z2:=Hi z2
     have Q1:=Hi q1
     have Q2:=Hi q2
     have Q3:=Hi q3
     have Q4:=Hi q4
     have Q5:=Hi q5
     have Q6:=Hi q6
     have Q7:=Hi q7
     have i1:((0:Int)≤(ka:Int)):=by omega
     have i2:((0:Int)≤(kb:Int)):=by omega
     have i3:((ka:Int)<(js.length:Int)):=by have:=(List.getElem?_eq_some_iff.1 hp).1;omega
     have i4:((kb:Int)<(js.length:Int)):=by have:=(List.getElem?_eq_some_iff.1 hq).1;omega
     clear hg hj hp hq z1 z2 q1 q2 q3 q4 q5 q6 q7
     go_enter Tryz.func95,Tryz.ntmps95
     obtain⟨W,hW⟩:∃W,w.alloc (.cells #[.int .i64 (ka:Int),.int .i64 (kb:Int),.string bc,.string be,.string bl,.string bm] 69)=W:=⟨_,rfl⟩
     have HB0:Hid (Below w.heap.size w W):=Hi (by rw[←hW];exact(Below.refl _ _).alloc (Nat.le_refl _) _)
     have HS0:Hid (SB W w.heap.size 69 #[.int .i64 (ka:Int),.int .i64 (kb:Int),.string bc,.string be,.string bl,.string bm]):=Hi (by rw[←hW];exact SB.new w _ _)
     have HR:Hid (Below W.heap.size W W):=Hi (Below.refl _ _)
     have hs0:=HS0.out.below HR.out HS0.out.lt
     have k0:W.cell? ⟨w.heap.size,0,none⟩=some (.int .i64 (ka:Int)):=hs0.cell 0
     have k1:W.cell? ⟨w.heap.size,1,none⟩=some (.int .i64 (kb:Int)):=hs0.cell 1
     have k2:W.cell? ⟨w.heap.size,2,none⟩=some (.string bc):=hs0.cell 2
     have k3:W.cell? ⟨w.heap.size,3,none⟩=some (.string be):=hs0.cell 3
     have k4:W.cell? ⟨w.heap.size,4,none⟩=some (.string bl):=hs0.cell 4
     have k5:W.cell? ⟨w.heap.size,5,none⟩=some (.string bm):=hs0.cell 5
     clear hs0
     obtain⟨b1,o1,ha,l1,d0,d1⟩:=(HJ.out.below HB0.out).spot HP.out
     obtain⟨b2,o2,ha2,l2,d2,d3⟩:=(HJ.out.below HB0.out).spot HQ.out
     subst ha
     cases ha2
     rw[←hW] at k0 k1 k2 k3 k4 k5 d0 d1 d2 d3
     have HW:=Hi hW
     clear hW
     go_wp2_with fail
     go_fit (Qaf _ js.length cap ka _ ⟨i1,i3⟩)
     rintro e w1 ⟨rfl,rfl⟩
     go_wp2_with fail
     go_fit (Qaf _ js.length cap kb _ ⟨i2,i4⟩)
     rintro e w2 ⟨rfl,rfl⟩
     go_wp2_with fail
     rw[HW.out]
     rw[HW.out] at k0 k1 k2 k3 k4 k5 d0 d1 d2 d3
     go_region_held3 (fun v=>v.cell? ⟨w.heap.size,0,none⟩=some (.int .i64 ka)∧v.cell? ⟨w.heap.size,1,none⟩=some (.int .i64 kb)∧v.cell? ⟨b1,o1+ka*2,none⟩=some (.string p.x)∧v.cell? ⟨b1,o1+ka*2+1,none⟩=some (.string p.y)∧v.cell? ⟨b1,o1+kb*2,none⟩=some (.string q.x)∧v.cell? ⟨b1,o1+kb*2+1,none⟩=some (.string q.y)) ((first|(simp [*];done)|go_keep)) (first
      |(
       go_at_call 181
       apply Calls.mono
       apply Qb2 p.x p.y q.x q.y px py qx qy
       (first|exact HG.out.below HB0.out|exact HG.out.below HB0.out.drew)
       exact Z1.out.1
       exact Z1.out.2
       exact Z2.out.1
       exact Z2.out.2
       exact Q1.out
       exact Q2.out
       exact Q3.out
       exact Q4.out
       rintro e wn ⟨rfl,hbn⟩
       rw[HD.out]
       have HN:Hid (Below W.heap.size W wn):=Hi (((Below.refl _ _).drew).trans hbn)
       have HJN:=Hi ((HJ.out.below HB0.out).below HN.out)
       obtain⟨b3,o3,ha3,l3,d0,d1⟩:=HJN.out.spot HP.out
       obtain⟨b4,o4,ha4,l4,d2,d3⟩:=HJN.out.spot HQ.out
       cases ha3
       cases ha4
       have hs0:=HS0.out.below HN.out HS0.out.lt
       have k0:wn.cell? ⟨w.heap.size,0,none⟩=some (.int .i64 (ka:Int)):=hs0.cell 0
       have k1:wn.cell? ⟨w.heap.size,1,none⟩=some (.int .i64 (kb:Int)):=hs0.cell 1
       have k2:wn.cell? ⟨w.heap.size,2,none⟩=some (.string bc):=hs0.cell 2
       have k3:wn.cell? ⟨w.heap.size,3,none⟩=some (.string be):=hs0.cell 3
       have k4:wn.cell? ⟨w.heap.size,4,none⟩=some (.string bl):=hs0.cell 4
       have k5:wn.cell? ⟨w.heap.size,5,none⟩=some (.string bm):=hs0.cell 5
       clear hs0
       clear hbn)
      )
     have HF:=Hi (FBag.start ((HG.out.below HB0.out).below HN.out))
     go_wp2_with (first
      |
       (go_at_call_of 149 (Value.string bc)
        apply Calls.mono
        apply FBag.of (w0:=wn) (n:=1048576)
        (focus(first|exact HF.out|exact HF.out.drew))
        exact Z3.out.1
        decide
        rintro e wm ⟨qq,hq,x1,x2,x3,rfl,hbag⟩
        obtain rfl:=Q5.out.inj hq
        clear HF
        have HF:=Hi hbag
        clear hq hbag
        have HM:=Hi (HN.out.trans (HF.out.base.mono HN.out.size))
        have hs0:=HS0.out.below HM.out HS0.out.lt
        have k0:wm.cell? ⟨w.heap.size,0,none⟩=some (.int .i64 (ka:Int)):=hs0.cell 0
        have k1:wm.cell? ⟨w.heap.size,1,none⟩=some (.int .i64 (kb:Int)):=hs0.cell 1
        have k2:wm.cell? ⟨w.heap.size,2,none⟩=some (.string bc):=hs0.cell 2
        have k3:wm.cell? ⟨w.heap.size,3,none⟩=some (.string be):=hs0.cell 3
        have k4:wm.cell? ⟨w.heap.size,4,none⟩=some (.string bl):=hs0.cell 4
        have k5:wm.cell? ⟨w.heap.size,5,none⟩=some (.string bm):=hs0.cell 5
        clear hs0
        clear HM)
      |
       (go_at_call_of 149 (Value.string bl)
        apply Calls.mono
        apply FBag.of (w0:=wn) (n:=1048576)
        (focus(first|exact HF.out|exact HF.out.drew))
        exact Z3.out.2.1
        decide
        rintro e wm ⟨qq,hq,x1,x2,x3,rfl,hbag⟩
        obtain rfl:=Q6.out.inj hq
        clear HF
        have HF:=Hi hbag
        clear hq hbag
        have HM:=Hi (HN.out.trans (HF.out.base.mono HN.out.size))
        have hs0:=HS0.out.below HM.out HS0.out.lt
        have k0:wm.cell? ⟨w.heap.size,0,none⟩=some (.int .i64 (ka:Int)):=hs0.cell 0
        have k1:wm.cell? ⟨w.heap.size,1,none⟩=some (.int .i64 (kb:Int)):=hs0.cell 1
        have k2:wm.cell? ⟨w.heap.size,2,none⟩=some (.string bc):=hs0.cell 2
        have k3:wm.cell? ⟨w.heap.size,3,none⟩=some (.string be):=hs0.cell 3
        have k4:wm.cell? ⟨w.heap.size,4,none⟩=some (.string bl):=hs0.cell 4
        have k5:wm.cell? ⟨w.heap.size,5,none⟩=some (.string bm):=hs0.cell 5
        clear hs0
        clear HM)
      |
       (go_at_call_of 149 (Value.string bm)
        apply Calls.mono
        apply FBag.of (w0:=wn) (n:=1048576)
        (focus(first|exact HF.out|exact HF.out.drew))
        exact Z3.out.2.2
        decide
        rintro e wm ⟨qq,hq,x1,x2,x3,rfl,hbag⟩
        obtain rfl:=Q7.out.inj hq
        clear HF
        have HF:=Hi hbag
        clear hq hbag
        have HM:=Hi (HN.out.trans (HF.out.base.mono HN.out.size))
        have hs0:=HS0.out.below HM.out HS0.out.lt
        have k0:wm.cell? ⟨w.heap.size,0,none⟩=some (.int .i64 (ka:Int)):=hs0.cell 0
        have k1:wm.cell? ⟨w.heap.size,1,none⟩=some (.int .i64 (kb:Int)):=hs0.cell 1
        have k2:wm.cell? ⟨w.heap.size,2,none⟩=some (.string bc):=hs0.cell 2
        have k3:wm.cell? ⟨w.heap.size,3,none⟩=some (.string be):=hs0.cell 3
        have k4:wm.cell? ⟨w.heap.size,4,none⟩=some (.string bl):=hs0.cell 4
        have k5:wm.cell? ⟨w.heap.size,5,none⟩=some (.string bm):=hs0.cell 5
        clear hs0
        clear HM)
      |
       (go_at_call 182
        apply Calls.mono
        apply FBag.sign (w0:=wn)
        (focus(first|exact HF.out|exact HF.out.drew))
        (focus(repeat(first|exact List.Mem.head _|apply List.Mem.tail)))
        rintro e wm ⟨rfl,hbag⟩
        (first|rw[SC.out]|rw[SL.out]|rw[SM.out])
        clear HF
        have HF:=Hi hbag
        clear hbag
        have HM:=Hi (HN.out.trans (HF.out.base.mono HN.out.size))
        have hs0:=HS0.out.below HM.out HS0.out.lt
        have k0:wm.cell? ⟨w.heap.size,0,none⟩=some (.int .i64 (ka:Int)):=hs0.cell 0
        have k1:wm.cell? ⟨w.heap.size,1,none⟩=some (.int .i64 (kb:Int)):=hs0.cell 1
        have k2:wm.cell? ⟨w.heap.size,2,none⟩=some (.string bc):=hs0.cell 2
        have k3:wm.cell? ⟨w.heap.size,3,none⟩=some (.string be):=hs0.cell 3
        have k4:wm.cell? ⟨w.heap.size,4,none⟩=some (.string bl):=hs0.cell 4
        have k5:wm.cell? ⟨w.heap.size,5,none⟩=some (.string bm):=hs0.cell 5
        clear hs0
        clear HM)
      |fail)
     go_ret
     exact⟨rfl,HB0.out.trans ((HN.out.trans (HF.out.base.mono HN.out.size)).mono HB0.out.size)⟩
    ·
     rw[if_neg (fun h=>h.elim c1 (fun h=>h.elim c2 c3))]
     have HG:=Hi hg
     have HJ:=Hi hj
     have HP:=Hi hp
     have HQ:=Hi hq
     have Z1:=Hi z1
     have Z2:=Hi z2
     have Q1:=Hi q1
     have Q2:=Hi q2
     have Q3:=Hi q3
     have Q4:=Hi q4
     have Q5:=Hi q5
     have Q6:=Hi q6
     have Q7:=Hi q7
     have i1:((0:Int)≤(ka:Int)):=by omega
     have i2:((0:Int)≤(kb:Int)):=by omega
     have i3:((ka:Int)<(js.length:Int)):=by have:=(List.getElem?_eq_some_iff.1 hp).1;omega
     have i4:((kb:Int)<(js.length:Int)):=by have:=(List.getElem?_eq_some_iff.1 hq).1;omega
     clear hg hj hp hq z1 z2 q1 q2 q3 q4 q5 q6 q7
     go_enter Tryz.func95,Tryz.ntmps95
     obtain⟨W,hW⟩:∃W,w.alloc (.cells #[.int .i64 (ka:Int),.int .i64 (kb:Int),.string bc,.string be,.string bl,.string bm] 69)=W:=⟨_,rfl⟩
     have HB0:Hid (Below w.heap.size w W):=Hi (by rw[←hW];exact(Below.refl _ _).alloc (Nat.le_refl _) _)
     have HS0:Hid (SB W w.heap.size 69 #[.int .i64 (ka:Int),.int .i64 (kb:Int),.string bc,.string be,.string bl,.string bm]):=Hi (by rw[←hW];exact SB.new w _ _)
     have HR:Hid (Below W.heap.size W W):=Hi (Below.refl _ _)
     have hs0:=HS0.out.below HR.out HS0.out.lt
     have k0:W.cell? ⟨w.heap.size,0,none⟩=some (.int .i64 (ka:Int)):=hs0.cell 0
     have k1:W.cell? ⟨w.heap.size,1,none⟩=some (.int .i64 (kb:Int)):=hs0.cell 1
     have k2:W.cell? ⟨w.heap.size,2,none⟩=some (.string bc):=hs0.cell 2
     have k3:W.cell? ⟨w.heap.size,3,none⟩=some (.string be):=hs0.cell 3
     have k4:W.cell? ⟨w.heap.size,4,none⟩=some (.string bl):=hs0.cell 4
     have k5:W.cell? ⟨w.heap.size,5,none⟩=some (.string bm):=hs0.cell 5
     clear hs0
     obtain⟨b1,o1,ha,l1,d0,d1⟩:=(HJ.out.below HB0.out).spot HP.out
     obtain⟨b2,o2,ha2,l2,d2,d3⟩:=(HJ.out.below HB0.out).spot HQ.out
     subst ha
     cases ha2
     rw[←hW] at k0 k1 k2 k3 k4 k5 d0 d1 d2 d3
     have HW:=Hi hW
     clear hW
     go_wp2_with fail
     go_fit (Qaf _ js.length cap ka _ ⟨i1,i3⟩)
     rintro e w1 ⟨rfl,rfl⟩
     go_wp2_with fail
     go_fit (Qaf _ js.length cap kb _ ⟨i2,i4⟩)
     rintro e w2 ⟨rfl,rfl⟩
     go_wp2_with fail
     rw[HW.out]
     rw[HW.out] at k0 k1 k2 k3 k4 k5 d0 d1 d2 d3
     go_region_held3 (fun v=>v.cell? ⟨w.heap.size,0,none⟩=some (.int .i64 ka)∧v.cell? ⟨w.heap.size,1,none⟩=some (.int .i64 kb)∧v.cell? ⟨b1,o1+ka*2,none⟩=some (.string p.x)∧v.cell? ⟨b1,o1+ka*2+1,none⟩=some (.string p.y)∧v.cell? ⟨b1,o1+kb*2,none⟩=some (.string q.x)∧v.cell? ⟨b1,o1+kb*2+1,none⟩=some (.string q.y)) ((first|(simp [*];done)|go_keep)) (first
      |(
       go_at_call 181
       apply Calls.mono
       apply Qb2 p.x p.y q.x q.y px py qx qy
       (first|exact HG.out.below HB0.out|exact HG.out.below HB0.out.drew)
       exact Z1.out.1
       exact Z1.out.2
       exact Z2.out.1
       exact Z2.out.2
       exact Q1.out
       exact Q2.out
       exact Q3.out
       exact Q4.out
       rintro e wn ⟨rfl,hbn⟩
       rw[HD.out]
       have HN:Hid (Below W.heap.size W wn):=Hi (((Below.refl _ _).drew).trans hbn)
       have HJN:=Hi ((HJ.out.below HB0.out).below HN.out)
       obtain⟨b3,o3,ha3,l3,d0,d1⟩:=HJN.out.spot HP.out
       obtain⟨b4,o4,ha4,l4,d2,d3⟩:=HJN.out.spot HQ.out
       cases ha3
       cases ha4
       have hs0:=HS0.out.below HN.out HS0.out.lt
       have k0:wn.cell? ⟨w.heap.size,0,none⟩=some (.int .i64 (ka:Int)):=hs0.cell 0
       have k1:wn.cell? ⟨w.heap.size,1,none⟩=some (.int .i64 (kb:Int)):=hs0.cell 1
       have k2:wn.cell? ⟨w.heap.size,2,none⟩=some (.string bc):=hs0.cell 2
       have k3:wn.cell? ⟨w.heap.size,3,none⟩=some (.string be):=hs0.cell 3
       have k4:wn.cell? ⟨w.heap.size,4,none⟩=some (.string bl):=hs0.cell 4
       have k5:wn.cell? ⟨w.heap.size,5,none⟩=some (.string bm):=hs0.cell 5
       clear hs0
       clear hbn)
      )
     have HF:=Hi (FBag.start ((HG.out.below HB0.out).below HN.out))
     go_wp2_with (first
      |
       (go_at_call_of 149 (Value.string bc)
        apply Calls.mono
        apply FBag.of (w0:=wn) (n:=1048576)
        (focus(first|exact HF.out|exact HF.out.drew))
        exact Z3.out.1
        decide
        rintro e wm ⟨qq,hq,x1,x2,x3,rfl,hbag⟩
        obtain rfl:=Q5.out.inj hq
        clear HF
        have HF:=Hi hbag
        clear hq hbag
        have HM:=Hi (HN.out.trans (HF.out.base.mono HN.out.size))
        have hs0:=HS0.out.below HM.out HS0.out.lt
        have k0:wm.cell? ⟨w.heap.size,0,none⟩=some (.int .i64 (ka:Int)):=hs0.cell 0
        have k1:wm.cell? ⟨w.heap.size,1,none⟩=some (.int .i64 (kb:Int)):=hs0.cell 1
        have k2:wm.cell? ⟨w.heap.size,2,none⟩=some (.string bc):=hs0.cell 2
        have k3:wm.cell? ⟨w.heap.size,3,none⟩=some (.string be):=hs0.cell 3
        have k4:wm.cell? ⟨w.heap.size,4,none⟩=some (.string bl):=hs0.cell 4
        have k5:wm.cell? ⟨w.heap.size,5,none⟩=some (.string bm):=hs0.cell 5
        clear hs0
        clear HM)
      |
       (go_at_call_of 149 (Value.string bl)
        apply Calls.mono
        apply FBag.of (w0:=wn) (n:=1048576)
        (focus(first|exact HF.out|exact HF.out.drew))
        exact Z3.out.2.1
        decide
        rintro e wm ⟨qq,hq,x1,x2,x3,rfl,hbag⟩
        obtain rfl:=Q6.out.inj hq
        clear HF
        have HF:=Hi hbag
        clear hq hbag
        have HM:=Hi (HN.out.trans (HF.out.base.mono HN.out.size))
        have hs0:=HS0.out.below HM.out HS0.out.lt
        have k0:wm.cell? ⟨w.heap.size,0,none⟩=some (.int .i64 (ka:Int)):=hs0.cell 0
        have k1:wm.cell? ⟨w.heap.size,1,none⟩=some (.int .i64 (kb:Int)):=hs0.cell 1
        have k2:wm.cell? ⟨w.heap.size,2,none⟩=some (.string bc):=hs0.cell 2
        have k3:wm.cell? ⟨w.heap.size,3,none⟩=some (.string be):=hs0.cell 3
        have k4:wm.cell? ⟨w.heap.size,4,none⟩=some (.string bl):=hs0.cell 4
        have k5:wm.cell? ⟨w.heap.size,5,none⟩=some (.string bm):=hs0.cell 5
        clear hs0
        clear HM)
      |
       (go_at_call_of 149 (Value.string bm)
        apply Calls.mono
        apply FBag.of (w0:=wn) (n:=1048576)
        (focus(first|exact HF.out|exact HF.out.drew))
        exact Z3.out.2.2
        decide
        rintro e wm ⟨qq,hq,x1,x2,x3,rfl,hbag⟩
        obtain rfl:=Q7.out.inj hq
        clear HF
        have HF:=Hi hbag
        clear hq hbag
        have HM:=Hi (HN.out.trans (HF.out.base.mono HN.out.size))
        have hs0:=HS0.out.below HM.out HS0.out.lt
        have k0:wm.cell? ⟨w.heap.size,0,none⟩=some (.int .i64 (ka:Int)):=hs0.cell 0
        have k1:wm.cell? ⟨w.heap.size,1,none⟩=some (.int .i64 (kb:Int)):=hs0.cell 1
        have k2:wm.cell? ⟨w.heap.size,2,none⟩=some (.string bc):=hs0.cell 2
        have k3:wm.cell? ⟨w.heap.size,3,none⟩=some (.string be):=hs0.cell 3
        have k4:wm.cell? ⟨w.heap.size,4,none⟩=some (.string bl):=hs0.cell 4
        have k5:wm.cell? ⟨w.heap.size,5,none⟩=some (.string bm):=hs0.cell 5
        clear hs0
        clear HM)
      |
       (go_at_call 182
        apply Calls.mono
        apply FBag.sign (w0:=wn)
        (focus(first|exact HF.out|exact HF.out.drew))
        (focus(repeat(first|exact List.Mem.head _|apply List.Mem.tail)))
        rintro e wm ⟨rfl,hbag⟩
        (first|rw[SC.out]|rw[SL.out]|rw[SM.out])
        clear HF
        have HF:=Hi hbag
        clear hbag
        have HM:=Hi (HN.out.trans (HF.out.base.mono HN.out.size))
        have hs0:=HS0.out.below HM.out HS0.out.lt
        have k0:wm.cell? ⟨w.heap.size,0,none⟩=some (.int .i64 (ka:Int)):=hs0.cell 0
        have k1:wm.cell? ⟨w.heap.size,1,none⟩=some (.int .i64 (kb:Int)):=hs0.cell 1
        have k2:wm.cell? ⟨w.heap.size,2,none⟩=some (.string bc):=hs0.cell 2
        have k3:wm.cell? ⟨w.heap.size,3,none⟩=some (.string be):=hs0.cell 3
        have k4:wm.cell? ⟨w.heap.size,4,none⟩=some (.string bl):=hs0.cell 4
        have k5:wm.cell? ⟨w.heap.size,5,none⟩=some (.string bm):=hs0.cell 5
        clear hs0
        clear HM)
      |fail)
     go_ret
     exact⟨rfl,HB0.out.trans ((HN.out.trans (HF.out.base.mono HN.out.size)).mono HB0.out.size)⟩
end Go.Proofs.YtjhdfkcdigmfhaaGreatDoor
