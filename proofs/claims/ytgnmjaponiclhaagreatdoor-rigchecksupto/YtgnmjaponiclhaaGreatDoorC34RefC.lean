import Derived.Test.YtgnmjaponiclhaaGreatDoorC32RigE
import Derived.Test.YtgnmjaponiclhaaGreatDoorC33RatCmp
namespace Go.Proofs.YtgnmjaponiclhaaGreatDoor
open Go.RowKit
set_option linter.unusedVariables false
set_option linter.unusedSimpArgs false
theorem RBag.cmpT{w0 w:World}{L:List (Nat × Rat × Nat)}{bx bv j k:Nat}{p q:Rat}(h:RBag w0 w L)(hx:(bx,p,j)∈ L)(hy:(bv,q,k)∈ L)(hj:j+k<274877906000)(he:p=q):
 Calls Tryz.prog 61 #[.pointer (some ⟨bx,0,none⟩),.pointer (some ⟨bv,0,none⟩)] w fun e w'=>e=.returned (.int .i64 0)∧RBag w0 w' L:=by
 have a:=h.ts _ hx
 have b:=h.ts _ hy
 refine(Qh6 bx bv j k p q w a.1 b.1 a.2.1 b.2.1 hj).mono ?_
 rintro e w' ⟨⟨c,rfl,hc⟩,hb⟩
 exact⟨by rw[hc.2 he],h.below hb⟩
theorem RBag.cmpF{w0 w:World}{L:List (Nat × Rat × Nat)}{bx bv j k:Nat}{p q:Rat}(h:RBag w0 w L)(hx:(bx,p,j)∈ L)(hy:(bv,q,k)∈ L)(hj:j+k<274877906000)(he:¬p=q):
 Calls Tryz.prog 61 #[.pointer (some ⟨bx,0,none⟩),.pointer (some ⟨bv,0,none⟩)] w fun e w'=>(∃c,e=.returned (.int .i64 c)∧(c == 0)=false)∧RBag w0 w' L:=by
 have a:=h.ts _ hx
 have b:=h.ts _ hy
 refine(Qh6 bx bv j k p q w a.1 b.1 a.2.1 b.2.1 hj).mono ?_
 rintro e w' ⟨⟨c,rfl,hc⟩,hb⟩
 exact⟨⟨c,rfl,by rw[beq_eq_false_iff_ne];exact fun h=>he (hc.1 h)⟩,h.below hb⟩
set_option maxRecDepth 100000 in
set_option maxHeartbeats 4000000 in
theorem Qoz(a1 a2 a3:Option Addr)(c1 c2 c3:Nat)(js:List S2)(bs:List B6)(hs:List H3)(w:World)(hg:Glob w)(hf:FrRow w a1 a2 a3 c1 c2 c3 js bs hs)(hz:FrSized js bs hs)(hm:Many js.length bs.length hs.length):
 Calls Tryz.prog 27 #[.agg #[.slice a1 js.length c1,.slice a2 bs.length c2,.slice a3 hs.length c3]] w fun e w'=>∃c at_,e=.returned (.agg #[.int .i64 c,.int .i64 at_])∧FrameFault js bs hs c at_∧Below w.heap.size w w':=by
 have HMY:=Hi hm
 by_cases h1:js.length<1
 ·
  have q1:((js.length:Int) == 0)=true:=by rw[beq_iff_eq];omega
  clear hm
  have HG:=Hi hg
  have HF:=Hi hf
  have HZ:=Hi hz
  clear hg hf hz
  go_enter Tryz.func27,Tryz.ntmps27
  obtain⟨W,hW⟩:∃W,(w.alloc (.cells #[.slice a1 js.length c1,.slice a2 bs.length c2,.slice a3 hs.length c3] 54)).alloc (.cells #[.int .i64 0,.int .i64 0] 57)=W:=⟨_,rfl⟩
  have HB0:Hid (Below w.heap.size w W):=Hi (by rw[←hW];exact Below.new2 w _ _)
  have HS0:Hid (SB W w.heap.size 54 #[.slice a1 js.length c1,.slice a2 bs.length c2,.slice a3 hs.length c3]):=Hi (by rw[←hW];exact(SB.new w _ _).alloc _)
  have HS1:Hid (SB W (w.heap.size+1) 57 #[.int .i64 0,.int .i64 0]):=Hi (by rw[←hW];exact SB.new2 w _ _ _ _)
  have HR0:Hid (Below W.heap.size W W):=Hi (Below.refl _ _)
  have hx:=HS0.out.below HR0.out HS0.out.lt
  have hy:=HS1.out.below HR0.out HS1.out.lt
  have x0:W.cell? ⟨w.heap.size,0,none⟩=some (.slice a1 js.length c1):=hx.cell 0
  have x1:W.cell? ⟨w.heap.size,1,none⟩=some (.slice a2 bs.length c2):=hx.cell 1
  have x2:W.cell? ⟨w.heap.size,2,none⟩=some (.slice a3 hs.length c3):=hx.cell 2
  have z0:W.cell? ⟨w.heap.size+1,0,none⟩=some (.int .i64 0):=hy.cell 0
  have z1:W.cell? ⟨w.heap.size+1,1,none⟩=some (.int .i64 0):=hy.cell 1
  have f0:=hy.free 0
  have f1:=hy.free 1
  clear hx hy
  rw[←hW] at x0 x1 x2 z0 z1 f0 f1
  have HW:=Hi hW
  clear hW
  go_wp2_with fail
  rw[HW.out]
  clear x0 x1 x2 z0 z1 f0 f1
  go_fit (ref_F 2 0 W)
  rintro e w9 ⟨rfl,hb9⟩
  have HB9:=Hi (HR0.out.trans (hb9.mono HR0.out.size))
  have HS9:=Hi (HS1.out.below HB9.out HS1.out.lt)
  have z0:w9.cell? ⟨w.heap.size+1,0,none⟩=some (.int .i64 0):=HS9.out.cell 0
  have z1:w9.cell? ⟨w.heap.size+1,1,none⟩=some (.int .i64 0):=HS9.out.cell 1
  have f0:=HS9.out.free 0
  have f1:=HS9.out.free 1
  clear hb9
  go_wp2
  refine bodyPost_ret (v:=.agg #[.int .i64 2,.int .i64 0]) (results_cell_row rfl _ _ (w.heap.size+1) 57 #[.int .i64 2,.int .i64 0] (0,0) _ rfl ((HS9.out.set 0 _).set 1 _) Tryz.underlying57 rfl Tryz.faultInfo) rfl ?_
  exact⟨_,_,rfl,Or.inl ⟨HMY.out,rfl,rfl⟩,((HB0.out.trans (HB9.out.mono HB0.out.size)).setCell (Nat.le_succ _) _).setCell (Nat.le_succ _) _⟩
  skip
 have q1:((js.length:Int) == 0)=false:=by rw[beq_eq_false_iff_ne];omega
 by_cases h2:10<js.length
 ·
  have q2:((10:Int)<(js.length:Int)):=by omega
  clear hm
  have HG:=Hi hg
  have HF:=Hi hf
  have HZ:=Hi hz
  clear hg hf hz
  go_enter Tryz.func27,Tryz.ntmps27
  obtain⟨W,hW⟩:∃W,(w.alloc (.cells #[.slice a1 js.length c1,.slice a2 bs.length c2,.slice a3 hs.length c3] 54)).alloc (.cells #[.int .i64 0,.int .i64 0] 57)=W:=⟨_,rfl⟩
  have HB0:Hid (Below w.heap.size w W):=Hi (by rw[←hW];exact Below.new2 w _ _)
  have HS0:Hid (SB W w.heap.size 54 #[.slice a1 js.length c1,.slice a2 bs.length c2,.slice a3 hs.length c3]):=Hi (by rw[←hW];exact(SB.new w _ _).alloc _)
  have HS1:Hid (SB W (w.heap.size+1) 57 #[.int .i64 0,.int .i64 0]):=Hi (by rw[←hW];exact SB.new2 w _ _ _ _)
  have HR0:Hid (Below W.heap.size W W):=Hi (Below.refl _ _)
  have hx:=HS0.out.below HR0.out HS0.out.lt
  have hy:=HS1.out.below HR0.out HS1.out.lt
  have x0:W.cell? ⟨w.heap.size,0,none⟩=some (.slice a1 js.length c1):=hx.cell 0
  have x1:W.cell? ⟨w.heap.size,1,none⟩=some (.slice a2 bs.length c2):=hx.cell 1
  have x2:W.cell? ⟨w.heap.size,2,none⟩=some (.slice a3 hs.length c3):=hx.cell 2
  have z0:W.cell? ⟨w.heap.size+1,0,none⟩=some (.int .i64 0):=hy.cell 0
  have z1:W.cell? ⟨w.heap.size+1,1,none⟩=some (.int .i64 0):=hy.cell 1
  have f0:=hy.free 0
  have f1:=hy.free 1
  clear hx hy
  rw[←hW] at x0 x1 x2 z0 z1 f0 f1
  have HW:=Hi hW
  clear hW
  go_wp2_with fail
  rw[HW.out]
  clear x0 x1 x2 z0 z1 f0 f1
  go_fit (ref_F 2 0 W)
  rintro e w9 ⟨rfl,hb9⟩
  have HB9:=Hi (HR0.out.trans (hb9.mono HR0.out.size))
  have HS9:=Hi (HS1.out.below HB9.out HS1.out.lt)
  have z0:w9.cell? ⟨w.heap.size+1,0,none⟩=some (.int .i64 0):=HS9.out.cell 0
  have z1:w9.cell? ⟨w.heap.size+1,1,none⟩=some (.int .i64 0):=HS9.out.cell 1
  have f0:=HS9.out.free 0
  have f1:=HS9.out.free 1
  clear hb9
  go_wp2
  refine bodyPost_ret (v:=.agg #[.int .i64 2,.int .i64 0]) (results_cell_row rfl _ _ (w.heap.size+1) 57 #[.int .i64 2,.int .i64 0] (0,0) _ rfl ((HS9.out.set 0 _).set 1 _) Tryz.underlying57 rfl Tryz.faultInfo) rfl ?_
  exact⟨_,_,rfl,Or.inl ⟨HMY.out,rfl,rfl⟩,((HB0.out.trans (HB9.out.mono HB0.out.size)).setCell (Nat.le_succ _) _).setCell (Nat.le_succ _) _⟩
  skip
 have q2:¬((10:Int)<(js.length:Int)):=by omega
 by_cases h3:24<bs.length
 ·
  have q3:((24:Int)<(bs.length:Int)):=by omega
  clear hm
  have HG:=Hi hg
  have HF:=Hi hf
  have HZ:=Hi hz
  clear hg hf hz
  go_enter Tryz.func27,Tryz.ntmps27
  obtain⟨W,hW⟩:∃W,(w.alloc (.cells #[.slice a1 js.length c1,.slice a2 bs.length c2,.slice a3 hs.length c3] 54)).alloc (.cells #[.int .i64 0,.int .i64 0] 57)=W:=⟨_,rfl⟩
  have HB0:Hid (Below w.heap.size w W):=Hi (by rw[←hW];exact Below.new2 w _ _)
  have HS0:Hid (SB W w.heap.size 54 #[.slice a1 js.length c1,.slice a2 bs.length c2,.slice a3 hs.length c3]):=Hi (by rw[←hW];exact(SB.new w _ _).alloc _)
  have HS1:Hid (SB W (w.heap.size+1) 57 #[.int .i64 0,.int .i64 0]):=Hi (by rw[←hW];exact SB.new2 w _ _ _ _)
  have HR0:Hid (Below W.heap.size W W):=Hi (Below.refl _ _)
  have hx:=HS0.out.below HR0.out HS0.out.lt
  have hy:=HS1.out.below HR0.out HS1.out.lt
  have x0:W.cell? ⟨w.heap.size,0,none⟩=some (.slice a1 js.length c1):=hx.cell 0
  have x1:W.cell? ⟨w.heap.size,1,none⟩=some (.slice a2 bs.length c2):=hx.cell 1
  have x2:W.cell? ⟨w.heap.size,2,none⟩=some (.slice a3 hs.length c3):=hx.cell 2
  have z0:W.cell? ⟨w.heap.size+1,0,none⟩=some (.int .i64 0):=hy.cell 0
  have z1:W.cell? ⟨w.heap.size+1,1,none⟩=some (.int .i64 0):=hy.cell 1
  have f0:=hy.free 0
  have f1:=hy.free 1
  clear hx hy
  rw[←hW] at x0 x1 x2 z0 z1 f0 f1
  have HW:=Hi hW
  clear hW
  go_wp2_with fail
  rw[HW.out]
  clear x0 x1 x2 z0 z1 f0 f1
  go_fit (ref_F 2 0 W)
  rintro e w9 ⟨rfl,hb9⟩
  have HB9:=Hi (HR0.out.trans (hb9.mono HR0.out.size))
  have HS9:=Hi (HS1.out.below HB9.out HS1.out.lt)
  have z0:w9.cell? ⟨w.heap.size+1,0,none⟩=some (.int .i64 0):=HS9.out.cell 0
  have z1:w9.cell? ⟨w.heap.size+1,1,none⟩=some (.int .i64 0):=HS9.out.cell 1
  have f0:=HS9.out.free 0
  have f1:=HS9.out.free 1
  clear hb9
  go_wp2
  refine bodyPost_ret (v:=.agg #[.int .i64 2,.int .i64 0]) (results_cell_row rfl _ _ (w.heap.size+1) 57 #[.int .i64 2,.int .i64 0] (0,0) _ rfl ((HS9.out.set 0 _).set 1 _) Tryz.underlying57 rfl Tryz.faultInfo) rfl ?_
  exact⟨_,_,rfl,Or.inl ⟨HMY.out,rfl,rfl⟩,((HB0.out.trans (HB9.out.mono HB0.out.size)).setCell (Nat.le_succ _) _).setCell (Nat.le_succ _) _⟩
  skip
 have q3:¬((24:Int)<(bs.length:Int)):=by omega
 have q4:((20:Int)<(hs.length:Int)):=by rcases hm with h|h|h|h<;>omega
 clear hm
 have HG:=Hi hg
 have HF:=Hi hf
 have HZ:=Hi hz
 clear hg hf hz
 go_enter Tryz.func27,Tryz.ntmps27
 obtain⟨W,hW⟩:∃W,(w.alloc (.cells #[.slice a1 js.length c1,.slice a2 bs.length c2,.slice a3 hs.length c3] 54)).alloc (.cells #[.int .i64 0,.int .i64 0] 57)=W:=⟨_,rfl⟩
 have HB0:Hid (Below w.heap.size w W):=Hi (by rw[←hW];exact Below.new2 w _ _)
 have HS0:Hid (SB W w.heap.size 54 #[.slice a1 js.length c1,.slice a2 bs.length c2,.slice a3 hs.length c3]):=Hi (by rw[←hW];exact(SB.new w _ _).alloc _)
 have HS1:Hid (SB W (w.heap.size+1) 57 #[.int .i64 0,.int .i64 0]):=Hi (by rw[←hW];exact SB.new2 w _ _ _ _)
 have HR0:Hid (Below W.heap.size W W):=Hi (Below.refl _ _)
 have hx:=HS0.out.below HR0.out HS0.out.lt
 have hy:=HS1.out.below HR0.out HS1.out.lt
 have x0:W.cell? ⟨w.heap.size,0,none⟩=some (.slice a1 js.length c1):=hx.cell 0
 have x1:W.cell? ⟨w.heap.size,1,none⟩=some (.slice a2 bs.length c2):=hx.cell 1
 have x2:W.cell? ⟨w.heap.size,2,none⟩=some (.slice a3 hs.length c3):=hx.cell 2
 have z0:W.cell? ⟨w.heap.size+1,0,none⟩=some (.int .i64 0):=hy.cell 0
 have z1:W.cell? ⟨w.heap.size+1,1,none⟩=some (.int .i64 0):=hy.cell 1
 have f0:=hy.free 0
 have f1:=hy.free 1
 clear hx hy
 rw[←hW] at x0 x1 x2 z0 z1 f0 f1
 have HW:=Hi hW
 clear hW
 go_wp2_with fail
 rw[HW.out]
 clear x0 x1 x2 z0 z1 f0 f1
 go_fit (ref_F 2 0 W)
 rintro e w9 ⟨rfl,hb9⟩
 have HB9:=Hi (HR0.out.trans (hb9.mono HR0.out.size))
 have HS9:=Hi (HS1.out.below HB9.out HS1.out.lt)
 have z0:w9.cell? ⟨w.heap.size+1,0,none⟩=some (.int .i64 0):=HS9.out.cell 0
 have z1:w9.cell? ⟨w.heap.size+1,1,none⟩=some (.int .i64 0):=HS9.out.cell 1
 have f0:=HS9.out.free 0
 have f1:=HS9.out.free 1
 clear hb9
 go_wp2
 refine bodyPost_ret (v:=.agg #[.int .i64 2,.int .i64 0]) (results_cell_row rfl _ _ (w.heap.size+1) 57 #[.int .i64 2,.int .i64 0] (0,0) _ rfl ((HS9.out.set 0 _).set 1 _) Tryz.underlying57 rfl Tryz.faultInfo) rfl ?_
 exact⟨_,_,rfl,Or.inl ⟨HMY.out,rfl,rfl⟩,((HB0.out.trans (HB9.out.mono HB0.out.size)).setCell (Nat.le_succ _) _).setCell (Nat.le_succ _) _⟩
 skip
end Go.Proofs.YtgnmjaponiclhaaGreatDoor
