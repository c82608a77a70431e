/- package rig: Count; rafterref: F and End. -/
import Derived.Test.YtjhdfkcdigmfhaaGreatDoorC23RigC
namespace Go.Proofs.YtjhdfkcdigmfhaaGreatDoor
open Go.RowKit
set_option linter.unusedVariables false
set_option linter.unusedSimpArgs false
theorem Qod(a:Option Addr)(cap:Nat)(js:List S2)(b:B6)(w:World)(hg:Glob w)(hj:ARow S2.cells w a cap js)(zj:∀p,p∈ js→p.x.size≤1048576∧p.y.size≤1048576)(zb:b.c.size≤1048576∧b.e.size≤1048576∧b.l.size≤1048576∧b.m.size≤1048576):
 Calls Tryz.prog 95 #[.slice a js.length cap,.agg #[.int .i64 b.a,.int .i64 b.b,.string b.c,.string b.e,.string b.l,.string b.m]] w fun e w'=>∃c,e=.returned (.int .i64 c)∧BarCode js b c∧Below w.heap.size w w':=by
 by_cases h:IsJ js.length b.a∧IsJ js.length b.b
 ·
  obtain⟨ka,hka⟩:=Int.eq_ofNat_of_zero_le h.1.1
  obtain⟨kb,hkb⟩:=Int.eq_ofNat_of_zero_le h.2.1
  have la:ka<js.length:=by have:=h.1.2;omega
  have lb:kb<js.length:=by have:=h.2.2;omega
  obtain⟨p,hp⟩:∃p,js[ka]?=some p:=⟨_,List.getElem?_eq_getElem la⟩
  obtain⟨q,hq⟩:∃q,js[kb]?=some q:=⟨_,List.getElem?_eq_getElem lb⟩
  obtain⟨px,hpx⟩:=QOf.ex p.x.data.toList
  obtain⟨py,hpy⟩:=QOf.ex p.y.data.toList
  obtain⟨qx,hqx⟩:=QOf.ex q.x.data.toList
  obtain⟨qy,hqy⟩:=QOf.ex q.y.data.toList
  obtain⟨vc,hvc⟩:=QOf.ex b.c.data.toList
  obtain⟨vl,hvl⟩:=QOf.ex b.l.data.toList
  obtain⟨vm,hvm⟩:=QOf.ex b.m.data.toList
  rw[hka,hkb]
  refine(Qn9 a cap ka kb js p q b.c b.e b.l b.m px py qx qy vc vl vm w hg hj hp hq (zj p (List.mem_of_getElem? hp)) (zj q (List.mem_of_getElem? hq)) ⟨zb.1,zb.2.2.1,zb.2.2.2⟩ hpx hpy hqx hqy hvc hvl hvm).mono ?_
  rintro e w' ⟨rfl,hb⟩
  exact⟨_,rfl,.inr ⟨h.1,h.2,p,q,by rw[hka];exact hp,by rw[hkb];exact hq,px,py,qx,qy,vc,vl,vm,hpx,hpy,hqx,hqy,hvc,hvl,hvm,rfl⟩,hb⟩
 ·
  refine(Qn8 a js.length cap b.a b.b b.c b.e b.l b.m w h).mono ?_
  rintro e w' ⟨rfl,hb⟩
  exact⟨_,rfl,.inl ⟨h,rfl⟩,hb⟩
def Many(j b h:Nat):Prop:=j<1∨10<j∨24<b∨20<h
def FrameFault(js:List S2)(bs:List B6)(hs:List H3)(c at_:Int):Prop:=
 (Many js.length bs.length hs.length∧c=2∧at_=0)∨
 (¬Many js.length bs.length hs.length∧∃(k:Nat) (b:B6),bs[k]?=some b∧(∀(i:Nat) (x:B6),i<k→bs[i]?=some x→BarCode js x 0)∧BarCode js b c∧c≠0∧at_=(k:Int))∨
 (¬Many js.length bs.length hs.length∧(∀(i:Nat) (x:B6),bs[i]?=some x→BarCode js x 0)∧HoldsFault js.length bs.length hs c at_)
theorem HoldsFault.inj{n m:Nat}{hs:List H3}{c d x y:Int}(h:HoldsFault n m hs c x)(k:HoldsFault n m hs d y):c=d∧x=y:=by
 rcases h with ⟨i,f,hf,hall,rfl,hc,rfl⟩|⟨hall,rfl,rfl⟩
 ·
  rcases k with ⟨j,g,hg,kall,rfl,kc,rfl⟩|⟨kall,_,_⟩
  ·
   rcases Nat.lt_trichotomy i j with h|rfl|h
   · exact absurd (kall i f h hf) hc
   ·
    rw[hf] at hg
    cases hg
    exact⟨rfl,rfl⟩
   · exact absurd (hall j g h hg) kc
  · exact absurd (kall i f hf) hc
 ·
  rcases k with ⟨j,g,hg,kall,rfl,kc,rfl⟩|⟨kall,rfl,rfl⟩
  · exact absurd (hall j g hg) kc
  · exact⟨rfl,rfl⟩
theorem FrameFault.inj{js:List S2}{bs:List B6}{hs:List H3}{c d x y:Int}(h:FrameFault js bs hs c x)(k:FrameFault js bs hs d y):c=d∧x=y:=by
 rcases h with ⟨hm,rfl,rfl⟩|⟨hm,i,f,hf,hall,hb,hc,rfl⟩|⟨hm,hall,hh⟩
 ·
  rcases k with ⟨_,rfl,rfl⟩|⟨km,_⟩|⟨km,_⟩
  · exact⟨rfl,rfl⟩
  · exact absurd hm km
  · exact absurd hm km
 ·
  rcases k with ⟨km,_⟩|⟨_,j,g,hg,kall,kb,kc,rfl⟩|⟨_,kall,_⟩
  · exact absurd km hm
  ·
   rcases Nat.lt_trichotomy i j with h|rfl|h
   · exact absurd (hb.inj (kall i f h hf)) hc
   ·
    rw[hf] at hg
    cases hg
    exact⟨hb.inj kb,rfl⟩
   · exact absurd (kb.inj (hall j g h hg)) kc
  · exact absurd (hb.inj (kall i f hf)) hc
 ·
  rcases k with ⟨km,_⟩|⟨_,j,g,hg,kall,kb,kc,rfl⟩|⟨_,kall,kh⟩
  · exact absurd km hm
  · exact absurd (kb.inj (hall j g hg)) kc
  · exact hh.inj kh
set_option maxRecDepth 100000 in
set_option maxHeartbeats 4000000 in
theorem Qec(a1 a2 a3:Option Addr)(c1 c2 c3:Nat)(js:List S2)(bs:List B6)(hs:List H3)(w:World)(hg:Glob w)(hf:FrRow w a1 a2 a3 c1 c2 c3 js bs hs)(hz:FrSized js bs hs):
 Calls Tryz.prog 30 #[.agg #[.slice a1 js.length c1,.slice a2 bs.length c2,.slice a3 hs.length c3]] w fun e w'=>∃c at_,e=.returned (.agg #[.int .i64 c,.int .i64 at_])∧FrameFault js bs hs c at_∧Below w.heap.size w w':=by
 by_cases h1:js.length<1
 ·
  have HMY:Hid (Many js.length bs.length hs.length):=Hi (.inl h1)
  have q1:((js.length:Int)<1):=by omega
  have HG:=Hi hg
  have HF:=Hi hf
  have HZ:=Hi hz
  clear hg hf hz
  go_enter Tryz.func30,Tryz.ntmps30
  obtain⟨W,hW⟩:∃W,(w.alloc (.cells #[.slice a1 js.length c1,.slice a2 bs.length c2,.slice a3 hs.length c3] 54)).alloc (.cells #[.int .i64 0,.int .i64 0] 57)=W:=⟨_,rfl⟩
  have HB0:Hid (Below w.heap.size w W):=Hi (by rw[←hW];exact Below.new2 w _ _)
  have HS0:Hid (SB W w.heap.size 54 #[.slice a1 js.length c1,.slice a2 bs.length c2,.slice a3 hs.length c3]):=Hi (by rw[←hW];exact(SB.new w _ _).alloc _)
  have HS1:Hid (SB W (w.heap.size+1) 57 #[.int .i64 0,.int .i64 0]):=Hi (by rw[←hW];exact SB.new2 w _ _ _ _)
  have HR0:Hid (Below W.heap.size W W):=Hi (Below.refl _ _)
  have hx:=HS0.out.below HR0.out HS0.out.lt
  have hy:=HS1.out.below HR0.out HS1.out.lt
  have x0:W.cell? ⟨w.heap.size,0,none⟩=some (.slice a1 js.length c1):=hx.cell 0
  have x1:W.cell? ⟨w.heap.size,1,none⟩=some (.slice a2 bs.length c2):=hx.cell 1
  have x2:W.cell? ⟨w.heap.size,2,none⟩=some (.slice a3 hs.length c3):=hx.cell 2
  have z0:W.cell? ⟨w.heap.size+1,0,none⟩=some (.int .i64 0):=hy.cell 0
  have z1:W.cell? ⟨w.heap.size+1,1,none⟩=some (.int .i64 0):=hy.cell 1
  have f0:=hy.free 0
  have f1:=hy.free 1
  clear hx hy
  rw[←hW] at x0 x1 x2 z0 z1 f0 f1
  have HW:=Hi hW
  clear hW
  go_wp2
  refine bodyPost_ret (v:=.agg #[.int .i64 2,.int .i64 0]) (results_cell_row rfl _ _ (w.heap.size+1) 57 #[.int .i64 2,.int .i64 0] (0,0) _ rfl (SB.new2 w _ _ _ _) Tryz.underlying57 rfl Tryz.faultInfo) rfl ?_
  exact⟨2,0,rfl,Or.inl ⟨HMY.out,rfl,rfl⟩,Below.new2 w _ _⟩
  skip
 by_cases h2:10<js.length
 ·
  have HMY:Hid (Many js.length bs.length hs.length):=Hi (.inr (.inl h2))
  have q1:¬((js.length:Int)<1):=by omega
  have q2:((10:Int)<(js.length:Int)):=by omega
  have HG:=Hi hg
  have HF:=Hi hf
  have HZ:=Hi hz
  clear hg hf hz
  go_enter Tryz.func30,Tryz.ntmps30
  obtain⟨W,hW⟩:∃W,(w.alloc (.cells #[.slice a1 js.length c1,.slice a2 bs.length c2,.slice a3 hs.length c3] 54)).alloc (.cells #[.int .i64 0,.int .i64 0] 57)=W:=⟨_,rfl⟩
  have HB0:Hid (Below w.heap.size w W):=Hi (by rw[←hW];exact Below.new2 w _ _)
  have HS0:Hid (SB W w.heap.size 54 #[.slice a1 js.length c1,.slice a2 bs.length c2,.slice a3 hs.length c3]):=Hi (by rw[←hW];exact(SB.new w _ _).alloc _)
  have HS1:Hid (SB W (w.heap.size+1) 57 #[.int .i64 0,.int .i64 0]):=Hi (by rw[←hW];exact SB.new2 w _ _ _ _)
  have HR0:Hid (Below W.heap.size W W):=Hi (Below.refl _ _)
  have hx:=HS0.out.below HR0.out HS0.out.lt
  have hy:=HS1.out.below HR0.out HS1.out.lt
  have x0:W.cell? ⟨w.heap.size,0,none⟩=some (.slice a1 js.length c1):=hx.cell 0
  have x1:W.cell? ⟨w.heap.size,1,none⟩=some (.slice a2 bs.length c2):=hx.cell 1
  have x2:W.cell? ⟨w.heap.size,2,none⟩=some (.slice a3 hs.length c3):=hx.cell 2
  have z0:W.cell? ⟨w.heap.size+1,0,none⟩=some (.int .i64 0):=hy.cell 0
  have z1:W.cell? ⟨w.heap.size+1,1,none⟩=some (.int .i64 0):=hy.cell 1
  have f0:=hy.free 0
  have f1:=hy.free 1
  clear hx hy
  rw[←hW] at x0 x1 x2 z0 z1 f0 f1
  have HW:=Hi hW
  clear hW
  go_wp2
  refine bodyPost_ret (v:=.agg #[.int .i64 2,.int .i64 0]) (results_cell_row rfl _ _ (w.heap.size+1) 57 #[.int .i64 2,.int .i64 0] (0,0) _ rfl (SB.new2 w _ _ _ _) Tryz.underlying57 rfl Tryz.faultInfo) rfl ?_
  exact⟨2,0,rfl,Or.inl ⟨HMY.out,rfl,rfl⟩,Below.new2 w _ _⟩
  skip
 by_cases h3:24<bs.length
 ·
  have HMY:Hid (Many js.length bs.length hs.length):=Hi (.inr (.inr (.inl h3)))
  have q1:¬((js.length:Int)<1):=by omega
  have q2:¬((10:Int)<(js.length:Int)):=by omega
  have q3:((24:Int)<(bs.length:Int)):=by omega
  have HG:=Hi hg
  have HF:=Hi hf
  have HZ:=Hi hz
  clear hg hf hz
  go_enter Tryz.func30,Tryz.ntmps30
  obtain⟨W,hW⟩:∃W,(w.alloc (.cells #[.slice a1 js.length c1,.slice a2 bs.length c2,.slice a3 hs.length c3] 54)).alloc (.cells #[.int .i64 0,.int .i64 0] 57)=W:=⟨_,rfl⟩
  have HB0:Hid (Below w.heap.size w W):=Hi (by rw[←hW];exact Below.new2 w _ _)
  have HS0:Hid (SB W w.heap.size 54 #[.slice a1 js.length c1,.slice a2 bs.length c2,.slice a3 hs.length c3]):=Hi (by rw[←hW];exact(SB.new w _ _).alloc _)
  have HS1:Hid (SB W (w.heap.size+1) 57 #[.int .i64 0,.int .i64 0]):=Hi (by rw[←hW];exact SB.new2 w _ _ _ _)
  have HR0:Hid (Below W.heap.size W W):=Hi (Below.refl _ _)
  have hx:=HS0.out.below HR0.out HS0.out.lt
  have hy:=HS1.out.below HR0.out HS1.out.lt
  have x0:W.cell? ⟨w.heap.size,0,none⟩=some (.slice a1 js.length c1):=hx.cell 0
  have x1:W.cell? ⟨w.heap.size,1,none⟩=some (.slice a2 bs.length c2):=hx.cell 1
  have x2:W.cell? ⟨w.heap.size,2,none⟩=some (.slice a3 hs.length c3):=hx.cell 2
  have z0:W.cell? ⟨w.heap.size+1,0,none⟩=some (.int .i64 0):=hy.cell 0
  have z1:W.cell? ⟨w.heap.size+1,1,none⟩=some (.int .i64 0):=hy.cell 1
  have f0:=hy.free 0
  have f1:=hy.free 1
  clear hx hy
  rw[←hW] at x0 x1 x2 z0 z1 f0 f1
  have HW:=Hi hW
  clear hW
  go_wp2
  refine bodyPost_ret (v:=.agg #[.int .i64 2,.int .i64 0]) (results_cell_row rfl _ _ (w.heap.size+1) 57 #[.int .i64 2,.int .i64 0] (0,0) _ rfl (SB.new2 w _ _ _ _) Tryz.underlying57 rfl Tryz.faultInfo) rfl ?_
  exact⟨2,0,rfl,Or.inl ⟨HMY.out,rfl,rfl⟩,Below.new2 w _ _⟩
  skip
 by_cases h4:20<hs.length
 ·
  have HMY:Hid (Many js.length bs.length hs.length):=Hi (.inr (.inr (.inr h4)))
  have q1:¬((js.length:Int)<1):=by omega
  have q2:¬((10:Int)<(js.length:Int)):=by omega
  have q3:¬((24:Int)<(bs.length:Int)):=by omega
  have q4:((20:Int)<(hs.length:Int)):=by omega
  have HG:=Hi hg
  have HF:=Hi hf
  have HZ:=Hi hz
  clear hg hf hz
  go_enter Tryz.func30,Tryz.ntmps30
  obtain⟨W,hW⟩:∃W,(w.alloc (.cells #[.slice a1 js.length c1,.slice a2 bs.length c2,.slice a3 hs.length c3] 54)).alloc (.cells #[.int .i64 0,.int .i64 0] 57)=W:=⟨_,rfl⟩
  have HB0:Hid (Below w.heap.size w W):=Hi (by rw[←hW];exact Below.new2 w _ _)
  have HS0:Hid (SB W w.heap.size 54 #[.slice a1 js.length c1,.slice a2 bs.length c2,.slice a3 hs.length c3]):=Hi (by rw[←hW];exact(SB.new w _ _).alloc _)
  have HS1:Hid (SB W (w.heap.size+1) 57 #[.int .i64 0,.int .i64 0]):=Hi (by rw[←hW];exact SB.new2 w _ _ _ _)
  have HR0:Hid (Below W.heap.size W W):=Hi (Below.refl _ _)
  have hx:=HS0.out.below HR0.out HS0.out.lt
  have hy:=HS1.out.below HR0.out HS1.out.lt
  have x0:W.cell? ⟨w.heap.size,0,none⟩=some (.slice a1 js.length c1):=hx.cell 0
  have x1:W.cell? ⟨w.heap.size,1,none⟩=some (.slice a2 bs.length c2):=hx.cell 1
  have x2:W.cell? ⟨w.heap.size,2,none⟩=some (.slice a3 hs.length c3):=hx.cell 2
  have z0:W.cell? ⟨w.heap.size+1,0,none⟩=some (.int .i64 0):=hy.cell 0
  have z1:W.cell? ⟨w.heap.size+1,1,none⟩=some (.int .i64 0):=hy.cell 1
  have f0:=hy.free 0
  have f1:=hy.free 1
  clear hx hy
  rw[←hW] at x0 x1 x2 z0 z1 f0 f1
  have HW:=Hi hW
  clear hW
  go_wp2
  refine bodyPost_ret (v:=.agg #[.int .i64 2,.int .i64 0]) (results_cell_row rfl _ _ (w.heap.size+1) 57 #[.int .i64 2,.int .i64 0] (0,0) _ rfl (SB.new2 w _ _ _ _) Tryz.underlying57 rfl Tryz.faultInfo) rfl ?_
  exact⟨2,0,rfl,Or.inl ⟨HMY.out,rfl,rfl⟩,Below.new2 w _ _⟩
  skip
 have HNM:Hid (¬Many js.length bs.length hs.length):=Hi (by rintro(h|h|h|h)<;>omega)
 have q1:¬((js.length:Int)<1):=by omega
 have q2:¬((10:Int)<(js.length:Int)):=by omega
 have q3:¬((24:Int)<(bs.length:Int)):=by omega
 have q4:¬((20:Int)<(hs.length:Int)):=by omega
 have HG:=Hi hg
 have HF:=Hi hf
 have HZ:=Hi hz
 clear hg hf hz
 go_enter Tryz.func30,Tryz.ntmps30
 obtain⟨W,hW⟩:∃W,(w.alloc (.cells #[.slice a1 js.length c1,.slice a2 bs.length c2,.slice a3 hs.length c3] 54)).alloc (.cells #[.int .i64 0,.int .i64 0] 57)=W:=⟨_,rfl⟩
 have HB0:Hid (Below w.heap.size w W):=Hi (by rw[←hW];exact Below.new2 w _ _)
 have HS0:Hid (SB W w.heap.size 54 #[.slice a1 js.length c1,.slice a2 bs.length c2,.slice a3 hs.length c3]):=Hi (by rw[←hW];exact(SB.new w _ _).alloc _)
 have HS1:Hid (SB W (w.heap.size+1) 57 #[.int .i64 0,.int .i64 0]):=Hi (by rw[←hW];exact SB.new2 w _ _ _ _)
 have HR0:Hid (Below W.heap.size W W):=Hi (Below.refl _ _)
 have hx:=HS0.out.below HR0.out HS0.out.lt
 have hy:=HS1.out.below HR0.out HS1.out.lt
 have x0:W.cell? ⟨w.heap.size,0,none⟩=some (.slice a1 js.length c1):=hx.cell 0
 have x1:W.cell? ⟨w.heap.size,1,none⟩=some (.slice a2 bs.length c2):=hx.cell 1
 have x2:W.cell? ⟨w.heap.size,2,none⟩=some (.slice a3 hs.length c3):=hx.cell 2
 have z0:W.cell? ⟨w.heap.size+1,0,none⟩=some (.int .i64 0):=hy.cell 0
 have z1:W.cell? ⟨w.heap.size+1,1,none⟩=some (.int .i64 0):=hy.cell 1
 have f0:=hy.free 0
 have f1:=hy.free 1
 clear hx hy
 rw[←hW] at x0 x1 x2 z0 z1 f0 f1
 have HW:=Hi hW
 clear hW
 go_wp2_with fail
 rw[HW.out]
 clear x0 x1 x2 z0 z1 f0 f1
 go_loopw [32] (fun iv wr=>∃k:Nat,k≤bs.length∧iv=.int .i64 k∧(∀(i:Nat) (x:B6),i<k→bs[i]?=some x→BarCode js x 0)∧Below W.heap.size W wr) (fun iv _=>bs.length - (intOf iv).toNat)
 case atStart=>exact⟨0,by omega,rfl,fun i x hi=>by omega,Below.refl _ _⟩
 case round=>
  obtain⟨k,hk,rfl,hall,hb⟩:=hrel
  have HALL:=Hi hall
  have HB:=Hi hb
  have HBW:=Hi (HB0.out.trans (hb.mono HB0.out.size))
  clear hall hb
  by_cases hlt:k<bs.length
  ·
   obtain⟨f,hfk⟩:∃f,bs[k]?=some f:=⟨bs[k],List.getElem?_eq_getElem hlt⟩
   obtain⟨fb,off,rfl,hfb,d0,d1,d2,d3,d4,d5⟩:=(HF.out.b.below HBW.out).bar hfk
   have HFK:=Hi hfk
   have q5:((k:Int)<(bs.length:Int)):=by omega
   obtain⟨V,hV⟩:∃V,wr.alloc (.cells #[.int .i64 f.a,.int .i64 f.b,.string f.c,.string f.e,.string f.l,.string f.m] 69)=V:=⟨_,rfl⟩
   have HBV:Hid (Below W.heap.size W V):=Hi (by rw[←hV];exact HB.out.alloc HB.out.size _)
   have hx:=HS0.out.below HBV.out HS0.out.lt
   have x0:V.cell? ⟨w.heap.size,0,none⟩=some (.slice a1 js.length c1):=hx.cell 0
   rw[←hV] at x0
   have HV:=Hi hV
   clear hfk hV hx
   go_wp2_with fail
   rw[HV.out]
   clear x0 d0 d1 d2 d3 d4 d5
   go_fit (Qod a1 c1 js f V ((HG.out.below HB0.out).below HBV.out) ((HF.out.j.below HB0.out).below HBV.out) HZ.out.j (HZ.out.b f (List.mem_of_getElem? HFK.out)))
   rintro e w1 ⟨cd,rfl,hcd,hb1⟩
   have HCD:=Hi hcd
   have HB1:=Hi (HBV.out.trans (hb1.mono HBV.out.size))
   clear hcd hb1
   by_cases hc:cd=0
   ·
    subst hc
    go_wp2
    go_roundw
    case rel=>
     refine⟨k+1,by omega,by go_num,?_,HB1.out⟩
     intro i x hi hx
     rcases Nat.lt_or_ge i k with h|h
     · exact HALL.out i x h hx
     ·
      obtain rfl:i=k:=by omega
      obtain rfl:=Option.some.inj (HFK.out.symm.trans hx)
      exact HCD.out
    case measure=>simp[intOf];omega
   ·
    have e0:(cd != 0)=true:=by simpa using hc
    have HS4:=Hi (HS1.out.below HB1.out HS1.out.lt)
    have z0:w1.cell? ⟨w.heap.size+1,0,none⟩=some (.int .i64 0):=HS4.out.cell 0
    have z1:w1.cell? ⟨w.heap.size+1,1,none⟩=some (.int .i64 0):=HS4.out.cell 1
    have f0:=HS4.out.free 0
    have f1:=HS4.out.free 1
    go_wp2
    refine bodyPost_ret (v:=.agg #[.int .i64 cd,.int .i64 (k:Int)]) (results_cell_row rfl _ _ (w.heap.size+1) 57 #[.int .i64 cd,.int .i64 (k:Int)] (0,0) _ rfl ((HS4.out.set 0 _).set 1 _) Tryz.underlying57 rfl Tryz.faultInfo) rfl ?_
    exact⟨cd,_,rfl,Or.inr (Or.inl ⟨HNM.out,k,f,HFK.out,HALL.out,HCD.out,hc,rfl⟩),((HB0.out.trans (HB1.out.mono HB0.out.size)).setCell (Nat.le_succ _) _).setCell (Nat.le_succ _) _⟩
  ·
   have hk':k=bs.length:=by omega
   subst hk'
   have hx:=HS0.out.below HB.out HS0.out.lt
   have hy:=HS1.out.below HB.out HS1.out.lt
   have x0:wr.cell? ⟨w.heap.size,0,none⟩=some (.slice a1 js.length c1):=hx.cell 0
   have x1:wr.cell? ⟨w.heap.size,1,none⟩=some (.slice a2 bs.length c2):=hx.cell 1
   have x2:wr.cell? ⟨w.heap.size,2,none⟩=some (.slice a3 hs.length c3):=hx.cell 2
   have z0:wr.cell? ⟨w.heap.size+1,0,none⟩=some (.int .i64 0):=hy.cell 0
   have z1:wr.cell? ⟨w.heap.size+1,1,none⟩=some (.int .i64 0):=hy.cell 1
   have f0:=hy.free 0
   have f1:=hy.free 1
   clear hx hy
   go_wp2_with fail
   clear x0 x1 x2 z0 z1 f0 f1
   go_fit (Qoc a1 a2 a3 js.length c1 bs.length c2 c3 hs wr (HF.out.h.below HBW.out) (by omega) (by omega))
   rintro e w1 ⟨cd,at_,rfl,hcd,hb1⟩
   have HCD:=Hi hcd
   have HB1:=Hi (HB.out.trans (hb1.mono HB.out.size))
   clear hcd hb1
   have hx:=HS0.out.below HB1.out HS0.out.lt
   have hy:=HS1.out.below HB1.out HS1.out.lt
   have x0:w1.cell? ⟨w.heap.size,0,none⟩=some (.slice a1 js.length c1):=hx.cell 0
   have x1:w1.cell? ⟨w.heap.size,1,none⟩=some (.slice a2 bs.length c2):=hx.cell 1
   have x2:w1.cell? ⟨w.heap.size,2,none⟩=some (.slice a3 hs.length c3):=hx.cell 2
   have z0:w1.cell? ⟨w.heap.size+1,0,none⟩=some (.int .i64 0):=hy.cell 0
   have z1:w1.cell? ⟨w.heap.size+1,1,none⟩=some (.int .i64 0):=hy.cell 1
   have f0:=hy.free 0
   have f1:=hy.free 1
   clear hx hy
   have HS4:=Hi (HS1.out.below HB1.out HS1.out.lt)
   go_wp2
   refine bodyPost_ret (v:=.agg #[.int .i64 cd,.int .i64 at_]) (results_cell_row rfl _ _ (w.heap.size+1) 57 #[.int .i64 cd,.int .i64 at_] (0,0) _ rfl ((HS4.out.set 0 _).set 1 _) Tryz.underlying57 rfl Tryz.faultInfo) rfl ?_
   exact⟨cd,at_,rfl,Or.inr (Or.inr ⟨HNM.out,fun i x hx=>HALL.out i x (List.getElem?_eq_some_iff.1 hx).1 hx,HCD.out⟩),((HB0.out.trans (HB1.out.mono HB0.out.size)).setCell (Nat.le_succ _) _).setCell (Nat.le_succ _) _⟩
theorem results_two_cell{P:Program}{fn:Func}{p u:Tmp}{ty:TypeId}(h:fn.results=#[.tmp u,.cell p ty])(tmps:Array Value)(w:World)(g:Nat)(t:TypeId)(cs:Array Value)(fr:Nat × Nat)(d:TypeDesc)
 (hp:tmps.getD p undef=.pointer (some ⟨g,0,none⟩)) (hg:w.heap[g]?=some (.cells cs t fr))
 (hu:P.underlying ty=some d) (hd:(match d with| .struct _| .array _ _=>true|_=>false)=true) (hi:(P.info? ty).map (·.size)=some cs.size):
 (results fn tmps).run P w=.ok (.tuple #[tmps.getD u undef,.agg cs]) w:=by
 have hp':tmps[p]?.getD undef=.pointer (some ⟨g,0,none⟩):=by simpa using hp
 simp[results,h,hp',asAddr,run_loadVar_row w g t ty cs fr d hg hu hd hi]
set_option maxRecDepth 100000 in
set_option maxHeartbeats 4000000 in
theorem Qoe(a1 a2 a3:Option Addr)(c1 c2 c3:Nat)(js:List S2)(bs:List B6)(hs:List H3)(w:World)(hg:Glob w)(hf:FrRow w a1 a2 a3 c1 c2 c3 js bs hs)(hz:FrSized js bs hs):
 Calls Tryz.prog 28 #[.agg #[.slice a1 js.length c1,.slice a2 bs.length c2,.slice a3 hs.length c3]] w fun e w'=>∃c at_ k,e=.returned (.tuple #[.int .i64 k,.agg #[.int .i64 c,.int .i64 at_]])∧FrameFault js bs hs c at_∧(c≠0→k=0)∧(c=0→k=(bs.length:Int)+(hs.length:Int) - 2*(js.length:Int))∧Below w.heap.size w w':=by
 have HG:=Hi hg
 have HF:=Hi hf
 have HZ:=Hi hz
 clear hg hf hz
 go_enter Tryz.func28,Tryz.ntmps28
 obtain⟨W,hW⟩:∃W,(w.alloc (.cells #[.slice a1 js.length c1,.slice a2 bs.length c2,.slice a3 hs.length c3] 54)).alloc (.cells #[.int .i64 0,.int .i64 0] 57)=W:=⟨_,rfl⟩
 have HB0:Hid (Below w.heap.size w W):=Hi (by rw[←hW];exact Below.new2 w _ _)
 have HS0:Hid (SB W w.heap.size 54 #[.slice a1 js.length c1,.slice a2 bs.length c2,.slice a3 hs.length c3]):=Hi (by rw[←hW];exact(SB.new w _ _).alloc _)
 have HS1:Hid (SB W (w.heap.size+1) 57 #[.int .i64 0,.int .i64 0]):=Hi (by rw[←hW];exact SB.new2 w _ _ _ _)
 have HW:=Hi hW
 clear hW
 go_wp2_with fail
 rw[HW.out]
 go_fit (Qec a1 a2 a3 c1 c2 c3 js bs hs W (HG.out.below HB0.out) (HF.out.below HB0.out) HZ.out)
 rintro e w1 ⟨c,at_,rfl,hff,hb1⟩
 have HFF:=Hi hff
 obtain⟨V,hV⟩:∃V,w1.alloc (.cells #[.int .i64 c,.int .i64 at_] 57)=V:=⟨_,rfl⟩
 have HBV:Hid (Below W.heap.size W V):=Hi (by rw[←hV];exact hb1.alloc hb1.size _)
 have hsv:SB V w1.heap.size 57 #[.int .i64 c,.int .i64 at_]:=by rw[←hV];exact SB.new w1 _ _
 have hs1:=HS1.out.below HBV.out HS1.out.lt
 have hs0:=HS0.out.below HBV.out HS0.out.lt
 have k0:V.cell? ⟨w1.heap.size,0,none⟩=some (.int .i64 c):=hsv.cell 0
 have k1:V.cell? ⟨w1.heap.size,1,none⟩=some (.int .i64 at_):=hsv.cell 1
 have x0:V.cell? ⟨w.heap.size,0,none⟩=some (.slice a1 js.length c1):=hs0.cell 0
 have x1:V.cell? ⟨w.heap.size,1,none⟩=some (.slice a2 bs.length c2):=hs0.cell 1
 have x2:V.cell? ⟨w.heap.size,2,none⟩=some (.slice a3 hs.length c3):=hs0.cell 2
 have z0:V.cell? ⟨w.heap.size+1,0,none⟩=some (.int .i64 0):=hs1.cell 0
 have z1:V.cell? ⟨w.heap.size+1,1,none⟩=some (.int .i64 0):=hs1.cell 1
 have f0:=hs1.free 0
 have f1:=hs1.free 1
 rw[←hV] at k0 k1 x0 x1 x2 z0 z1 f0 f1
 have HS4:=Hi hs1
 have HV:=Hi hV
 have hne:w.heap.size+1≠w1.heap.size:=by have:=HS1.out.lt;have:=hb1.size;omega
 clear hff hV hsv hs1 hs0 hb1
 by_cases hc:c=0
 ·
  subst hc
  have hnm:¬Many js.length bs.length hs.length:=by
   rcases HFF.out with ⟨_,h,_⟩|⟨h,_⟩|⟨h,_⟩
   · exact absurd h (by decide)
   · exact h
   · exact h
  have n1:js.length≤10:=Nat.le_of_not_lt fun h=>hnm (.inr (.inl h))
  have n2:bs.length≤24:=Nat.le_of_not_lt fun h=>hnm (.inr (.inr (.inl h)))
  have n3:hs.length≤20:=Nat.le_of_not_lt fun h=>hnm (.inr (.inr (.inr h)))
  clear hnm
  go_wp2
  rw[HV.out]
  have HA:Hid (at_=0):=Hi (by
   rcases HFF.out with ⟨_,h,_⟩|⟨_,k,b,_,_,_,h,_⟩|⟨_,_,h⟩
   · exact absurd h (by decide)
   · exact absurd rfl h
   ·
    rcases h with ⟨_,_,_,_,_,h,_⟩|⟨_,_,h⟩
    · exact absurd rfl h
    · exact h)
  refine bodyPost_ret (results_two_cell rfl _ _ (w.heap.size+1) 57 #[.int .i64 0,.int .i64 0] (0,0) _ rfl ((HS4.out.set 0 _).set 1 _) Tryz.underlying57 rfl Tryz.faultInfo) rfl ?_
  exact⟨0,0,_,rfl,HA.out ▸ HFF.out,fun h=>absurd rfl h,fun _=>rfl,((HB0.out.trans (HBV.out.mono HB0.out.size)).setCell (Nat.le_succ _) _).setCell (Nat.le_succ _) _⟩
 ·
  have e0:(c != 0)=true:=by simpa using hc
  go_wp2
  go_region
  all_goals
   go_wp2
   rw[HV.out]
   refine bodyPost_ret (results_two_cell rfl _ _ (w.heap.size+1) 57 #[.int .i64 c,.int .i64 at_] (0,0) _ rfl ((HS4.out.set 0 _).set 1 _) Tryz.underlying57 rfl Tryz.faultInfo) rfl ?_
   exact⟨c,at_,0,rfl,HFF.out,fun _=>rfl,fun h=>absurd h hc,(((HB0.out.trans (HBV.out.mono HB0.out.size)).setCell (p:=⟨w.heap.size+1,0,none⟩) (Nat.le_succ _) _).setCell (p:=⟨w.heap.size+1,1,none⟩) (Nat.le_succ _) _).drew⟩
end Go.Proofs.YtjhdfkcdigmfhaaGreatDoor
