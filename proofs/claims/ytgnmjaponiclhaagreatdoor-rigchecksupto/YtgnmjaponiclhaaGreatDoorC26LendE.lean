import Derived.Test.YtgnmjaponiclhaaGreatDoorC25Elems
namespace Go.Proofs.YtgnmjaponiclhaaGreatDoor
open Go.RowKit
set_option linter.unusedVariables false
set_option linter.unusedSimpArgs false
theorem Qg3:(Tryz.prog.info? 25).map (fun i=>(i.zero,i.size,i.bytes))=some (some (.agg #[.string ⟨#[]⟩,.string ⟨#[]⟩]),2,32):=by kernel_rfl
theorem Qmf(n:Nat)(hn:n≤1048576):∃MC:Array Value,MC.size=(n+3)*2∧∀w,(Instr.makeSlice 50 (.int .i64 0) (.int .i64 (IntKind.i64.wrap ((n:Int)+3)))).run Tryz.prog w=.ok (.slice (some ⟨w.heap.size,0,none⟩) 0 (n+3)) (w.alloc (.cells MC 25)):=by
 obtain⟨i,hi,h⟩:=Option.map_eq_some_iff.1 Qg3
 simp only[Prod.mk.injEq] at h
 obtain⟨hz,hs,hb⟩:=h
 refine⟨madeCells (Value.cells (.agg #[.string ⟨#[]⟩,.string ⟨#[]⟩])) ((n+3)*2),size_madeCells _ _,fun w=>?_⟩
 have:=run_make w 50 25 i _ Tryz.underlying50 hi hz .i64 .i64 0 ((n:Int)+3) (by omega) (by omega) (by rw[hb];omega) (by omega)
 have e:((n:Int)+3).toNat=n+3:=by omega
 rw[e,hs] at this
 rw[show IntKind.i64.wrap ((n:Int)+3)=(n:Int)+3 by rw[IntKind.wrap_i64];omega]
 exact this
set_option maxRecDepth 100000 in
set_option maxHeartbeats 4000000 in
theorem Qmg(a:Option Addr)(cap:Nat)(es:List S2)(m0:ByteArray)(m1:ByteArray)(w:World)(hf:ARow S2.cells w a cap es)(hn:es.length≤1048576):
 Calls Tryz.prog 92 #[.slice a es.length cap,.agg #[.string m0,.string m1]] w fun e w'=>∃g,w.heap.size≤g∧e=.returned (.slice (some ⟨g,0,none⟩) es.length (es.length+3))∧ARow S2.cells w' (some ⟨g,0,none⟩) (es.length+3) (es++ [⟨m0,m1⟩,⟨m0,m1⟩,⟨m0,m1⟩])∧Below w.heap.size w w':=by
 have HC:=Hi hf.row
 obtain⟨MC,hMC,hmk⟩:=Qmf es.length hn
 have HMC:=Hi hMC
 obtain⟨i,hi,h⟩:=Option.map_eq_some_iff.1 Qg3
 simp only[Prod.mk.injEq] at h
 obtain⟨hz,hs,hb⟩:=h
 have HI:=Hi hi
 have HS:=Hi hs
 have HXL:=Hi (Qa8 (c:=S2.cells) (sz:=2) (fun _=>rfl) es)
 have HX1:=Hi (Qeg S2.one es)
 obtain⟨xs,hxs⟩:∃xs,es.flatMap S2.cells=xs:=⟨_,rfl⟩
 rw[hxs] at HC HXL HX1
 have HXS:=Hi hxs
 clear hz hb hi hs hMC hf hxs
 go_enter Tryz.func92,Tryz.ntmps92
 go_wp2_with fail
 obtain⟨W,hW⟩:∃W,w.alloc (.cells #[.string m0,.string m1] 25)=W:=⟨_,rfl⟩
 have HB0:Hid (Below w.heap.size w W):=Hi (by rw[←hW];exact(Below.refl _ _).alloc (Nat.le_refl _) _)
 have hsb:SB W w.heap.size 25 #[.string m0,.string m1]:=by rw[←hW];exact SB.new w _ _
 rw[hW]
 have hlt:=hsb.lt
 have c0:W.cell? ⟨w.heap.size,0,none⟩=some (.string m0):=hsb.cell 0
 have c1:W.cell? ⟨w.heap.size,1,none⟩=some (.string m1):=hsb.cell 1
 clear hsb hW
 obtain⟨MK,hMK⟩:∃MK:List Value,MK= [.string m0,.string m1,.string m0,.string m1,.string m0,.string m1]:=⟨_,rfl⟩
 have HMK:=Hi hMK
 have hBC:∀(X:World) (j:Nat) (u:Value),MK[j]?=some u→(X.alloc (.cells #[.string m0,.string m1,.string m0,.string m1,.string m0,.string m1] 25)).cell? ⟨X.heap.size,j,none⟩=some u:=by
  intro X j u hj
  rw[(SB.new X 25 #[.string m0,.string m1,.string m0,.string m1,.string m0,.string m1]).cell j]
  rw[hMK] at hj
  simpa using hj
 have HBC:=Hi hBC
 have HML:Hid (MK.length=3*2):=Hi (by rw[hMK];rfl)
 have HM1:Hid (∀u∈ MK,u.oneCell'=true):=Hi (by rw[hMK];simp[Value.oneCell'])
 have HCW:=Hi (HC.out.below HB0.out)
 have hown:∀X:World,W.heap.size≤X.heap.size→(X.alloc (.cells MC 25)).ownsRow W.heap.size 25 2 (.slice (some ⟨X.heap.size,0,none⟩) 0 (es.length+3)) 0 []:=fun X hX=>World.ownsRow_made X MC (es.length+3) hX (by unfold maxLen;omega) HMC.out
 have HOW:=Hi hown
 have HA:Hid (Below W.heap.size W (W.alloc (.cells MC 25)).drew):=Hi ((Below.refl _ _).alloc (Nat.le_refl _) _).drew
 have HAX:Hid (Below W.heap.size W ((W.alloc (.cells #[.string m0,.string m1,.string m0,.string m1,.string m0,.string m1] 25)).alloc (.cells MC 25)).drew):=Hi ((((Below.refl _ _).alloc (Nat.le_refl _) _).alloc (by simp) _).drew)
 have HOX:Hid (((W.alloc (.cells #[.string m0,.string m1,.string m0,.string m1,.string m0,.string m1] 25)).alloc (.cells MC 25)).drew.ownsRow W.heap.size 25 2 (.slice (some ⟨W.heap.size+1,0,none⟩) 0 (es.length+3)) 0 []):=Hi (by
  have:=hown (W.alloc (.cells #[.string m0,.string m1,.string m0,.string m1,.string m0,.string m1] 25)) (by simp)
  simp only[World.size_alloc] at this
  exact this)
 have HCX:=Hi (HCW.out.below HAX.out)
 have HBX:Hid (∀(j:Nat) (u:Value),MK[j]?=some u→((W.alloc (.cells #[.string m0,.string m1,.string m0,.string m1,.string m0,.string m1] 25)).alloc (.cells MC 25)).drew.cell? ⟨W.heap.size,j,none⟩=some u):=Hi (fun j u hj=>by
  have h1:=hBC W j u hj
  have h2:Below (W.alloc (.cells #[.string m0,.string m1,.string m0,.string m1,.string m0,.string m1] 25)).heap.size _ _:=(Below.refl _ (W.alloc (.cells #[.string m0,.string m1,.string m0,.string m1,.string m0,.string m1] 25))).alloc (Nat.le_refl _) (.cells MC 25)
  exact(h2.drew.cell (p:=⟨W.heap.size,j,none⟩) (by simp)).trans h1)
 clear hMK hBC hown
 go_region_held3 (fun w'=>w'.cell? ⟨w.heap.size,0,none⟩=some (.string m0)∧w'.cell? ⟨w.heap.size,1,none⟩=some (.string m1)) ((first|(simp [*];done)|go_keep)) (first
  |(
   refine Qa0 Tryz.underlying50 HI.out HS.out (by decide) rfl (.tmp 9) (.tmp 10) rfl W.heap.size (xs:=xs) rfl rfl (HOW.out W (Nat.le_refl _)) (HCW.out.below HA.out) HXL.out HX1.out (by omega) ?_
   intro w1 hown1 hgr1
   have HO1:=Hi hown1
   have hs1:W.heap.size<w1.heap.size:=by have:=hgr1.size;simp at this;omega
   have c0:w1.cell? ⟨w.heap.size,0,none⟩=some (.string m0):=(Qaa hgr1 (p:=⟨w.heap.size,0,none⟩) (by simp;omega) (by simp;omega)).trans (by simp[*])
   have c1:w1.cell? ⟨w.heap.size,1,none⟩=some (.string m1):=(Qaa hgr1 (p:=⟨w.heap.size,1,none⟩) (by simp;omega) (by simp;omega)).trans (by simp[*])
   have HB1:Hid (Below W.heap.size W w1):=Hi (Below.ofGrown HA.out hgr1 HA.out.size (Nat.le_refl _))
   clear hown1 hgr1)
  |(
   refine Qby Tryz.underlying50 HI.out HS.out rfl (.tmp 11) (.tmp 15) rfl W.heap.size (xs:=xs) (news:=MK) (n:=es.length) (m:=3) rfl rfl (HO1.out.alloc _) HML.out (HBC.out w1) HM1.out (Nat.le_refl _) ?_
   intro w2 hown2 hgr2
   have HO2:=Hi hown2
   have hs2:w1.heap.size<w2.heap.size:=by have:=hgr2.size;simp at this;omega
   have c0:w2.cell? ⟨w.heap.size,0,none⟩=some (.string m0):=(Qaa hgr2 (p:=⟨w.heap.size,0,none⟩) (by simp;omega) (by simp;omega)).trans (by simp[*])
   have c1:w2.cell? ⟨w.heap.size,1,none⟩=some (.string m1):=(Qaa hgr2 (p:=⟨w.heap.size,1,none⟩) (by simp;omega) (by simp;omega)).trans (by simp[*])
   have HB2:Hid (Below w.heap.size w w2):=Hi (HB0.out.trans ((Below.ofGrown (HB1.out.alloc HB1.out.size _) hgr2 (by have:=HB1.out.size;simp;omega) (Nat.le_refl _)).mono HB0.out.size))
   clear hown2 hgr2)
  |(
   refine Qa0 Tryz.underlying50 HI.out HS.out (by decide) rfl (.tmp 9) (.tmp 10) rfl W.heap.size (xs:=xs) rfl rfl ((HOW.out W (Nat.le_refl _)).alloc (.cells #[.string m0,.string m1,.string m0,.string m1,.string m0,.string m1] 25)) (HCW.out.below (HA.out.alloc HA.out.size _)) HXL.out HX1.out (by omega) ?_
   intro w1 hown1 hgr1
   have HO1:=Hi hown1
   have hs1:W.heap.size<w1.heap.size:=by have:=hgr1.size;simp at this;omega
   have c0:w1.cell? ⟨w.heap.size,0,none⟩=some (.string m0):=(Qaa hgr1 (p:=⟨w.heap.size,0,none⟩) (by simp;omega) (by simp;omega)).trans (by simp[*])
   have c1:w1.cell? ⟨w.heap.size,1,none⟩=some (.string m1):=(Qaa hgr1 (p:=⟨w.heap.size,1,none⟩) (by simp;omega) (by simp;omega)).trans (by simp[*])
   have HB1:Hid (Below W.heap.size W w1):=Hi (Below.ofGrown (HA.out.alloc HA.out.size _) hgr1 (by simp<;>omega) (Nat.le_refl _))
   have HBB:Hid (∀(j:Nat) (u:Value),MK[j]?=some u→w1.cell? ⟨W.heap.size+1,j,none⟩=some u):=Hi (fun j u hj=>(Qaa hgr1 (p:=⟨W.heap.size+1,j,none⟩) (by simp<;>omega) (by simp<;>omega)).trans (by simpa using HBC.out (W.alloc (.cells MC 25)) j u hj))
   clear hown1 hgr1)
  |(
   refine Qa0 Tryz.underlying50 HI.out HS.out (by decide) rfl (.tmp 9) (.tmp 10) rfl W.heap.size (xs:=xs) (g:=W.heap.size+1) rfl rfl (HOX.out) (HCX.out) HXL.out HX1.out (by omega) ?_
   intro w1 hown1 hgr1
   have HO1:=Hi hown1
   have hs1:W.heap.size<w1.heap.size:=by have:=hgr1.size;simp at this;omega
   have c0:w1.cell? ⟨w.heap.size,0,none⟩=some (.string m0):=(Qaa hgr1 (p:=⟨w.heap.size,0,none⟩) (by simp;omega) (by simp;omega)).trans (by simp[*])
   have c1:w1.cell? ⟨w.heap.size,1,none⟩=some (.string m1):=(Qaa hgr1 (p:=⟨w.heap.size,1,none⟩) (by simp;omega) (by simp;omega)).trans (by simp[*])
   have HB1:Hid (Below W.heap.size W w1):=Hi (Below.ofGrown HAX.out hgr1 (by simp<;>omega) (by omega))
   have HBB:Hid (∀(j:Nat) (u:Value),MK[j]?=some u→w1.cell? ⟨W.heap.size,j,none⟩=some u):=Hi (fun j u hj=>(Qaa hgr1 (p:=⟨W.heap.size,j,none⟩) (by simp<;>omega) (by simp<;>omega)).trans (HBX.out j u hj))
   clear hown1 hgr1)
  |(
   refine Qby Tryz.underlying50 HI.out HS.out rfl (.tmp 11) (.tmp 15) rfl W.heap.size (xs:=xs) (news:=MK) (n:=es.length) (m:=3) rfl rfl HO1.out HML.out HBB.out HM1.out (Nat.le_refl _) ?_
   intro w2 hown2 hgr2
   have HO2:=Hi hown2
   have hs2:w1.heap.size≤w2.heap.size:=hgr2.size
   have c0:w2.cell? ⟨w.heap.size,0,none⟩=some (.string m0):=(Qaa hgr2 (p:=⟨w.heap.size,0,none⟩) (by simp;omega) (by simp;omega)).trans (by simp[*])
   have c1:w2.cell? ⟨w.heap.size,1,none⟩=some (.string m1):=(Qaa hgr2 (p:=⟨w.heap.size,1,none⟩) (by simp;omega) (by simp;omega)).trans (by simp[*])
   have HB2:Hid (Below w.heap.size w w2):=Hi (HB0.out.trans ((Below.ofGrown HB1.out hgr2 HB1.out.size (by omega)).mono HB0.out.size))
   clear hown2 hgr2)
  )
 all_goals
  go_wp2
  go_ret
  exact⟨_,by omega,rfl,⟨by simp,by rw[List.flatMap_append,HXS.out,show ([⟨m0,m1⟩,⟨m0,m1⟩,⟨m0,m1⟩]:List S2).flatMap S2.cells=MK from HMK.out.symm];exact Qeo HO2.out⟩,HB2.out⟩
theorem Qg4:(Tryz.prog.info? 69).map (fun i=>(i.zero,i.size,i.bytes))=some (some (.agg #[.int .i64 0,.int .i64 0,.string ⟨#[]⟩,.string ⟨#[]⟩,.string ⟨#[]⟩,.string ⟨#[]⟩]),6,80):=by kernel_rfl
theorem Qmh(n:Nat)(hn:n≤1048576):∃MC:Array Value,MC.size=(n+3)*6∧∀w,(Instr.makeSlice 51 (.int .i64 0) (.int .i64 (IntKind.i64.wrap ((n:Int)+3)))).run Tryz.prog w=.ok (.slice (some ⟨w.heap.size,0,none⟩) 0 (n+3)) (w.alloc (.cells MC 69)):=by
 obtain⟨i,hi,h⟩:=Option.map_eq_some_iff.1 Qg4
 simp only[Prod.mk.injEq] at h
 obtain⟨hz,hs,hb⟩:=h
 refine⟨madeCells (Value.cells (.agg #[.int .i64 0,.int .i64 0,.string ⟨#[]⟩,.string ⟨#[]⟩,.string ⟨#[]⟩,.string ⟨#[]⟩])) ((n+3)*6),size_madeCells _ _,fun w=>?_⟩
 have:=run_make w 51 69 i _ Tryz.underlying51 hi hz .i64 .i64 0 ((n:Int)+3) (by omega) (by omega) (by rw[hb];omega) (by omega)
 have e:((n:Int)+3).toNat=n+3:=by omega
 rw[e,hs] at this
 rw[show IntKind.i64.wrap ((n:Int)+3)=(n:Int)+3 by rw[IntKind.wrap_i64];omega]
 exact this
set_option maxRecDepth 100000 in
set_option maxHeartbeats 4000000 in
theorem Qmi(a:Option Addr)(cap:Nat)(es:List B6)(m0:Int)(m1:Int)(m2:ByteArray)(m3:ByteArray)(m4:ByteArray)(m5:ByteArray)(w:World)(hf:ARow B6.cells w a cap es)(hn:es.length≤1048576):
 Calls Tryz.prog 93 #[.slice a es.length cap,.agg #[.int .i64 m0,.int .i64 m1,.string m2,.string m3,.string m4,.string m5]] w fun e w'=>∃g,w.heap.size≤g∧e=.returned (.slice (some ⟨g,0,none⟩) es.length (es.length+3))∧ARow B6.cells w' (some ⟨g,0,none⟩) (es.length+3) (es++ [⟨m0,m1,m2,m3,m4,m5⟩,⟨m0,m1,m2,m3,m4,m5⟩,⟨m0,m1,m2,m3,m4,m5⟩])∧Below w.heap.size w w':=by
 have HC:=Hi hf.row
 obtain⟨MC,hMC,hmk⟩:=Qmh es.length hn
 have HMC:=Hi hMC
 obtain⟨i,hi,h⟩:=Option.map_eq_some_iff.1 Qg4
 simp only[Prod.mk.injEq] at h
 obtain⟨hz,hs,hb⟩:=h
 have HI:=Hi hi
 have HS:=Hi hs
 have HXL:=Hi (Qa8 (c:=B6.cells) (sz:=6) (fun _=>rfl) es)
 have HX1:=Hi (Qeg B6.one es)
 obtain⟨xs,hxs⟩:∃xs,es.flatMap B6.cells=xs:=⟨_,rfl⟩
 rw[hxs] at HC HXL HX1
 have HXS:=Hi hxs
 clear hz hb hi hs hMC hf hxs
 go_enter Tryz.func93,Tryz.ntmps93
 go_wp2_with fail
 obtain⟨W,hW⟩:∃W,w.alloc (.cells #[.int .i64 m0,.int .i64 m1,.string m2,.string m3,.string m4,.string m5] 69)=W:=⟨_,rfl⟩
 have HB0:Hid (Below w.heap.size w W):=Hi (by rw[←hW];exact(Below.refl _ _).alloc (Nat.le_refl _) _)
 have hsb:SB W w.heap.size 69 #[.int .i64 m0,.int .i64 m1,.string m2,.string m3,.string m4,.string m5]:=by rw[←hW];exact SB.new w _ _
 rw[hW]
 have hlt:=hsb.lt
 have c0:W.cell? ⟨w.heap.size,0,none⟩=some (.int .i64 m0):=hsb.cell 0
 have c1:W.cell? ⟨w.heap.size,1,none⟩=some (.int .i64 m1):=hsb.cell 1
 have c2:W.cell? ⟨w.heap.size,2,none⟩=some (.string m2):=hsb.cell 2
 have c3:W.cell? ⟨w.heap.size,3,none⟩=some (.string m3):=hsb.cell 3
 have c4:W.cell? ⟨w.heap.size,4,none⟩=some (.string m4):=hsb.cell 4
 have c5:W.cell? ⟨w.heap.size,5,none⟩=some (.string m5):=hsb.cell 5
 clear hsb hW
 obtain⟨MK,hMK⟩:∃MK:List Value,MK= [.int .i64 m0,.int .i64 m1,.string m2,.string m3,.string m4,.string m5,.int .i64 m0,.int .i64 m1,.string m2,.string m3,.string m4,.string m5,.int .i64 m0,.int .i64 m1,.string m2,.string m3,.string m4,.string m5]:=⟨_,rfl⟩
 have HMK:=Hi hMK
 have hBC:∀(X:World) (j:Nat) (u:Value),MK[j]?=some u→(X.alloc (.cells #[.int .i64 m0,.int .i64 m1,.string m2,.string m3,.string m4,.string m5,.int .i64 m0,.int .i64 m1,.string m2,.string m3,.string m4,.string m5,.int .i64 m0,.int .i64 m1,.string m2,.string m3,.string m4,.string m5] 69)).cell? ⟨X.heap.size,j,none⟩=some u:=by
  intro X j u hj
  rw[(SB.new X 69 #[.int .i64 m0,.int .i64 m1,.string m2,.string m3,.string m4,.string m5,.int .i64 m0,.int .i64 m1,.string m2,.string m3,.string m4,.string m5,.int .i64 m0,.int .i64 m1,.string m2,.string m3,.string m4,.string m5]).cell j]
  rw[hMK] at hj
  simpa using hj
 have HBC:=Hi hBC
 have HML:Hid (MK.length=3*6):=Hi (by rw[hMK];rfl)
 have HM1:Hid (∀u∈ MK,u.oneCell'=true):=Hi (by rw[hMK];simp[Value.oneCell'])
 have HCW:=Hi (HC.out.below HB0.out)
 have hown:∀X:World,W.heap.size≤X.heap.size→(X.alloc (.cells MC 69)).ownsRow W.heap.size 69 6 (.slice (some ⟨X.heap.size,0,none⟩) 0 (es.length+3)) 0 []:=fun X hX=>World.ownsRow_made X MC (es.length+3) hX (by unfold maxLen;omega) HMC.out
 have HOW:=Hi hown
 have HA:Hid (Below W.heap.size W (W.alloc (.cells MC 69)).drew):=Hi ((Below.refl _ _).alloc (Nat.le_refl _) _).drew
 have HAX:Hid (Below W.heap.size W ((W.alloc (.cells #[.int .i64 m0,.int .i64 m1,.string m2,.string m3,.string m4,.string m5,.int .i64 m0,.int .i64 m1,.string m2,.string m3,.string m4,.string m5,.int .i64 m0,.int .i64 m1,.string m2,.string m3,.string m4,.string m5] 69)).alloc (.cells MC 69)).drew):=Hi ((((Below.refl _ _).alloc (Nat.le_refl _) _).alloc (by simp) _).drew)
 have HOX:Hid (((W.alloc (.cells #[.int .i64 m0,.int .i64 m1,.string m2,.string m3,.string m4,.string m5,.int .i64 m0,.int .i64 m1,.string m2,.string m3,.string m4,.string m5,.int .i64 m0,.int .i64 m1,.string m2,.string m3,.string m4,.string m5] 69)).alloc (.cells MC 69)).drew.ownsRow W.heap.size 69 6 (.slice (some ⟨W.heap.size+1,0,none⟩) 0 (es.length+3)) 0 []):=Hi (by
  have:=hown (W.alloc (.cells #[.int .i64 m0,.int .i64 m1,.string m2,.string m3,.string m4,.string m5,.int .i64 m0,.int .i64 m1,.string m2,.string m3,.string m4,.string m5,.int .i64 m0,.int .i64 m1,.string m2,.string m3,.string m4,.string m5] 69)) (by simp)
  simp only[World.size_alloc] at this
  exact this)
 have HCX:=Hi (HCW.out.below HAX.out)
 have HBX:Hid (∀(j:Nat) (u:Value),MK[j]?=some u→((W.alloc (.cells #[.int .i64 m0,.int .i64 m1,.string m2,.string m3,.string m4,.string m5,.int .i64 m0,.int .i64 m1,.string m2,.string m3,.string m4,.string m5,.int .i64 m0,.int .i64 m1,.string m2,.string m3,.string m4,.string m5] 69)).alloc (.cells MC 69)).drew.cell? ⟨W.heap.size,j,none⟩=some u):=Hi (fun j u hj=>by
  have h1:=hBC W j u hj
  have h2:Below (W.alloc (.cells #[.int .i64 m0,.int .i64 m1,.string m2,.string m3,.string m4,.string m5,.int .i64 m0,.int .i64 m1,.string m2,.string m3,.string m4,.string m5,.int .i64 m0,.int .i64 m1,.string m2,.string m3,.string m4,.string m5] 69)).heap.size _ _:=(Below.refl _ (W.alloc (.cells #[.int .i64 m0,.int .i64 m1,.string m2,.string m3,.string m4,.string m5,.int .i64 m0,.int .i64 m1,.string m2,.string m3,.string m4,.string m5,.int .i64 m0,.int .i64 m1,.string m2,.string m3,.string m4,.string m5] 69))).alloc (Nat.le_refl _) (.cells MC 69)
  exact(h2.drew.cell (p:=⟨W.heap.size,j,none⟩) (by simp)).trans h1)
 clear hMK hBC hown
 go_region_held3 (fun w'=>w'.cell? ⟨w.heap.size,0,none⟩=some (.int .i64 m0)∧w'.cell? ⟨w.heap.size,1,none⟩=some (.int .i64 m1)∧w'.cell? ⟨w.heap.size,2,none⟩=some (.string m2)∧w'.cell? ⟨w.heap.size,3,none⟩=some (.string m3)∧w'.cell? ⟨w.heap.size,4,none⟩=some (.string m4)∧w'.cell? ⟨w.heap.size,5,none⟩=some (.string m5)) ((first|(simp [*];done)|go_keep)) (first
  |(
   refine Qa0 Tryz.underlying51 HI.out HS.out (by decide) rfl (.tmp 9) (.tmp 10) rfl W.heap.size (xs:=xs) rfl rfl (HOW.out W (Nat.le_refl _)) (HCW.out.below HA.out) HXL.out HX1.out (by omega) ?_
   intro w1 hown1 hgr1
   have HO1:=Hi hown1
   have hs1:W.heap.size<w1.heap.size:=by have:=hgr1.size;simp at this;omega
   have c0:w1.cell? ⟨w.heap.size,0,none⟩=some (.int .i64 m0):=(Qaa hgr1 (p:=⟨w.heap.size,0,none⟩) (by simp;omega) (by simp;omega)).trans (by simp[*])
   have c1:w1.cell? ⟨w.heap.size,1,none⟩=some (.int .i64 m1):=(Qaa hgr1 (p:=⟨w.heap.size,1,none⟩) (by simp;omega) (by simp;omega)).trans (by simp[*])
   have c2:w1.cell? ⟨w.heap.size,2,none⟩=some (.string m2):=(Qaa hgr1 (p:=⟨w.heap.size,2,none⟩) (by simp;omega) (by simp;omega)).trans (by simp[*])
   have c3:w1.cell? ⟨w.heap.size,3,none⟩=some (.string m3):=(Qaa hgr1 (p:=⟨w.heap.size,3,none⟩) (by simp;omega) (by simp;omega)).trans (by simp[*])
   have c4:w1.cell? ⟨w.heap.size,4,none⟩=some (.string m4):=(Qaa hgr1 (p:=⟨w.heap.size,4,none⟩) (by simp;omega) (by simp;omega)).trans (by simp[*])
   have c5:w1.cell? ⟨w.heap.size,5,none⟩=some (.string m5):=(Qaa hgr1 (p:=⟨w.heap.size,5,none⟩) (by simp;omega) (by simp;omega)).trans (by simp[*])
   have HB1:Hid (Below W.heap.size W w1):=Hi (Below.ofGrown HA.out hgr1 HA.out.size (Nat.le_refl _))
   clear hown1 hgr1)
  |(
   refine Qby Tryz.underlying51 HI.out HS.out rfl (.tmp 11) (.tmp 15) rfl W.heap.size (xs:=xs) (news:=MK) (n:=es.length) (m:=3) rfl rfl (HO1.out.alloc _) HML.out (HBC.out w1) HM1.out (Nat.le_refl _) ?_
   intro w2 hown2 hgr2
   have HO2:=Hi hown2
   have hs2:w1.heap.size<w2.heap.size:=by have:=hgr2.size;simp at this;omega
   have c0:w2.cell? ⟨w.heap.size,0,none⟩=some (.int .i64 m0):=(Qaa hgr2 (p:=⟨w.heap.size,0,none⟩) (by simp;omega) (by simp;omega)).trans (by simp[*])
   have c1:w2.cell? ⟨w.heap.size,1,none⟩=some (.int .i64 m1):=(Qaa hgr2 (p:=⟨w.heap.size,1,none⟩) (by simp;omega) (by simp;omega)).trans (by simp[*])
   have c2:w2.cell? ⟨w.heap.size,2,none⟩=some (.string m2):=(Qaa hgr2 (p:=⟨w.heap.size,2,none⟩) (by simp;omega) (by simp;omega)).trans (by simp[*])
   have c3:w2.cell? ⟨w.heap.size,3,none⟩=some (.string m3):=(Qaa hgr2 (p:=⟨w.heap.size,3,none⟩) (by simp;omega) (by simp;omega)).trans (by simp[*])
   have c4:w2.cell? ⟨w.heap.size,4,none⟩=some (.string m4):=(Qaa hgr2 (p:=⟨w.heap.size,4,none⟩) (by simp;omega) (by simp;omega)).trans (by simp[*])
   have c5:w2.cell? ⟨w.heap.size,5,none⟩=some (.string m5):=(Qaa hgr2 (p:=⟨w.heap.size,5,none⟩) (by simp;omega) (by simp;omega)).trans (by simp[*])
   have HB2:Hid (Below w.heap.size w w2):=Hi (HB0.out.trans ((Below.ofGrown (HB1.out.alloc HB1.out.size _) hgr2 (by have:=HB1.out.size;simp;omega) (Nat.le_refl _)).mono HB0.out.size))
   clear hown2 hgr2)
  |(
   refine Qa0 Tryz.underlying51 HI.out HS.out (by decide) rfl (.tmp 9) (.tmp 10) rfl W.heap.size (xs:=xs) rfl rfl ((HOW.out W (Nat.le_refl _)).alloc (.cells #[.int .i64 m0,.int .i64 m1,.string m2,.string m3,.string m4,.string m5,.int .i64 m0,.int .i64 m1,.string m2,.string m3,.string m4,.string m5,.int .i64 m0,.int .i64 m1,.string m2,.string m3,.string m4,.string m5] 69)) (HCW.out.below (HA.out.alloc HA.out.size _)) HXL.out HX1.out (by omega) ?_
   intro w1 hown1 hgr1
   have HO1:=Hi hown1
   have hs1:W.heap.size<w1.heap.size:=by have:=hgr1.size;simp at this;omega
   have c0:w1.cell? ⟨w.heap.size,0,none⟩=some (.int .i64 m0):=(Qaa hgr1 (p:=⟨w.heap.size,0,none⟩) (by simp;omega) (by simp;omega)).trans (by simp[*])
   have c1:w1.cell? ⟨w.heap.size,1,none⟩=some (.int .i64 m1):=(Qaa hgr1 (p:=⟨w.heap.size,1,none⟩) (by simp;omega) (by simp;omega)).trans (by simp[*])
   have c2:w1.cell? ⟨w.heap.size,2,none⟩=some (.string m2):=(Qaa hgr1 (p:=⟨w.heap.size,2,none⟩) (by simp;omega) (by simp;omega)).trans (by simp[*])
   have c3:w1.cell? ⟨w.heap.size,3,none⟩=some (.string m3):=(Qaa hgr1 (p:=⟨w.heap.size,3,none⟩) (by simp;omega) (by simp;omega)).trans (by simp[*])
   have c4:w1.cell? ⟨w.heap.size,4,none⟩=some (.string m4):=(Qaa hgr1 (p:=⟨w.heap.size,4,none⟩) (by simp;omega) (by simp;omega)).trans (by simp[*])
   have c5:w1.cell? ⟨w.heap.size,5,none⟩=some (.string m5):=(Qaa hgr1 (p:=⟨w.heap.size,5,none⟩) (by simp;omega) (by simp;omega)).trans (by simp[*])
   have HB1:Hid (Below W.heap.size W w1):=Hi (Below.ofGrown (HA.out.alloc HA.out.size _) hgr1 (by simp<;>omega) (Nat.le_refl _))
   have HBB:Hid (∀(j:Nat) (u:Value),MK[j]?=some u→w1.cell? ⟨W.heap.size+1,j,none⟩=some u):=Hi (fun j u hj=>(Qaa hgr1 (p:=⟨W.heap.size+1,j,none⟩) (by simp<;>omega) (by simp<;>omega)).trans (by simpa using HBC.out (W.alloc (.cells MC 69)) j u hj))
   clear hown1 hgr1)
  |(
   refine Qa0 Tryz.underlying51 HI.out HS.out (by decide) rfl (.tmp 9) (.tmp 10) rfl W.heap.size (xs:=xs) (g:=W.heap.size+1) rfl rfl (HOX.out) (HCX.out) HXL.out HX1.out (by omega) ?_
   intro w1 hown1 hgr1
   have HO1:=Hi hown1
   have hs1:W.heap.size<w1.heap.size:=by have:=hgr1.size;simp at this;omega
   have c0:w1.cell? ⟨w.heap.size,0,none⟩=some (.int .i64 m0):=(Qaa hgr1 (p:=⟨w.heap.size,0,none⟩) (by simp;omega) (by simp;omega)).trans (by simp[*])
   have c1:w1.cell? ⟨w.heap.size,1,none⟩=some (.int .i64 m1):=(Qaa hgr1 (p:=⟨w.heap.size,1,none⟩) (by simp;omega) (by simp;omega)).trans (by simp[*])
   have c2:w1.cell? ⟨w.heap.size,2,none⟩=some (.string m2):=(Qaa hgr1 (p:=⟨w.heap.size,2,none⟩) (by simp;omega) (by simp;omega)).trans (by simp[*])
   have c3:w1.cell? ⟨w.heap.size,3,none⟩=some (.string m3):=(Qaa hgr1 (p:=⟨w.heap.size,3,none⟩) (by simp;omega) (by simp;omega)).trans (by simp[*])
   have c4:w1.cell? ⟨w.heap.size,4,none⟩=some (.string m4):=(Qaa hgr1 (p:=⟨w.heap.size,4,none⟩) (by simp;omega) (by simp;omega)).trans (by simp[*])
   have c5:w1.cell? ⟨w.heap.size,5,none⟩=some (.string m5):=(Qaa hgr1 (p:=⟨w.heap.size,5,none⟩) (by simp;omega) (by simp;omega)).trans (by simp[*])
   have HB1:Hid (Below W.heap.size W w1):=Hi (Below.ofGrown HAX.out hgr1 (by simp<;>omega) (by omega))
   have HBB:Hid (∀(j:Nat) (u:Value),MK[j]?=some u→w1.cell? ⟨W.heap.size,j,none⟩=some u):=Hi (fun j u hj=>(Qaa hgr1 (p:=⟨W.heap.size,j,none⟩) (by simp<;>omega) (by simp<;>omega)).trans (HBX.out j u hj))
   clear hown1 hgr1)
  |(
   refine Qby Tryz.underlying51 HI.out HS.out rfl (.tmp 11) (.tmp 15) rfl W.heap.size (xs:=xs) (news:=MK) (n:=es.length) (m:=3) rfl rfl HO1.out HML.out HBB.out HM1.out (Nat.le_refl _) ?_
   intro w2 hown2 hgr2
   have HO2:=Hi hown2
   have hs2:w1.heap.size≤w2.heap.size:=hgr2.size
   have c0:w2.cell? ⟨w.heap.size,0,none⟩=some (.int .i64 m0):=(Qaa hgr2 (p:=⟨w.heap.size,0,none⟩) (by simp;omega) (by simp;omega)).trans (by simp[*])
   have c1:w2.cell? ⟨w.heap.size,1,none⟩=some (.int .i64 m1):=(Qaa hgr2 (p:=⟨w.heap.size,1,none⟩) (by simp;omega) (by simp;omega)).trans (by simp[*])
   have c2:w2.cell? ⟨w.heap.size,2,none⟩=some (.string m2):=(Qaa hgr2 (p:=⟨w.heap.size,2,none⟩) (by simp;omega) (by simp;omega)).trans (by simp[*])
   have c3:w2.cell? ⟨w.heap.size,3,none⟩=some (.string m3):=(Qaa hgr2 (p:=⟨w.heap.size,3,none⟩) (by simp;omega) (by simp;omega)).trans (by simp[*])
   have c4:w2.cell? ⟨w.heap.size,4,none⟩=some (.string m4):=(Qaa hgr2 (p:=⟨w.heap.size,4,none⟩) (by simp;omega) (by simp;omega)).trans (by simp[*])
   have c5:w2.cell? ⟨w.heap.size,5,none⟩=some (.string m5):=(Qaa hgr2 (p:=⟨w.heap.size,5,none⟩) (by simp;omega) (by simp;omega)).trans (by simp[*])
   have HB2:Hid (Below w.heap.size w w2):=Hi (HB0.out.trans ((Below.ofGrown HB1.out hgr2 HB1.out.size (by omega)).mono HB0.out.size))
   clear hown2 hgr2)
  )
 all_goals
  go_wp2
  go_ret
  exact⟨_,by omega,rfl,⟨by simp,by rw[List.flatMap_append,HXS.out,show ([⟨m0,m1,m2,m3,m4,m5⟩,⟨m0,m1,m2,m3,m4,m5⟩,⟨m0,m1,m2,m3,m4,m5⟩]:List B6).flatMap B6.cells=MK from HMK.out.symm];exact Qeo HO2.out⟩,HB2.out⟩
theorem Qg5:(Tryz.prog.info? 71).map (fun i=>(i.zero,i.size,i.bytes))=some (some (.agg #[.int .i64 0,.int .i64 0,.string ⟨#[]⟩]),3,32):=by kernel_rfl
theorem Qmj(n:Nat)(hn:n≤1048576):∃MC:Array Value,MC.size=(n+3)*3∧∀w,(Instr.makeSlice 52 (.int .i64 0) (.int .i64 (IntKind.i64.wrap ((n:Int)+3)))).run Tryz.prog w=.ok (.slice (some ⟨w.heap.size,0,none⟩) 0 (n+3)) (w.alloc (.cells MC 71)):=by
 obtain⟨i,hi,h⟩:=Option.map_eq_some_iff.1 Qg5
 simp only[Prod.mk.injEq] at h
 obtain⟨hz,hs,hb⟩:=h
 refine⟨madeCells (Value.cells (.agg #[.int .i64 0,.int .i64 0,.string ⟨#[]⟩])) ((n+3)*3),size_madeCells _ _,fun w=>?_⟩
 have:=run_make w 52 71 i _ Tryz.underlying52 hi hz .i64 .i64 0 ((n:Int)+3) (by omega) (by omega) (by rw[hb];omega) (by omega)
 have e:((n:Int)+3).toNat=n+3:=by omega
 rw[e,hs] at this
 rw[show IntKind.i64.wrap ((n:Int)+3)=(n:Int)+3 by rw[IntKind.wrap_i64];omega]
 exact this
set_option maxRecDepth 100000 in
set_option maxHeartbeats 4000000 in
theorem Qmk(a:Option Addr)(cap:Nat)(es:List H3)(m0:Int)(m1:Int)(m2:ByteArray)(w:World)(hf:ARow H3.cells w a cap es)(hn:es.length≤1048576):
 Calls Tryz.prog 94 #[.slice a es.length cap,.agg #[.int .i64 m0,.int .i64 m1,.string m2]] w fun e w'=>∃g,w.heap.size≤g∧e=.returned (.slice (some ⟨g,0,none⟩) es.length (es.length+3))∧ARow H3.cells w' (some ⟨g,0,none⟩) (es.length+3) (es++ [⟨m0,m1,m2⟩,⟨m0,m1,m2⟩,⟨m0,m1,m2⟩])∧Below w.heap.size w w':=by
 have HC:=Hi hf.row
 obtain⟨MC,hMC,hmk⟩:=Qmj es.length hn
 have HMC:=Hi hMC
 obtain⟨i,hi,h⟩:=Option.map_eq_some_iff.1 Qg5
 simp only[Prod.mk.injEq] at h
 obtain⟨hz,hs,hb⟩:=h
 have HI:=Hi hi
 have HS:=Hi hs
 have HXL:=Hi (Qa8 (c:=H3.cells) (sz:=3) (fun _=>rfl) es)
 have HX1:=Hi (Qeg H3.one es)
 obtain⟨xs,hxs⟩:∃xs,es.flatMap H3.cells=xs:=⟨_,rfl⟩
 rw[hxs] at HC HXL HX1
 have HXS:=Hi hxs
 clear hz hb hi hs hMC hf hxs
 go_enter Tryz.func94,Tryz.ntmps94
 go_wp2_with fail
 obtain⟨W,hW⟩:∃W,w.alloc (.cells #[.int .i64 m0,.int .i64 m1,.string m2] 71)=W:=⟨_,rfl⟩
 have HB0:Hid (Below w.heap.size w W):=Hi (by rw[←hW];exact(Below.refl _ _).alloc (Nat.le_refl _) _)
 have hsb:SB W w.heap.size 71 #[.int .i64 m0,.int .i64 m1,.string m2]:=by rw[←hW];exact SB.new w _ _
 rw[hW]
 have hlt:=hsb.lt
 have c0:W.cell? ⟨w.heap.size,0,none⟩=some (.int .i64 m0):=hsb.cell 0
 have c1:W.cell? ⟨w.heap.size,1,none⟩=some (.int .i64 m1):=hsb.cell 1
 have c2:W.cell? ⟨w.heap.size,2,none⟩=some (.string m2):=hsb.cell 2
 clear hsb hW
 obtain⟨MK,hMK⟩:∃MK:List Value,MK= [.int .i64 m0,.int .i64 m1,.string m2,.int .i64 m0,.int .i64 m1,.string m2,.int .i64 m0,.int .i64 m1,.string m2]:=⟨_,rfl⟩
 have HMK:=Hi hMK
 have hBC:∀(X:World) (j:Nat) (u:Value),MK[j]?=some u→(X.alloc (.cells #[.int .i64 m0,.int .i64 m1,.string m2,.int .i64 m0,.int .i64 m1,.string m2,.int .i64 m0,.int .i64 m1,.string m2] 71)).cell? ⟨X.heap.size,j,none⟩=some u:=by
  intro X j u hj
  rw[(SB.new X 71 #[.int .i64 m0,.int .i64 m1,.string m2,.int .i64 m0,.int .i64 m1,.string m2,.int .i64 m0,.int .i64 m1,.string m2]).cell j]
  rw[hMK] at hj
  simpa using hj
 have HBC:=Hi hBC
 have HML:Hid (MK.length=3*3):=Hi (by rw[hMK];rfl)
 have HM1:Hid (∀u∈ MK,u.oneCell'=true):=Hi (by rw[hMK];simp[Value.oneCell'])
 have HCW:=Hi (HC.out.below HB0.out)
 have hown:∀X:World,W.heap.size≤X.heap.size→(X.alloc (.cells MC 71)).ownsRow W.heap.size 71 3 (.slice (some ⟨X.heap.size,0,none⟩) 0 (es.length+3)) 0 []:=fun X hX=>World.ownsRow_made X MC (es.length+3) hX (by unfold maxLen;omega) HMC.out
 have HOW:=Hi hown
 have HA:Hid (Below W.heap.size W (W.alloc (.cells MC 71)).drew):=Hi ((Below.refl _ _).alloc (Nat.le_refl _) _).drew
 have HAX:Hid (Below W.heap.size W ((W.alloc (.cells #[.int .i64 m0,.int .i64 m1,.string m2,.int .i64 m0,.int .i64 m1,.string m2,.int .i64 m0,.int .i64 m1,.string m2] 71)).alloc (.cells MC 71)).drew):=Hi ((((Below.refl _ _).alloc (Nat.le_refl _) _).alloc (by simp) _).drew)
 have HOX:Hid (((W.alloc (.cells #[.int .i64 m0,.int .i64 m1,.string m2,.int .i64 m0,.int .i64 m1,.string m2,.int .i64 m0,.int .i64 m1,.string m2] 71)).alloc (.cells MC 71)).drew.ownsRow W.heap.size 71 3 (.slice (some ⟨W.heap.size+1,0,none⟩) 0 (es.length+3)) 0 []):=Hi (by
  have:=hown (W.alloc (.cells #[.int .i64 m0,.int .i64 m1,.string m2,.int .i64 m0,.int .i64 m1,.string m2,.int .i64 m0,.int .i64 m1,.string m2] 71)) (by simp)
  simp only[World.size_alloc] at this
  exact this)
 have HCX:=Hi (HCW.out.below HAX.out)
 have HBX:Hid (∀(j:Nat) (u:Value),MK[j]?=some u→((W.alloc (.cells #[.int .i64 m0,.int .i64 m1,.string m2,.int .i64 m0,.int .i64 m1,.string m2,.int .i64 m0,.int .i64 m1,.string m2] 71)).alloc (.cells MC 71)).drew.cell? ⟨W.heap.size,j,none⟩=some u):=Hi (fun j u hj=>by
  have h1:=hBC W j u hj
  have h2:Below (W.alloc (.cells #[.int .i64 m0,.int .i64 m1,.string m2,.int .i64 m0,.int .i64 m1,.string m2,.int .i64 m0,.int .i64 m1,.string m2] 71)).heap.size _ _:=(Below.refl _ (W.alloc (.cells #[.int .i64 m0,.int .i64 m1,.string m2,.int .i64 m0,.int .i64 m1,.string m2,.int .i64 m0,.int .i64 m1,.string m2] 71))).alloc (Nat.le_refl _) (.cells MC 71)
  exact(h2.drew.cell (p:=⟨W.heap.size,j,none⟩) (by simp)).trans h1)
 clear hMK hBC hown
 go_region_held3 (fun w'=>w'.cell? ⟨w.heap.size,0,none⟩=some (.int .i64 m0)∧w'.cell? ⟨w.heap.size,1,none⟩=some (.int .i64 m1)∧w'.cell? ⟨w.heap.size,2,none⟩=some (.string m2)) ((first|(simp [*];done)|go_keep)) (first
  |(
   refine Qa0 Tryz.underlying52 HI.out HS.out (by decide) rfl (.tmp 9) (.tmp 10) rfl W.heap.size (xs:=xs) rfl rfl (HOW.out W (Nat.le_refl _)) (HCW.out.below HA.out) HXL.out HX1.out (by omega) ?_
   intro w1 hown1 hgr1
   have HO1:=Hi hown1
   have hs1:W.heap.size<w1.heap.size:=by have:=hgr1.size;simp at this;omega
   have c0:w1.cell? ⟨w.heap.size,0,none⟩=some (.int .i64 m0):=(Qaa hgr1 (p:=⟨w.heap.size,0,none⟩) (by simp;omega) (by simp;omega)).trans (by simp[*])
   have c1:w1.cell? ⟨w.heap.size,1,none⟩=some (.int .i64 m1):=(Qaa hgr1 (p:=⟨w.heap.size,1,none⟩) (by simp;omega) (by simp;omega)).trans (by simp[*])
   have c2:w1.cell? ⟨w.heap.size,2,none⟩=some (.string m2):=(Qaa hgr1 (p:=⟨w.heap.size,2,none⟩) (by simp;omega) (by simp;omega)).trans (by simp[*])
   have HB1:Hid (Below W.heap.size W w1):=Hi (Below.ofGrown HA.out hgr1 HA.out.size (Nat.le_refl _))
   clear hown1 hgr1)
  |(
   refine Qby Tryz.underlying52 HI.out HS.out rfl (.tmp 11) (.tmp 15) rfl W.heap.size (xs:=xs) (news:=MK) (n:=es.length) (m:=3) rfl rfl (HO1.out.alloc _) HML.out (HBC.out w1) HM1.out (Nat.le_refl _) ?_
   intro w2 hown2 hgr2
   have HO2:=Hi hown2
   have hs2:w1.heap.size<w2.heap.size:=by have:=hgr2.size;simp at this;omega
   have c0:w2.cell? ⟨w.heap.size,0,none⟩=some (.int .i64 m0):=(Qaa hgr2 (p:=⟨w.heap.size,0,none⟩) (by simp;omega) (by simp;omega)).trans (by simp[*])
   have c1:w2.cell? ⟨w.heap.size,1,none⟩=some (.int .i64 m1):=(Qaa hgr2 (p:=⟨w.heap.size,1,none⟩) (by simp;omega) (by simp;omega)).trans (by simp[*])
   have c2:w2.cell? ⟨w.heap.size,2,none⟩=some (.string m2):=(Qaa hgr2 (p:=⟨w.heap.size,2,none⟩) (by simp;omega) (by simp;omega)).trans (by simp[*])
   have HB2:Hid (Below w.heap.size w w2):=Hi (HB0.out.trans ((Below.ofGrown (HB1.out.alloc HB1.out.size _) hgr2 (by have:=HB1.out.size;simp;omega) (Nat.le_refl _)).mono HB0.out.size))
   clear hown2 hgr2)
  |(
   refine Qa0 Tryz.underlying52 HI.out HS.out (by decide) rfl (.tmp 9) (.tmp 10) rfl W.heap.size (xs:=xs) rfl rfl ((HOW.out W (Nat.le_refl _)).alloc (.cells #[.int .i64 m0,.int .i64 m1,.string m2,.int .i64 m0,.int .i64 m1,.string m2,.int .i64 m0,.int .i64 m1,.string m2] 71)) (HCW.out.below (HA.out.alloc HA.out.size _)) HXL.out HX1.out (by omega) ?_
   intro w1 hown1 hgr1
   have HO1:=Hi hown1
   have hs1:W.heap.size<w1.heap.size:=by have:=hgr1.size;simp at this;omega
   have c0:w1.cell? ⟨w.heap.size,0,none⟩=some (.int .i64 m0):=(Qaa hgr1 (p:=⟨w.heap.size,0,none⟩) (by simp;omega) (by simp;omega)).trans (by simp[*])
   have c1:w1.cell? ⟨w.heap.size,1,none⟩=some (.int .i64 m1):=(Qaa hgr1 (p:=⟨w.heap.size,1,none⟩) (by simp;omega) (by simp;omega)).trans (by simp[*])
   have c2:w1.cell? ⟨w.heap.size,2,none⟩=some (.string m2):=(Qaa hgr1 (p:=⟨w.heap.size,2,none⟩) (by simp;omega) (by simp;omega)).trans (by simp[*])
   have HB1:Hid (Below W.heap.size W w1):=Hi (Below.ofGrown (HA.out.alloc HA.out.size _) hgr1 (by simp<;>omega) (Nat.le_refl _))
   have HBB:Hid (∀(j:Nat) (u:Value),MK[j]?=some u→w1.cell? ⟨W.heap.size+1,j,none⟩=some u):=Hi (fun j u hj=>(Qaa hgr1 (p:=⟨W.heap.size+1,j,none⟩) (by simp<;>omega) (by simp<;>omega)).trans (by simpa using HBC.out (W.alloc (.cells MC 71)) j u hj))
   clear hown1 hgr1)
  |(
   refine Qa0 Tryz.underlying52 HI.out HS.out (by decide) rfl (.tmp 9) (.tmp 10) rfl W.heap.size (xs:=xs) (g:=W.heap.size+1) rfl rfl (HOX.out) (HCX.out) HXL.out HX1.out (by omega) ?_
   intro w1 hown1 hgr1
   have HO1:=Hi hown1
   have hs1:W.heap.size<w1.heap.size:=by have:=hgr1.size;simp at this;omega
   have c0:w1.cell? ⟨w.heap.size,0,none⟩=some (.int .i64 m0):=(Qaa hgr1 (p:=⟨w.heap.size,0,none⟩) (by simp;omega) (by simp;omega)).trans (by simp[*])
   have c1:w1.cell? ⟨w.heap.size,1,none⟩=some (.int .i64 m1):=(Qaa hgr1 (p:=⟨w.heap.size,1,none⟩) (by simp;omega) (by simp;omega)).trans (by simp[*])
   have c2:w1.cell? ⟨w.heap.size,2,none⟩=some (.string m2):=(Qaa hgr1 (p:=⟨w.heap.size,2,none⟩) (by simp;omega) (by simp;omega)).trans (by simp[*])
   have HB1:Hid (Below W.heap.size W w1):=Hi (Below.ofGrown HAX.out hgr1 (by simp<;>omega) (by omega))
   have HBB:Hid (∀(j:Nat) (u:Value),MK[j]?=some u→w1.cell? ⟨W.heap.size,j,none⟩=some u):=Hi (fun j u hj=>(Qaa hgr1 (p:=⟨W.heap.size,j,none⟩) (by simp<;>omega) (by simp<;>omega)).trans (HBX.out j u hj))
   clear hown1 hgr1)
  |(
   refine Qby Tryz.underlying52 HI.out HS.out rfl (.tmp 11) (.tmp 15) rfl W.heap.size (xs:=xs) (news:=MK) (n:=es.length) (m:=3) rfl rfl HO1.out HML.out HBB.out HM1.out (Nat.le_refl _) ?_
   intro w2 hown2 hgr2
   have HO2:=Hi hown2
   have hs2:w1.heap.size≤w2.heap.size:=hgr2.size
   have c0:w2.cell? ⟨w.heap.size,0,none⟩=some (.int .i64 m0):=(Qaa hgr2 (p:=⟨w.heap.size,0,none⟩) (by simp;omega) (by simp;omega)).trans (by simp[*])
   have c1:w2.cell? ⟨w.heap.size,1,none⟩=some (.int .i64 m1):=(Qaa hgr2 (p:=⟨w.heap.size,1,none⟩) (by simp;omega) (by simp;omega)).trans (by simp[*])
   have c2:w2.cell? ⟨w.heap.size,2,none⟩=some (.string m2):=(Qaa hgr2 (p:=⟨w.heap.size,2,none⟩) (by simp;omega) (by simp;omega)).trans (by simp[*])
   have HB2:Hid (Below w.heap.size w w2):=Hi (HB0.out.trans ((Below.ofGrown HB1.out hgr2 HB1.out.size (by omega)).mono HB0.out.size))
   clear hown2 hgr2)
  )
 all_goals
  go_wp2
  go_ret
  exact⟨_,by omega,rfl,⟨by simp,by rw[List.flatMap_append,HXS.out,show ([⟨m0,m1,m2⟩,⟨m0,m1,m2⟩,⟨m0,m1,m2⟩]:List H3).flatMap H3.cells=MK from HMK.out.symm];exact Qeo HO2.out⟩,HB2.out⟩
end Go.Proofs.YtgnmjaponiclhaaGreatDoor
