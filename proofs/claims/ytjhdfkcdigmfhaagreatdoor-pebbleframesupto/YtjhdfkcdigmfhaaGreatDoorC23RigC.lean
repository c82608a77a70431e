/- package rig: whether holds are right. -/
import Derived.WideKeyRuns
import Derived.MapKept
import Derived.Test.YtjhdfkcdigmfhaaGreatDoorC22RigB
namespace Go.Proofs.YtjhdfkcdigmfhaaGreatDoor
open Go.RowKit Go.MapKept
set_option linter.unusedVariables false
set_option linter.unusedSimpArgs false
abbrev pairV(p:Int × Int):Value:=.agg #[.int .i64 p.1,.int .i64 p.2]
theorem infoInt:(Tryz.prog.info? 3).map (fun i=>(i.zero,i.size,i.bytes))=some (some (.int .i64 0),1,8):=by kernel_rfl
theorem plainInt:Tryz.prog.plainKey 3=true:=by kernel_rfl
theorem cellsInt:Tryz.prog.cellsOf 3=1:=by kernel_rfl
theorem run_checkKey_pair'(b:Bool)(n:Nat)(p:Int × Int)(w:World):(Instr.checkKey b (n+2) 120 (pairV p)).run Tryz.prog w=.ok () w:=by
 obtain⟨i,hi,h⟩:=Option.map_eq_some_iff.1 infoInt
 simp only[Prod.mk.injEq] at h
 obtain⟨hz,hs,hb⟩:=h
 have hstep:∀(v:Int) (w:World),(Instr.checkKey b (n+1) 3 (.int .i64 v)).run Tryz.prog w=.ok () w:=fun v w=>Go.MapKept.run_checkKey (k:=.int .i64 v) Tryz.underlying3 (by simp[IsKey]) b n
 have hpart:∀(j:Nat) (v:Value) (w:World),#[Value.int .i64 p.1,.int .i64 p.2][j]?=some v→(part 3 #[.int .i64 p.1,.int .i64 p.2] j).run Tryz.prog w=.ok v w:=fun j v w hj=>run_part_plain w plainInt hj
 simp only[Instr.checkKey,Sem.run_bind,run_underlying Tryz.underlying120,Result.andThen_ok]
 simp only[Std.Legacy.Range.forIn_eq_forIn_range',Std.Legacy.Range.size]
 simp[List.range',run_sizeOf _ hi,hs,hstep,cellsInt,hpart 0 _ _ rfl,hpart 1 _ _ rfl]
theorem run_checkKey_pair(b:Bool)(p:Int × Int)(w:World):(Instr.checkKey b 10000 120 (pairV p)).run Tryz.prog w=.ok () w:=run_checkKey_pair' b 9998 p w
theorem run_equalIn_pair(n:Nat)(p q:Int × Int)(w:World):(Op.equalIn (n+2) 120 (pairV p) (pairV q)).run Tryz.prog w=.ok (decide (p=q)) w:=by
 obtain⟨i,hi,h⟩:=Option.map_eq_some_iff.1 infoInt
 rw[run_equalIn_array w (n+1) _ _ Tryz.underlying120 hi]
 have hpart:∀(r:Int × Int) (j:Nat) (v:Value) (w:World),#[Value.int .i64 r.1,.int .i64 r.2][j]?=some v→(part 3 #[.int .i64 r.1,.int .i64 r.2] j).run Tryz.prog w=.ok v w:=fun r j v w hj=>run_part_plain w plainInt hj
 have hint:∀(x y:Int) (w:World),(Op.equalIn (n+1) 3 (.int .i64 x) (.int .i64 y)).run Tryz.prog w=.ok (x == y) w:=by
  intro x y w
  simp[Op.equalIn,run_underlying Tryz.underlying3]
 simp[List.range,List.range.loop,Op.eqItems,cellsInt,hpart p 0 _ _ rfl,hpart p 1 _ _ rfl,hpart q 0 _ _ rfl,hpart q 1 _ _ rfl,hint]
 obtain⟨p1,p2⟩:=p
 obtain⟨q1,q2⟩:=q
 by_cases h1:p1=q1
 ·
  by_cases h2:p2=q2
  · simp[h1,h2]
  · simp[h1,h2]
 · simp[h1]
theorem run_equal_pair(p q:Int × Int)(w:World):(Op.equal 120 (pairV p) (pairV q)).run Tryz.prog w=.ok (decide (p=q)) w:=run_equalIn_pair 9998 p q w
def PairSet(es:Array MapEntry)(ps:List (Int × Int)):Prop:=es.toList.map (fun e=>(e.key,e.val))=ps.map fun p=>(pairV p,Value.agg #[])
theorem run_findAsking_pair(p:Int × Int)(w:World):∀(es:List MapEntry) (ps:List (Int × Int)) (k:Nat),es.map (fun e=>(e.key,e.val))=ps.map (fun p=>(pairV p,Value.agg #[]))→
 ∃r:Option (Nat × Value),(Instr.findAsking 120 (pairV p) es k).run Tryz.prog w=.ok r w∧(p∈ ps→∃j,r=some (j,.agg #[]))∧(p ∉ ps→r=none)
 | [],ps,k,h=>by
   have:ps= []:=by simpa using h.symm
   subst this
   exact⟨none,by simp[Instr.findAsking],by simp,fun _=>rfl⟩
 |e :: es,[],k,h=>by simp at h
 |e :: es,q :: ps,k,h=>by
  simp only[List.map_cons,List.cons.injEq,Prod.mk.injEq] at h
  obtain⟨⟨hk,hv⟩,ht⟩:=h
  by_cases hpq:p=q
  · exact⟨some (k,.agg #[]),by simp[Instr.findAsking,hk,hv,run_equal_pair,hpq],fun _=>⟨k,rfl⟩,fun hn=>absurd (by simp[hpq]) hn⟩
  ·
   obtain⟨r,h1,h2,h3⟩:=run_findAsking_pair p w es ps (k+1) ht
   refine⟨r,?_,fun hm=>h2 ?_,fun hn=>h3 ?_⟩
   · simp only[Instr.findAsking,hk,Sem.run_bind,run_equal_pair,Result.andThen_ok,hpq,decide_false]
     simpa using h1
   ·
    rcases List.mem_cons.1 hm with h|h
    · exact absurd h hpq
    · exact h
   · intro hm
     exact hn (List.mem_cons_of_mem _ hm)
theorem Qk2:∀w,(zeroValue 241).run Tryz.prog w=.ok (.agg #[]) w:=Tryz.zeroValue241
theorem run_lookup_pair(r clock:Nat)(es:Array MapEntry)(ps:List (Int × Int))(p:Int × Int)(w:World)(hb:w.heap[r]?=some (.map es clock))(hs:PairSet es ps):
 (Instr.lookup 240 (.map (some r)) (pairV p) true).run Tryz.prog w=.ok (.tuple #[.agg #[],.bool (decide (p∈ ps))]) w:=by
 obtain⟨x,h1,h2,h3⟩:=run_findAsking_pair p w es.toList ps 0 hs
 have hf:(Instr.findKey 120 (pairV p) es.toList).run Tryz.prog w=.ok x w:=by
  rw[run_findKey_eq w (by rw[Tryz.underlying120])]
  exact h1
 by_cases hm:p∈ ps
 · obtain⟨j,rfl⟩:=h2 hm
   simp[Instr.lookup,run_underlying Tryz.underlying240,Go.MapKept.run_getObj_map hb,run_checkKey_pair,hf,hm]
 · obtain rfl:=h3 hm
   simp[Instr.lookup,run_underlying Tryz.underlying240,Go.MapKept.run_getObj_map hb,run_checkKey_pair,hf,hm,Qk2]
theorem run_mapUpdate_pair(r clock:Nat)(es:Array MapEntry)(ps:List (Int × Int))(p:Int × Int)(w:World)(hb:w.heap[r]?=some (.map es clock))(hs:PairSet es ps)(hn:p ∉ ps):
 (Instr.mapUpdate 240 (.map (some r)) (pairV p) (.agg #[])).run Tryz.prog w=.ok () { w with heap:=w.heap.setIfInBounds r (.map (es.push { key:=pairV p,val:=.agg #[],born:=clock }) (clock+1)) }:=by
 obtain⟨x,h1,h2,h3⟩:=run_findAsking_pair p w es.toList ps 0 hs
 have hf:(Instr.findKey 120 (pairV p) es.toList).run Tryz.prog w=.ok x w:=by
  rw[run_findKey_eq w (by rw[Tryz.underlying120])]
  exact h1
 obtain rfl:=h3 hn
 simp[Instr.mapUpdate,run_underlying Tryz.underlying240,Go.MapKept.run_getObj_map hb,run_checkKey_pair,hf,Go.MapKept.run_setObj_map _ hb,Result.andThen]
end Go.Proofs.YtjhdfkcdigmfhaaGreatDoor
namespace Go.Proofs.YtjhdfkcdigmfhaaGreatDoor
open Go.RowKit
set_option linter.unusedVariables false
set_option linter.unusedSimpArgs false
def holdC(n:Nat)(j wy:Int)(tw:Bool):Int:=if 0≤j∧j<n then (if wy≠1∧wy≠2 then 3 else if tw=true then 7 else 0) else 4
set_option maxRecDepth 100000 in
set_option maxHeartbeats 2000000 in
theorem Qoa(a:Option Addr)(n cap:Nat)(j wy:Int)(q:ByteArray)(tw:Bool)(w:World):
 Calls Tryz.prog 183 #[.slice a n cap,.agg #[.int .i64 j,.int .i64 wy,.string q],.bool tw] w fun e w'=>e=.returned (.int .i64 (holdC n j wy tw))∧Below w.heap.size w w':=by
 unfold holdC
 by_cases h1:IsJ n j
 ·
  rw[if_pos (show 0≤j∧j<(n:Int) from h1)]
  have H1:=Hi h1
  clear h1
  by_cases h2:wy=1
  ·
   subst h2
   rw[if_neg (by simp)]
   cases tw with
   |true=>
    rw[if_pos rfl]
    go_enter Tryz.func183,Tryz.ntmps183
    obtain⟨W,hW⟩:∃W,w.alloc (.cells #[.int .i64 j,.int .i64 1,.string q] 71)=W:=⟨_,rfl⟩
    have HB0:Hid (Below w.heap.size w W):=Hi (by rw[←hW];exact(Below.refl _ _).alloc (Nat.le_refl _) _)
    have hs0:SB W w.heap.size 71 #[.int .i64 j,.int .i64 1,.string q]:=by rw[←hW];exact SB.new w _ _
    have k0:W.cell? ⟨w.heap.size,0,none⟩=some (.int .i64 j):=hs0.cell 0
    have k1:W.cell? ⟨w.heap.size,1,none⟩=some (.int .i64 1):=hs0.cell 1
    have k2:W.cell? ⟨w.heap.size,2,none⟩=some (.string q):=hs0.cell 2
    rw[←hW] at k0 k1 k2
    have HW:=Hi hW
    clear hW hs0
    go_wp2_with fail
    go_fit (Qaf a n cap j _ H1.out)
    rintro e w1 ⟨rfl,rfl⟩
    go_wp2
    go_ret
    exact⟨rfl,by rw[HW.out];exact HB0.out⟩
   |false=>
    rw[if_neg (by simp)]
    go_enter Tryz.func183,Tryz.ntmps183
    obtain⟨W,hW⟩:∃W,w.alloc (.cells #[.int .i64 j,.int .i64 1,.string q] 71)=W:=⟨_,rfl⟩
    have HB0:Hid (Below w.heap.size w W):=Hi (by rw[←hW];exact(Below.refl _ _).alloc (Nat.le_refl _) _)
    have hs0:SB W w.heap.size 71 #[.int .i64 j,.int .i64 1,.string q]:=by rw[←hW];exact SB.new w _ _
    have k0:W.cell? ⟨w.heap.size,0,none⟩=some (.int .i64 j):=hs0.cell 0
    have k1:W.cell? ⟨w.heap.size,1,none⟩=some (.int .i64 1):=hs0.cell 1
    have k2:W.cell? ⟨w.heap.size,2,none⟩=some (.string q):=hs0.cell 2
    rw[←hW] at k0 k1 k2
    have HW:=Hi hW
    clear hW hs0
    go_wp2_with fail
    go_fit (Qaf a n cap j _ H1.out)
    rintro e w1 ⟨rfl,rfl⟩
    go_wp2
    go_ret
    exact⟨rfl,by rw[HW.out];exact HB0.out⟩
  ·
   by_cases h3:wy=2
   ·
    subst h3
    rw[if_neg (by simp)]
    cases tw with
    |true=>
     rw[if_pos rfl]
     go_enter Tryz.func183,Tryz.ntmps183
     obtain⟨W,hW⟩:∃W,w.alloc (.cells #[.int .i64 j,.int .i64 2,.string q] 71)=W:=⟨_,rfl⟩
     have HB0:Hid (Below w.heap.size w W):=Hi (by rw[←hW];exact(Below.refl _ _).alloc (Nat.le_refl _) _)
     have hs0:SB W w.heap.size 71 #[.int .i64 j,.int .i64 2,.string q]:=by rw[←hW];exact SB.new w _ _
     have k0:W.cell? ⟨w.heap.size,0,none⟩=some (.int .i64 j):=hs0.cell 0
     have k1:W.cell? ⟨w.heap.size,1,none⟩=some (.int .i64 2):=hs0.cell 1
     have k2:W.cell? ⟨w.heap.size,2,none⟩=some (.string q):=hs0.cell 2
     rw[←hW] at k0 k1 k2
     have HW:=Hi hW
     clear hW hs0
     go_wp2_with fail
     go_fit (Qaf a n cap j _ H1.out)
     rintro e w1 ⟨rfl,rfl⟩
     go_wp2
     go_ret
     exact⟨rfl,by rw[HW.out];exact HB0.out⟩
    |false=>
     rw[if_neg (by simp)]
     go_enter Tryz.func183,Tryz.ntmps183
     obtain⟨W,hW⟩:∃W,w.alloc (.cells #[.int .i64 j,.int .i64 2,.string q] 71)=W:=⟨_,rfl⟩
     have HB0:Hid (Below w.heap.size w W):=Hi (by rw[←hW];exact(Below.refl _ _).alloc (Nat.le_refl _) _)
     have hs0:SB W w.heap.size 71 #[.int .i64 j,.int .i64 2,.string q]:=by rw[←hW];exact SB.new w _ _
     have k0:W.cell? ⟨w.heap.size,0,none⟩=some (.int .i64 j):=hs0.cell 0
     have k1:W.cell? ⟨w.heap.size,1,none⟩=some (.int .i64 2):=hs0.cell 1
     have k2:W.cell? ⟨w.heap.size,2,none⟩=some (.string q):=hs0.cell 2
     rw[←hW] at k0 k1 k2
     have HW:=Hi hW
     clear hW hs0
     go_wp2_with fail
     go_fit (Qaf a n cap j _ H1.out)
     rintro e w1 ⟨rfl,rfl⟩
     go_wp2
     go_ret
     exact⟨rfl,by rw[HW.out];exact HB0.out⟩
   ·
    rw[if_pos ⟨h2,h3⟩]
    have e2:(wy != 1)=true:=by simpa using h2
    have e3:(wy != 2)=true:=by simpa using h3
    clear h2 h3
    go_enter Tryz.func183,Tryz.ntmps183
    obtain⟨W,hW⟩:∃W,w.alloc (.cells #[.int .i64 j,.int .i64 wy,.string q] 71)=W:=⟨_,rfl⟩
    have HB0:Hid (Below w.heap.size w W):=Hi (by rw[←hW];exact(Below.refl _ _).alloc (Nat.le_refl _) _)
    have hs0:SB W w.heap.size 71 #[.int .i64 j,.int .i64 wy,.string q]:=by rw[←hW];exact SB.new w _ _
    have k0:W.cell? ⟨w.heap.size,0,none⟩=some (.int .i64 j):=hs0.cell 0
    have k1:W.cell? ⟨w.heap.size,1,none⟩=some (.int .i64 wy):=hs0.cell 1
    have k2:W.cell? ⟨w.heap.size,2,none⟩=some (.string q):=hs0.cell 2
    rw[←hW] at k0 k1 k2
    have HW:=Hi hW
    clear hW hs0
    go_wp2_with fail
    go_fit (Qaf a n cap j _ H1.out)
    rintro e w1 ⟨rfl,rfl⟩
    go_wp2
    go_ret
    exact⟨rfl,by rw[HW.out];exact HB0.out⟩
 ·
  rw[if_neg (show ¬(0≤j∧j<(n:Int)) from h1)]
  have H1:=Hi h1
  clear h1
  go_enter Tryz.func183,Tryz.ntmps183
  obtain⟨W,hW⟩:∃W,w.alloc (.cells #[.int .i64 j,.int .i64 wy,.string q] 71)=W:=⟨_,rfl⟩
  have HB0:Hid (Below w.heap.size w W):=Hi (by rw[←hW];exact(Below.refl _ _).alloc (Nat.le_refl _) _)
  have hs0:SB W w.heap.size 71 #[.int .i64 j,.int .i64 wy,.string q]:=by rw[←hW];exact SB.new w _ _
  have k0:W.cell? ⟨w.heap.size,0,none⟩=some (.int .i64 j):=hs0.cell 0
  have k1:W.cell? ⟨w.heap.size,1,none⟩=some (.int .i64 wy):=hs0.cell 1
  have k2:W.cell? ⟨w.heap.size,2,none⟩=some (.string q):=hs0.cell 2
  rw[←hW] at k0 k1 k2
  have HW:=Hi hW
  clear hW hs0
  go_wp2_with fail
  go_fit (Qcu a n cap j _ H1.out)
  rintro e w1 ⟨rfl,rfl⟩
  go_wp2
  go_ret
  exact⟨rfl,by rw[HW.out];exact HB0.out⟩
def places(hs:List H3):List (Int × Int):=hs.map fun h=>(h.j,h.w)
def holdAt(n:Nat)(hs:List H3)(k:Nat)(h:H3):Int:=holdC n h.j h.w (decide ((h.j,h.w)∈ places (hs.take k)))
def HoldsFault(n m:Nat)(hs:List H3)(c at_:Int):Prop:=
 (∃k h,hs[k]?=some h∧(∀i x,i<k→hs[i]?=some x→holdAt n hs i x=0)∧holdAt n hs k h=c∧c≠0∧at_=m+k)∨
 ((∀i x,hs[i]?=some x→holdAt n hs i x=0)∧c=0∧at_=0)
theorem PairSet.push{es:Array MapEntry}{ps:List (Int × Int)}{p:Int × Int}{b:Nat}(h:PairSet es ps):PairSet (es.push { key:=pairV p,val:=.agg #[],born:=b }) (ps++ [p]):=by
 unfold PairSet at*
 rw[Array.toList_push,List.map_append,h,List.map_append]
 rfl
theorem Qob{hs:List H3}{k:Nat}{h:H3}(hk:hs[k]?=some h):places (hs.take (k+1))=places (hs.take k)++ [(h.j,h.w)]:=by
 unfold places
 rw[List.take_add_one,hk]
 simp
theorem Tryz.faultInfo:(Tryz.prog.info? 57).map (·.size)=some 2:=by kernel_rfl
theorem map_other{w:World}{r b:Nat}{o:Obj}(h:b≠r):({ w with heap:=w.heap.setIfInBounds r o }:World).heap[b]?=w.heap[b]?:=by
 simp[Array.getElem?_setIfInBounds,h.symm]
theorem Only.map{w:World}{r:Nat}(o:Obj):Only r w { w with heap:=w.heap.setIfInBounds r o }:=⟨rfl,rfl,rfl,by simp,fun k hk hne=>map_other hne⟩
theorem map_same{w:World}{r:Nat}{o:Obj}(h:r<w.heap.size):({ w with heap:=w.heap.setIfInBounds r o }:World).heap[r]?=some o:=by
 simp[Array.getElem?_setIfInBounds,h]
set_option maxRecDepth 100000 in
set_option maxHeartbeats 4000000 in
theorem Qoc(a1 a2 a3:Option Addr)(n c1 m c2 c3:Nat)(hs:List H3)(w:World)(hh:ARow H3.cells w a3 c3 hs)(hl:hs.length≤20)(hm:m≤24):
 Calls Tryz.prog 96 #[.agg #[.slice a1 n c1,.slice a2 m c2,.slice a3 hs.length c3]] w fun e w'=>∃c at_,e=.returned (.agg #[.int .i64 c,.int .i64 at_])∧HoldsFault n m hs c at_∧Below w.heap.size w w':=by
 have HH:=Hi hh
 clear hh
 go_enter Tryz.func96,Tryz.ntmps96
 obtain⟨W,hW⟩:∃W,((w.alloc (.cells #[.slice a1 n c1,.slice a2 m c2,.slice a3 hs.length c3] 54)).alloc (.cells #[.int .i64 0,.int .i64 0] 57)).alloc (.map #[] 0)=W:=⟨_,rfl⟩
 have HB0:Hid (Below w.heap.size w W):=Hi (by rw[←hW];exact(Below.new2 w _ _).alloc (by simp<;>omega) _)
 have HS0:Hid (SB W w.heap.size 54 #[.slice a1 n c1,.slice a2 m c2,.slice a3 hs.length c3]):=Hi (by rw[←hW];exact((SB.new w _ _).alloc _).alloc _)
 have HS1:Hid (SB W (w.heap.size+1) 57 #[.int .i64 0,.int .i64 0]):=Hi (by rw[←hW];exact(SB.new2 w _ _ _ _).alloc _)
 have HM0:Hid (W.heap[w.heap.size+2]?=some (.map #[] 0)):=Hi (by
  rw[←hW]
  have:=(Go.MapKept.heap_alloc ((w.alloc (.cells #[.slice a1 n c1,.slice a2 m c2,.slice a3 hs.length c3] 54)).alloc (.cells #[.int .i64 0,.int .i64 0] 57)) (.map #[] 0)).1
  simpa using this)
 have k2:W.cell? ⟨w.heap.size,2,none⟩=some (.slice a3 hs.length c3):=HS0.out.cell 2
 rw[←hW] at k2
 have HW:=Hi hW
 have hmake:∀v:World,(Instr.makeMap 240 none).run Tryz.prog v=.ok (.map (some v.heap.size)) (v.alloc (.map #[] 0)):=fun v=>rfl
 clear hW
 go_wp2_with fail
 rw[HW.out]
 clear k2 hmake
 obtain⟨r,hr⟩:∃r,w.heap.size+1+1=r:=⟨_,rfl⟩
 have hr0:w.heap.size+1<r:=by omega
 have HM1:Hid (W.heap[r]?=some (.map #[] 0)):=Hi (by rw[←hr];exact HM0.out)
 rw[hr]
 clear hr HM0
 go_loopw [14] (fun iv wr=>∃(k:Nat) (es:Array MapEntry) (clock:Nat),k≤hs.length∧iv=.int .i64 k∧(∀i x,i<k→hs[i]?=some x→holdAt n hs i x=0)∧PairSet es (places (hs.take k))∧wr.heap[r]?=some (.map es clock)∧Only r W wr) (fun iv _=>hs.length - (intOf iv).toNat)
 case atStart=>exact⟨0,#[],0,by omega,rfl,fun i x hi=>by omega,rfl,HM1.out,Only.refl _ _⟩
 case round=>
  obtain⟨k,es,clock,hk,rfl,hall,hps,hmap,ho⟩:=hrel
  have HALL:=Hi hall
  have HPS:=Hi hps
  have HMAP:=Hi hmap
  have HO:=Hi ho
  have HBW:Hid (Below w.heap.size w wr):=Hi (HB0.out.trans (ho.below (by omega) HB0.out.size))
  have hrl:r<wr.heap.size:=by
   rcases Nat.lt_or_ge r wr.heap.size with h|h
   · exact h
   · rw[Array.getElem?_eq_none h] at hmap
     cases hmap
  clear hall hps hmap ho
  by_cases hlt:k<hs.length
  ·
   obtain⟨f,hf⟩:∃f,hs[k]?=some f:=⟨hs[k],List.getElem?_eq_getElem hlt⟩
   obtain⟨fb,off,rfl,hfb,d0,d1,d2⟩:=(HH.out.below HBW.out).hold hf
   have HFK:=Hi hf
   obtain⟨V,hV⟩:∃V,(wr.alloc (.cells #[.int .i64 f.j,.int .i64 f.w,.string f.q] 71)).alloc (.cells #[.int .i64 f.j,.int .i64 f.w] 120)=V:=⟨_,rfl⟩
   have hbV:Below wr.heap.size wr V:=by rw[←hV];exact Below.new2 wr _ _
   have hVm:V.heap[r]?=some (.map es clock):=(hbV.block r hrl).trans HMAP.out
   have hlook:(Instr.lookup 240 (.map (some r)) (.agg #[.int .i64 f.j,.int .i64 f.w]) true).run Tryz.prog V=.ok (.tuple #[.agg #[],.bool (decide ((f.j,f.w)∈ places (hs.take k)))]) V:=run_lookup_pair r clock es _ (f.j,f.w) V hVm HPS.out
   obtain⟨tw,htw⟩:∃tw,decide ((f.j,f.w)∈ places (hs.take k))=tw:=⟨_,rfl⟩
   rw[htw,←hV] at hlook
   have HTW:=Hi htw
   have HV:=Hi hV
   have HBV:=Hi hbV
   have q1:((k:Int)<(hs.length:Int)):=by omega
   obtain⟨V3,hV3⟩:∃V3,V.alloc (.cells #[] 241)=V3:=⟨_,rfl⟩
   have hb3:Below wr.heap.size wr V3:=by rw[←hV3];exact hbV.alloc hbV.size _
   have HB3:=Hi hb3
   have hs0:=(HS0.out.only HO.out (by omega)).below hb3 (HS0.out.only HO.out (by omega)).lt
   have k0:V3.cell? ⟨w.heap.size,0,none⟩=some (.slice a1 n c1):=hs0.cell 0
   have k1:V3.cell? ⟨w.heap.size,1,none⟩=some (.slice a2 m c2):=hs0.cell 1
   rw[←hV3,←hV] at k0 k1
   have HV3:=Hi hV3
   clear hf htw hV hbV hVm hV3 hb3 hs0
   go_wp2_with fail
   rw[HV.out,HV3.out]
   clear k0 k1 hlook d0 d1 d2
   obtain⟨cd,hcd⟩:∃cd,holdC n f.j f.w tw=cd:=⟨_,rfl⟩
   have HCH:=Hi (Qoa a1 n c1 f.j f.w f.q tw V3)
   rw[hcd] at HCH
   have HCD:Hid (holdAt n hs k f=cd):=Hi (by unfold holdAt;rw[HTW.out];exact hcd)
   clear hcd
   go_fit HCH.out
   rintro e w4 ⟨rfl,hb4⟩
   have HB4:=Hi (HB3.out.trans (hb4.mono HB3.out.size))
   have HB43:=Hi hb4
   have HO4:Hid (Only r W w4):=Hi (HO.out.trans (Only.of_below HB4.out))
   have HM4:Hid (w4.heap[r]?=some (.map es clock)):=Hi ((HB4.out.block r hrl).trans HMAP.out)
   have hs0:=HS0.out.only HO4.out (by omega)
   have hs1:=HS1.out.only HO4.out (by omega)
   have k1:w4.cell? ⟨w.heap.size,1,none⟩=some (.slice a2 m c2):=hs0.cell 1
   have z0:w4.cell? ⟨w.heap.size+1,0,none⟩=some (.int .i64 0):=hs1.cell 0
   have z1:w4.cell? ⟨w.heap.size+1,1,none⟩=some (.int .i64 0):=hs1.cell 1
   have f0:=hs1.free 0
   have f1:=hs1.free 1
   have HS4:=Hi hs1
   clear hs0 hs1 hb4
   by_cases hcd:cd=0
   ·
    subst hcd
    have htf:tw=false:=by
     cases tw with
     |false=>rfl
     |true=>
      exfalso
      have h:=HCD.out
      unfold holdAt holdC at h
      rw[HTW.out] at h
      split at h
      ·
       split at h
       · simp at h
       · simp at h
      · simp at h
    have hnot:(f.j,f.w) ∉ places (hs.take k):=of_decide_eq_false (HTW.out.trans htf)
    have hupd:(Instr.mapUpdate 240 (.map (some r)) (.agg #[.int .i64 f.j,.int .i64 f.w]) (.agg #[])).run Tryz.prog w4=.ok () { w4 with heap:=w4.heap.setIfInBounds r (.map (es.push { key:=.agg #[.int .i64 f.j,.int .i64 f.w],val:=.agg #[],born:=clock }) (clock+1)) }:=run_mapUpdate_pair r clock es _ (f.j,f.w) w4 HM4.out HPS.out hnot
    obtain⟨w5,hw5⟩:∃w5,({ w4 with heap:=w4.heap.setIfInBounds r (.map (es.push { key:=.agg #[.int .i64 f.j,.int .i64 f.w],val:=.agg #[],born:=clock }) (clock+1)) }:World)=w5:=⟨_,rfl⟩
    have HO5:Hid (Only r W w5):=Hi (by rw[←hw5];exact HO4.out.trans (Only.map _))
    have HM5:Hid (w5.heap[r]?=some (.map (es.push { key:=.agg #[.int .i64 f.j,.int .i64 f.w],val:=.agg #[],born:=clock }) (clock+1))):=Hi (by rw[←hw5];exact map_same (by have:=HB4.out.size;omega))
    rw[hw5] at hupd
    have hv:=(HV.out ▸ SB.new2 wr 71 120 #[.int .i64 f.j,.int .i64 f.w,.string f.q] #[.int .i64 f.j,.int .i64 f.w]:SB V (wr.heap.size+1) 120 #[.int .i64 f.j,.int .i64 f.w])
    have hb34:Below V.heap.size V w4:=by
     have h1:Below V.heap.size V V3:=by rw[←HV3.out];exact(Below.refl _ _).alloc (Nat.le_refl _) _
     exact h1.trans (HB43.out.mono h1.size)
    have hv4:=hv.below hb34 hv.lt
    have p0:w4.cell? ⟨wr.heap.size+1,0,none⟩=some (.int .i64 f.j):=hv4.cell 0
    have p1:w4.cell? ⟨wr.heap.size+1,1,none⟩=some (.int .i64 f.w):=hv4.cell 1
    clear htf hw5 hnot hv hv4 hb34
    go_wp2
    go_roundw
    case rel=>
     refine⟨k+1,_,_,by omega,by go_num,?_,?_,HM5.out,HO5.out⟩
     ·
      intro i x hi hx
      rcases Nat.lt_or_ge i k with h|h
      · exact HALL.out i x h hx
      ·
       obtain rfl:i=k:=by omega
       obtain rfl:=Option.some.inj (HFK.out.symm.trans hx)
       exact HCD.out
     · rw[Qob HFK.out]
       exact HPS.out.push (p:=(f.j,f.w)) (b:=clock)
    case measure=>simp[intOf];omega
   ·
    have e0:(cd != 0)=true:=by simpa using hcd
    go_wp2
    have HBF:=Hi (HB0.out.trans (HO4.out.below (by omega) HB0.out.size))
    refine bodyPost_ret (v:=.agg #[.int .i64 cd,.int .i64 ((m:Int)+(k:Int))]) (results_cell_row rfl _ _ (w.heap.size+1) 57 #[.int .i64 cd,.int .i64 ((m:Int)+(k:Int))] (0,0) _ rfl ((HS4.out.set 0 _).set 1 _) Tryz.underlying57 rfl Tryz.faultInfo) rfl ?_
    exact⟨cd,_,rfl,.inl ⟨k,f,HFK.out,HALL.out,HCD.out,hcd,rfl⟩,(HBF.out.setCell (Nat.le_succ _) _).setCell (Nat.le_succ _) _⟩
  ·
   have hk':k=hs.length:=by omega
   subst hk'
   have hs1:=HS1.out.only HO.out (by omega)
   have z0:wr.cell? ⟨w.heap.size+1,0,none⟩=some (.int .i64 0):=hs1.cell 0
   have z1:wr.cell? ⟨w.heap.size+1,1,none⟩=some (.int .i64 0):=hs1.cell 1
   have f0:=hs1.free 0
   have f1:=hs1.free 1
   have HS4:=Hi hs1
   clear hs1
   go_wp2
   refine bodyPost_ret (v:=.agg #[.int .i64 0,.int .i64 0]) (results_cell_row rfl _ _ (w.heap.size+1) 57 #[.int .i64 0,.int .i64 0] (0,0) _ rfl ((HS4.out.set 0 _).set 1 _) Tryz.underlying57 rfl Tryz.faultInfo) rfl ?_
   refine⟨0,0,rfl,.inr ⟨fun i x hx=>HALL.out i x (List.getElem?_eq_some_iff.1 hx).1 hx,rfl,rfl⟩,(HBW.out.setCell (Nat.le_succ _) _).setCell (Nat.le_succ _) _⟩
end Go.Proofs.YtjhdfkcdigmfhaaGreatDoor
