/- package pebble: whether a graph is right. -/
import Derived.Test.YtbbkamnfjejceaaGreatDoorP42PebM
import Derived.WideKeyRuns
namespace Go.Proofs.YtbbkamnfjejceaaGreatDoor.Peb
open Go.RowKit Go.MapKept
set_option linter.unusedVariables false
set_option linter.unusedSimpArgs false
structure ERow (w:World) (a:Option Addr) (cap:Nat) (es:List (Int × Int)):Prop where
 fit:es.length≤cap
 cell:∀i e,es[i]?=some e→∃b off,a=some ⟨b,off,none⟩∧b<w.heap.size∧w.cell? ⟨b,off+i*2,none⟩=some (.int .i64 e.1)∧w.cell? ⟨b,off+i*2+1,none⟩=some (.int .i64 e.2)
theorem ERow.below{w w':World}{a:Option Addr}{cap:Nat}{es:List (Int × Int)}(h:ERow w a cap es)(hb:Below w.heap.size w w'):ERow w' a cap es:=by
 refine⟨h.fit,fun i e hi=>?_⟩;obtain⟨b,off,h1,h2,h3,h4⟩:=h.cell i e hi;exact⟨b,off,h1,Nat.lt_of_lt_of_le h2 hb.size,(hb.cell (p:=⟨b,off+i*2,none⟩) h2).trans h3,(hb.cell (p:=⟨b,off+i*2+1,none⟩) h2).trans h4⟩
theorem SB.new2(w:World)(t1 t2:TypeId)(C D:Array Value):SB ((w.alloc (.cells C t1)).alloc (.cells D t2)) (w.heap.size+1) t2 D:=by
 have:=SB.new (w.alloc (.cells C t1)) t2 D;rw[World.size_alloc] at this;exact this
theorem Qmn(n p:Int)(h0:0≤p)(h1:p<n)(w:World):Calls Tryz.prog 139 #[.int .i64 n,.int .i64 p] w fun e w'=>e=.returned (.bool true)∧w'=w:=by
 go_enter Tryz.func139,Tryz.ntmps139;go_wp2;go_ret;exact⟨rfl,rfl⟩
theorem Qmo(n p:Int)(h0:p<0)(w:World):Calls Tryz.prog 139 #[.int .i64 n,.int .i64 p] w fun e w'=>e=.returned (.bool false)∧w'=w:=by
 go_enter Tryz.func139,Tryz.ntmps139;go_wp2;go_ret;exact⟨rfl,rfl⟩
theorem Qmp(n p:Int)(h0:0≤p)(h1:n≤p)(w:World):Calls Tryz.prog 139 #[.int .i64 n,.int .i64 p] w fun e w'=>e=.returned (.bool false)∧w'=w:=by
 go_enter Tryz.func139,Tryz.ntmps139;go_wp2;go_ret;exact⟨by simp;omega,rfl⟩
theorem Qgz(n p:Int)(w:World):Calls Tryz.prog 139 #[.int .i64 n,.int .i64 p] w fun e w'=>e=.returned (.bool (decide (0≤p∧p<n)))∧w'=w:=by
 by_cases h0:0≤p
 ·
  by_cases h1:p<n
  · rw[decide_eq_true (show 0≤p∧p<n from ⟨h0,h1⟩)]
    exact Qmn n p h0 h1 w
  · rw[decide_eq_false (show ¬(0≤p∧p<n) from fun h=>h1 h.2)]
    exact Qmp n p h0 (by omega) w
 · rw[decide_eq_false (show ¬(0≤p∧p<n) from fun h=>h0 h.1)]
   exact Qmo n p (by omega) w
def lesser(e:Int × Int):Int × Int:=(min e.1 e.2,max e.1 e.2)
theorem Qmq:(Tryz.prog.info? 69).map (·.size)=some 2:=by kernel_rfl
theorem Qmr(x y:Int)(w:World):Calls Tryz.prog 140 #[.agg #[.int .i64 x,.int .i64 y]] w fun e w'=>e=.returned (.agg #[.int .i64 (min x y),.int .i64 (max x y)])∧Below w.heap.size w w':=by
 go_enter Tryz.func140,Tryz.ntmps140;go_wp2
 all_goals
  refine bodyPost_ret (results_cell_row rfl _ _ (w.heap.size+1) 69 _ (0,0) _ rfl (SB.new2 w _ _ _ _) Tryz.underlying69 rfl Qmq) rfl ?_;refine⟨?_,Below.new2 w _ _⟩
  first
   |rw[show min x y=x by omega,show max x y=x by omega]
   |rw[show min x y=y by omega,show max x y=x by omega]
   |rw[show min x y=x by omega,show max x y=y by omega]
abbrev pairV(p:Int × Int):Value:=.agg #[.int .i64 p.1,.int .i64 p.2]
theorem plainInt:Tryz.prog.plainKey 3=true:=by kernel_rfl
theorem cellsInt:Tryz.prog.cellsOf 3=1:=by kernel_rfl
theorem run_checkKey_pair'(b:Bool)(n:Nat)(p:Int × Int)(w:World):(Instr.checkKey b (n+2) 69 (pairV p)).run Tryz.prog w=.ok () w:=by
 obtain⟨i,hi,h⟩:=Option.map_eq_some_iff.1 infoInt;simp only[Prod.mk.injEq] at h;obtain⟨hz,hs,hb⟩:=h;have hstep:∀(v:Int) (w:World),(Instr.checkKey b (n+1) 3 (.int .i64 v)).run Tryz.prog w=.ok () w:=fun v w=>Go.MapKept.run_checkKey (k:=.int .i64 v) Tryz.underlying3 (by simp[IsKey]) b n
 have hpart:∀(j:Nat) (v:Value) (w:World),#[Value.int .i64 p.1,.int .i64 p.2][j]?=some v→(part 3 #[.int .i64 p.1,.int .i64 p.2] j).run Tryz.prog w=.ok v w:=fun j v w hj=>run_part_plain w plainInt hj
 simp only[Instr.checkKey,Sem.run_bind,run_underlying Tryz.underlying69,Result.andThen_ok];simp only[Std.Legacy.Range.forIn_eq_forIn_range',Std.Legacy.Range.size];simp[List.range',run_sizeOf _ hi,hs,hstep,cellsInt,hpart 0 _ _ rfl,hpart 1 _ _ rfl]
theorem run_checkKey_pair(b:Bool)(p:Int × Int)(w:World):(Instr.checkKey b 10000 69 (pairV p)).run Tryz.prog w=.ok () w:=run_checkKey_pair' b 9998 p w
theorem run_equalIn_pair(n:Nat)(p q:Int × Int)(w:World):(Op.equalIn (n+2) 69 (pairV p) (pairV q)).run Tryz.prog w=.ok (decide (p=q)) w:=by
 obtain⟨i,hi,h⟩:=Option.map_eq_some_iff.1 infoInt;rw[run_equalIn_array w (n+1) _ _ Tryz.underlying69 hi];have hpart:∀(r:Int × Int) (j:Nat) (v:Value) (w:World),#[Value.int .i64 r.1,.int .i64 r.2][j]?=some v→(part 3 #[.int .i64 r.1,.int .i64 r.2] j).run Tryz.prog w=.ok v w:=fun r j v w hj=>run_part_plain w plainInt hj
 have hint:∀(x y:Int) (w:World),(Op.equalIn (n+1) 3 (.int .i64 x) (.int .i64 y)).run Tryz.prog w=.ok (x == y) w:=by
  intro x y w;simp[Op.equalIn,run_underlying Tryz.underlying3]
 simp[List.range,List.range.loop,Op.eqItems,cellsInt,hpart p 0 _ _ rfl,hpart p 1 _ _ rfl,hpart q 0 _ _ rfl,hpart q 1 _ _ rfl,hint];obtain⟨p1,p2⟩:=p;obtain⟨q1,q2⟩:=q;by_cases h1:p1=q1
 ·
  by_cases h2:p2=q2
  · simp[h1,h2]
  · simp[h1,h2]
 · simp[h1]
theorem run_equal_pair(p q:Int × Int)(w:World):(Op.equal 69 (pairV p) (pairV q)).run Tryz.prog w=.ok (decide (p=q)) w:=run_equalIn_pair 9998 p q w
def PairMap(es:Array MapEntry)(ps:List (Int × Int)):Prop:=es.toList.map (fun e=>e.key)=ps.map pairV∧∀e∈ es.toList,∃x:Int,e.val=.int .i64 x
theorem run_findAsking_pair(p:Int × Int)(w:World):∀(es:List MapEntry) (ps:List (Int × Int)) (k:Nat),es.map (fun e=>e.key)=ps.map pairV→(∀e∈ es,∃x:Int,e.val=.int .i64 x)→
 ∃r:Option (Nat × Value),(Instr.findAsking 69 (pairV p) es k).run Tryz.prog w=.ok r w∧(p∈ ps→∃j x,r=some (j,.int .i64 x))∧(p ∉ ps→r=none)
 | [],ps,k,h,_=>by
   have:ps= []:=by simpa using h.symm
   subst this;exact⟨none,by simp[Instr.findAsking],by simp,fun _=>rfl⟩
 |e :: es,[],k,h,_=>by simp at h
 |e :: es,q :: ps,k,h,hv=>by
  simp only[List.map_cons,List.cons.injEq] at h;obtain⟨hk,ht⟩:=h;obtain⟨x,hx⟩:=hv e List.mem_cons_self;by_cases hpq:p=q
  · exact⟨some (k,.int .i64 x),by simp[Instr.findAsking,hk,hx,run_equal_pair,hpq],fun _=>⟨k,x,rfl⟩,fun hn=>absurd (by simp[hpq]) hn⟩
  ·
   obtain⟨r,h1,h2,h3⟩:=run_findAsking_pair p w es ps (k+1) ht (fun d hd=>hv d (List.mem_cons_of_mem _ hd));refine⟨r,?_,fun hm=>h2 ?_,fun hn=>h3 ?_⟩
   · simp only[Instr.findAsking,hk,Sem.run_bind,run_equal_pair,Result.andThen_ok,hpq,decide_false]
     simpa using h1
   ·
    rcases List.mem_cons.1 hm with h|h
    · exact absurd h hpq
    · exact h
   · intro hm
     exact hn (List.mem_cons_of_mem _ hm)
theorem Qms:∀w,(zeroValue 3).run Tryz.prog w=.ok (.int .i64 0) w:=by
 intro w;obtain⟨i,hi,h⟩:=Option.map_eq_some_iff.1 infoInt;simp only[Prod.mk.injEq] at h;simp[zeroValue,typeInfo,hi,h.1]
theorem run_lookup_pair(r clock:Nat)(es:Array MapEntry)(ps:List (Int × Int))(p:Int × Int)(w:World)(hb:w.heap[r]?=some (.map es clock))(hs:PairMap es ps):
 ∃x:Int,(Instr.lookup 189 (.map (some r)) (pairV p) true).run Tryz.prog w=.ok (.tuple #[.int .i64 x,.bool (decide (p∈ ps))]) w:=by
 obtain⟨x,h1,h2,h3⟩:=run_findAsking_pair p w es.toList ps 0 hs.1 hs.2;have hf:(Instr.findKey 69 (pairV p) es.toList).run Tryz.prog w=.ok x w:=by
  rw[run_findKey_eq w (by rw[Tryz.underlying69])];exact h1
 by_cases hm:p∈ ps
 · obtain⟨j,y,rfl⟩:=h2 hm
   exact⟨y,by simp[Instr.lookup,run_underlying Tryz.underlying189,Go.MapKept.run_getObj_map hb,run_checkKey_pair,hf,hm]⟩
 · obtain rfl:=h3 hm
   exact⟨0,by simp[Instr.lookup,run_underlying Tryz.underlying189,Go.MapKept.run_getObj_map hb,run_checkKey_pair,hf,hm,Qms]⟩
theorem run_mapUpdate_pair(r clock:Nat)(es:Array MapEntry)(ps:List (Int × Int))(p:Int × Int)(v:Value)(w:World)(hb:w.heap[r]?=some (.map es clock))(hs:PairMap es ps)(hn:p ∉ ps):
 (Instr.mapUpdate 189 (.map (some r)) (pairV p) v).run Tryz.prog w=.ok () { w with heap:=w.heap.setIfInBounds r (.map (es.push { key:=pairV p,val:=v,born:=clock }) (clock+1)) }:=by
 obtain⟨x,h1,h2,h3⟩:=run_findAsking_pair p w es.toList ps 0 hs.1 hs.2;have hf:(Instr.findKey 69 (pairV p) es.toList).run Tryz.prog w=.ok x w:=by
  rw[run_findKey_eq w (by rw[Tryz.underlying69])];exact h1
 obtain rfl:=h3 hn;simp[Instr.mapUpdate,run_underlying Tryz.underlying189,Go.MapKept.run_getObj_map hb,run_checkKey_pair,hf,Go.MapKept.run_setObj_map _ hb,Result.andThen]
theorem PairMap.push{es:Array MapEntry}{ps:List (Int × Int)}{p:Int × Int}{b:Nat}{x:Int}(h:PairMap es ps):PairMap (es.push { key:=pairV p,val:=.int .i64 x,born:=b }) (ps++ [p]):=by
 refine⟨?_,fun e he=>?_⟩
 · rw[Array.toList_push,List.map_append,h.1,List.map_append]
   rfl
 ·
  simp only[Array.toList_push,List.mem_append,List.mem_singleton] at he;rcases he with he|rfl
  · exact h.2 e he
  · exact⟨x,rfl⟩
def edgeC(n:Int)(es:List (Int × Int))(k:Nat)(e:Int × Int):Int:=
 if (0≤e.1∧e.1<n)∧(0≤e.2∧e.2<n)∧e.1≠e.2 then (if lesser e∈ (es.take k).map lesser then 7 else 0) else 4
def ChkSays(n:Int)(es:List (Int × Int))(c at_:Int):Prop:=
 ((n<1∨10<n∨45<es.length)∧c=2∧at_=0)∨
 (1≤n∧n≤10∧es.length≤45∧((∃k e,es[k]?=some e∧(∀i x,i<k→es[i]?=some x→edgeC n es i x=0)∧edgeC n es k e=c∧c≠0∧at_=k)∨
 ((∀i x,es[i]?=some x→edgeC n es i x=0)∧c=0∧at_=0)))
theorem Qmt{es:List (Int × Int)}{k:Nat}{h:Int × Int}(hk:es[k]?=some h):(es.take (k+1)).map lesser=(es.take k).map lesser++ [lesser h]:=by
 rw[List.take_add_one,hk];simp
theorem faultInfo:(Tryz.prog.info? 57).map (·.size)=some 2:=by kernel_rfl
set_option maxRecDepth 100000 in
set_option maxHeartbeats 4000000 in
theorem Qg0(n:Int)(a:Option Addr)(cap:Nat)(es:List (Int × Int))(w:World)(he:ERow w a cap es)(hlen:es.length≤maxLen):
 Calls Tryz.prog 78 #[.int .i64 n,.slice a es.length cap] w fun e w'=>∃c at_,e=.returned (.agg #[.int .i64 c,.int .i64 at_])∧ChkSays n es c at_∧Below w.heap.size w w':=by
 have HE:=Hi he;obtain⟨W,hW⟩:∃W,w.alloc (.cells #[.int .i64 0,.int .i64 0] 57)=W:=⟨_,rfl⟩;have HB0:Hid (Below w.heap.size w W):=Hi (by rw[←hW];exact(Below.refl _ _).alloc (Nat.le_refl _) _);have HS0:Hid (SB W w.heap.size 57 #[.int .i64 0,.int .i64 0]):=Hi (by rw[←hW];exact SB.new w _ _);have hlen':es.length≤9223372036854775807:=by simpa [maxLen] using hlen
 clear he hlen;by_cases hbad:n<1∨10<n∨45<es.length
 ·
  have HBAD:=Hi hbad;clear hW;by_cases h1:n<1
  ·
   clear hbad;go_enter Tryz.func78,Tryz.ntmps78;go_wp2;refine bodyPost_ret (v:=.agg #[.int .i64 2,.int .i64 0]) (results_cell_row rfl _ _ w.heap.size 57 #[.int .i64 2,.int .i64 0] (0,0) _ rfl (SB.new w _ _) Tryz.underlying57 rfl faultInfo) rfl ?_;exact⟨2,0,rfl,Or.inl ⟨HBAD.out,rfl,rfl⟩,(Below.refl _ _).alloc (Nat.le_refl _) _⟩
  ·
   by_cases h2:10<n
   ·
    clear hbad;go_enter Tryz.func78,Tryz.ntmps78;go_wp2;refine bodyPost_ret (v:=.agg #[.int .i64 2,.int .i64 0]) (results_cell_row rfl _ _ w.heap.size 57 #[.int .i64 2,.int .i64 0] (0,0) _ rfl (SB.new w _ _) Tryz.underlying57 rfl faultInfo) rfl ?_;exact⟨2,0,rfl,Or.inl ⟨HBAD.out,rfl,rfl⟩,(Below.refl _ _).alloc (Nat.le_refl _) _⟩
   ·
    have h3:(45:Int)<(es.length:Int):=by omega
    clear hbad;go_enter Tryz.func78,Tryz.ntmps78;go_wp2;refine bodyPost_ret (v:=.agg #[.int .i64 2,.int .i64 0]) (results_cell_row rfl _ _ w.heap.size 57 #[.int .i64 2,.int .i64 0] (0,0) _ rfl (SB.new w _ _) Tryz.underlying57 rfl faultInfo) rfl ?_;exact⟨2,0,rfl,Or.inl ⟨HBAD.out,rfl,rfl⟩,(Below.refl _ _).alloc (Nat.le_refl _) _⟩
 ·
  have h1:1≤n:=by omega
  have h2:n≤10:=by omega
  have h3:(es.length:Int)≤45:=by omega
  have H3:Hid (es.length≤45):=Hi (by omega);have H1:=Hi h1;have H2:=Hi h2;clear hbad;obtain⟨V,hV⟩:∃V,W.alloc (.map #[] 0)=V:=⟨_,rfl⟩;have HBV:Hid (Below w.heap.size w V):=Hi (by rw[←hV];exact HB0.out.alloc HB0.out.size _);have HSV:Hid (SB V w.heap.size 57 #[.int .i64 0,.int .i64 0]):=Hi (by rw[←hV];exact HS0.out.alloc _);have hWs:W.heap.size=w.heap.size+1:=by rw[←hW,World.size_alloc]
  have HMV:Hid (V.heap[w.heap.size+1]?=some (.map #[] 0)):=Hi (by rw[←hV,←hWs];exact(Go.MapKept.heap_alloc W (.map #[] 0)).1);have hmake:∀v:World,(Instr.makeMap 189 none).run Tryz.prog v=.ok (.map (some v.heap.size)) (v.alloc (.map #[] 0)):=fun v=>rfl
  have HV:Hid ((w.alloc (.cells #[.int .i64 0,.int .i64 0] 57)).alloc (.map #[] 0)=V):=Hi (by rw[hW];exact hV);clear hW hV hWs;go_enter Tryz.func78,Tryz.ntmps78;go_wp2_with fail;rw[HV.out];clear hmake h1 h2 h3 hlen';rename_i hcond K0 hK0;clear hcond;obtain⟨s,hs⟩:∃s,s=w.heap.size:=⟨_,rfl⟩;obtain⟨r,hr⟩:∃r,w.heap.size+1=r:=⟨_,rfl⟩;have hrs:s≠r:=by omega
  rw[←hs] at HSV ⊢;rw[hr] at HMV;have hr':s+1=r:=by omega
  rw[hr'];have HS:=Hi hs;have HR:=Hi hr;clear hs hr hr';go_loopw [26] (fun iv wr=>∃(k:Nat) (ms:Array MapEntry) (clock:Nat),k≤es.length∧iv=.int .i64 k∧(∀i x,i<k→es[i]?=some x→edgeC n es i x=0)∧PairMap ms ((es.take k).map lesser)∧wr.heap[r]?=some (.map ms clock)∧SB wr s 57 #[.int .i64 0,.int .i64 0]∧Below w.heap.size w wr) (fun iv _=>es.length - (intOf iv).toNat)
  case atStart=>exact⟨0,#[],0,by omega,rfl,fun i x hi=>by omega,⟨rfl,by simp⟩,HMV.out,HSV.out,HBV.out⟩
  case round=>
   obtain⟨k,ms,clock,hk,rfl,hall,hps,hmap,hsb,hbw⟩:=hrel;have HALL:=Hi hall;have HPS:=Hi hps;have HMAP:=Hi hmap;have HSW:=Hi hsb;have HBW:=Hi hbw;have hrl:r<wr.heap.size:=(Array.getElem?_eq_some_iff.1 hmap).1;clear hall hps hmap hsb hbw;by_cases hlt:k<es.length
   ·
    obtain⟨f,hf⟩:∃f,es[k]?=some f:=⟨es[k],List.getElem?_eq_getElem hlt⟩;obtain⟨fb,off,rfl,hfb,d0,d1⟩:=(HE.out.below HBW.out).cell k f hf;have HFK:=Hi hf;obtain⟨V1,hV1⟩:∃V1,wr.alloc (.cells #[.int .i64 f.1,.int .i64 f.2] 69)=V1:=⟨_,rfl⟩;have hb1:Below wr.heap.size wr V1:=by rw[←hV1];exact(Below.refl _ _).alloc (Nat.le_refl _) _
    have HB1:=Hi hb1;have HBV1:=Hi (HBW.out.trans (hb1.mono HBW.out.size));have HS1:=Hi (HSW.out.below hb1 HSW.out.lt);have HM1:Hid (V1.heap[r]?=some (.map ms clock)):=Hi ((hb1.block r hrl).trans HMAP.out);have HP1:Hid (SB V1 wr.heap.size 69 #[.int .i64 f.1,.int .i64 f.2]):=Hi (by rw[←hV1];exact SB.new wr _ _);have HV1:=Hi hV1;have q1:((k:Int)<(es.length:Int)):=by omega
    have p0:V1.cell? ⟨wr.heap.size,0,none⟩=some (.int .i64 f.1):=HP1.out.cell 0;have p1:V1.cell? ⟨wr.heap.size,1,none⟩=some (.int .i64 f.2):=HP1.out.cell 1;have HX:=Hi (Qgz n f.1 V1);have HY:=Hi (Qgz n f.2 V1);rw[←hV1] at p0 p1;clear hf hV1 hb1;by_cases h1:0≤f.1∧f.1<n
    ·
     rw[decide_eq_true h1] at HX;by_cases h2:0≤f.2∧f.2<n
     ·
      rw[decide_eq_true h2] at HY;by_cases h3:f.1=f.2
      ·
       have HCD:Hid (edgeC n es k f=4):=Hi (by unfold edgeC;rw[if_neg (fun hc=>hc.2.2 h3)]);have e3:(f.1 == f.2)=true:=by simpa using h3
       clear h1 h2 h3;go_wp2_with fail;rw[HV1.out] at*;go_fit HX.out;rintro e w4 ⟨rfl,rfl⟩;go_wp2_with fail;go_fit HY.out;rintro e w4 ⟨rfl,rfl⟩;have z0:w4.cell? ⟨s,0,none⟩=some (.int .i64 0):=HS1.out.cell 0;have z1:w4.cell? ⟨s,1,none⟩=some (.int .i64 0):=HS1.out.cell 1;have f0:w4.frozen? ⟨s,0,none⟩=false:=HS1.out.free 0;have f1:w4.frozen? ⟨s,1,none⟩=false:=HS1.out.free 1;go_wp2;refine bodyPost_ret (v:=.agg #[.int .i64 4,.int .i64 (k:Int)]) (results_cell_row rfl _ _ s 57 #[.int .i64 4,.int .i64 (k:Int)] (0,0) _ rfl ((HS1.out.set 0 _).set 1 _) Tryz.underlying57 rfl faultInfo) rfl ?_;exact⟨4,_,rfl,Or.inr ⟨H1.out,H2.out,H3.out,Or.inl ⟨k,f,HFK.out,HALL.out,HCD.out,by decide,rfl⟩⟩,(HBV1.out.setCell (by rw[HS.out];exact Nat.le_refl _) _).setCell (by rw[HS.out];exact Nat.le_refl _) _⟩
      ·
       have e3:(f.1 == f.2)=false:=by simpa using h3
       have HGOOD:Hid ((0≤f.1∧f.1<n)∧(0≤f.2∧f.2<n)∧f.1≠f.2):=Hi ⟨h1,h2,h3⟩;clear h1 h2 h3;go_wp2_with fail;rw[HV1.out] at*;go_fit HX.out;rintro e w4 ⟨rfl,rfl⟩;go_wp2_with fail;go_fit HY.out;rintro e w4 ⟨rfl,rfl⟩;have HL:=Hi (Qmr f.1 f.2 w4);go_wp2_with fail;go_fit HL.out;rintro e w5 ⟨rfl,hb5⟩;obtain⟨V2,hV2⟩:∃V2,w5.alloc (.cells #[.int .i64 (min f.1 f.2),.int .i64 (max f.1 f.2)] 69)=V2:=⟨_,rfl⟩;have hb2:Below w4.heap.size w4 V2:=by rw[←hV2];exact hb5.alloc hb5.size _
       have HB2:=Hi (HB1.out.trans (hb2.mono HB1.out.size));have HBV2:=Hi (HBW.out.trans (HB2.out.mono HBW.out.size));have HS2:=Hi (HSW.out.below HB2.out HSW.out.lt);have HM2:Hid (V2.heap[r]?=some (.map ms clock)):=Hi ((HB2.out.block r hrl).trans HMAP.out);have hp2:SB V2 w5.heap.size 69 #[.int .i64 (min f.1 f.2),.int .i64 (max f.1 f.2)]:=by rw[←hV2];exact SB.new w5 _ _
       have HPP:=Hi hp2;obtain⟨lx,hlook⟩:=run_lookup_pair r clock ms ((es.take k).map lesser) (lesser f) V2 HM2.out HPS.out;have hlook':(Instr.lookup 189 (.map (some r)) (.agg #[.int .i64 (min f.1 f.2),.int .i64 (max f.1 f.2)]) true).run Tryz.prog V2=.ok (.tuple #[.int .i64 lx,.bool (decide (lesser f∈ (es.take k).map lesser))]) V2:=hlook;have m0:V2.cell? ⟨w5.heap.size,0,none⟩=some (.int .i64 (min f.1 f.2)):=hp2.cell 0;have m1:V2.cell? ⟨w5.heap.size,1,none⟩=some (.int .i64 (max f.1 f.2)):=hp2.cell 1;have HV2:=Hi hV2;obtain⟨tw,htw⟩:∃tw,decide (lesser f∈ (es.take k).map lesser)=tw:=⟨_,rfl⟩;rw[htw] at hlook';have HTW:=Hi htw;have HL5:=Hi hlook';clear hV2 hb2 hp2 hlook htw hb5 d0 d1 p0 p1 hlook';obtain⟨mn,hmn⟩:∃mn,mn=min f.1 f.2:=⟨_,rfl⟩;obtain⟨mx,hmx⟩:∃mx,mx=max f.1 f.2:=⟨_,rfl⟩;have hlk:=HL5.out;have hv2:=HV2.out;rw[←hmn] at m0;rw[←hmx] at m1;rw[←hmn,←hmx] at hlk hv2 ⊢;have HMN:=Hi hmn
       have HMX:=Hi hmx;clear hmn hmx;cases tw with
       |true=>
        have HCD:Hid (edgeC n es k f=7):=Hi (by unfold edgeC;rw[if_pos HGOOD.out,if_pos (of_decide_eq_true HTW.out)]);have z0:V2.cell? ⟨s,0,none⟩=some (.int .i64 0):=HS2.out.cell 0;have z1:V2.cell? ⟨s,1,none⟩=some (.int .i64 0):=HS2.out.cell 1;have f0:V2.frozen? ⟨s,0,none⟩=false:=HS2.out.free 0;have f1:V2.frozen? ⟨s,1,none⟩=false:=HS2.out.free 1;go_wp2;refine bodyPost_ret (v:=.agg #[.int .i64 7,.int .i64 (k:Int)]) (results_cell_row rfl _ _ s 57 #[.int .i64 7,.int .i64 (k:Int)] (0,0) _ rfl ((HS2.out.set 0 _).set 1 _) Tryz.underlying57 rfl faultInfo) rfl ?_;exact⟨7,_,rfl,Or.inr ⟨H1.out,H2.out,H3.out,Or.inl ⟨k,f,HFK.out,HALL.out,HCD.out,by decide,rfl⟩⟩,(HBV2.out.setCell (by rw[HS.out];exact Nat.le_refl _) _).setCell (by rw[HS.out];exact Nat.le_refl _) _⟩
       |false=>
        have hnot:lesser f ∉ (es.take k).map lesser:=of_decide_eq_false HTW.out;have HCD:Hid (edgeC n es k f=0):=Hi (by unfold edgeC;rw[if_pos HGOOD.out,if_neg hnot]);have hupd:(Instr.mapUpdate 189 (.map (some r)) (.agg #[.int .i64 mn,.int .i64 mx]) (.int .i64 (k:Int))).run Tryz.prog V2=.ok () { V2 with heap:=V2.heap.setIfInBounds r (.map (ms.push { key:=pairV (lesser f),val:=.int .i64 (k:Int),born:=clock }) (clock+1)) }:=by rw[HMN.out,HMX.out];exact run_mapUpdate_pair r clock ms _ (lesser f) (.int .i64 (k:Int)) V2 HM2.out HPS.out hnot
        obtain⟨w6,hw6⟩:∃w6,({ V2 with heap:=V2.heap.setIfInBounds r (.map (ms.push { key:=pairV (lesser f),val:=.int .i64 (k:Int),born:=clock }) (clock+1)) }:World)=w6:=⟨_,rfl⟩;have HM6:Hid (w6.heap[r]?=some (.map (ms.push { key:=pairV (lesser f),val:=.int .i64 (k:Int),born:=clock }) (clock+1))):=Hi (by rw[←hw6];exact map_same (by have:=HB2.out.size;omega));have HS6:Hid (SB w6 s 57 #[.int .i64 0,.int .i64 0]):=Hi (by rw[←hw6];exact HS2.out.keep (map_other hrs));have HB6:Hid (Below w.heap.size w w6):=Hi (HBV2.out.trans (by rw[←hw6];exact⟨rfl,rfl,rfl,by simp,fun j hj=>map_other (by have:=HR.out;omega)⟩));rw[hw6] at hupd;clear hw6 hnot;have hl45:es.length≤45:=H3.out;go_wp2;go_roundw
        case rel=>
         refine⟨k+1,_,_,by omega,by go_num,?_,?_,HM6.out,HS6.out,HB6.out⟩
         ·
          intro i x hi hx;rcases Nat.lt_or_ge i k with h|h
          · exact HALL.out i x h hx
          ·
           obtain rfl:i=k:=by omega
           obtain rfl:=Option.some.inj (HFK.out.symm.trans hx);exact HCD.out
         · rw[Qmt HFK.out]
           exact HPS.out.push
        case measure=>simp[intOf];omega
     ·
      rw[decide_eq_false h2] at HY;have HCD:Hid (edgeC n es k f=4):=Hi (by unfold edgeC;rw[if_neg (fun hc=>h2 hc.2.1)]);clear h1 h2;go_wp2_with fail;rw[HV1.out] at*;go_fit HX.out;rintro e w4 ⟨rfl,rfl⟩;go_wp2_with fail;go_fit HY.out;rintro e w4 ⟨rfl,rfl⟩;have z0:w4.cell? ⟨s,0,none⟩=some (.int .i64 0):=HS1.out.cell 0;have z1:w4.cell? ⟨s,1,none⟩=some (.int .i64 0):=HS1.out.cell 1;have f0:w4.frozen? ⟨s,0,none⟩=false:=HS1.out.free 0;have f1:w4.frozen? ⟨s,1,none⟩=false:=HS1.out.free 1;go_wp2;refine bodyPost_ret (v:=.agg #[.int .i64 4,.int .i64 (k:Int)]) (results_cell_row rfl _ _ s 57 #[.int .i64 4,.int .i64 (k:Int)] (0,0) _ rfl ((HS1.out.set 0 _).set 1 _) Tryz.underlying57 rfl faultInfo) rfl ?_;exact⟨4,_,rfl,Or.inr ⟨H1.out,H2.out,H3.out,Or.inl ⟨k,f,HFK.out,HALL.out,HCD.out,by decide,rfl⟩⟩,(HBV1.out.setCell (by rw[HS.out];exact Nat.le_refl _) _).setCell (by rw[HS.out];exact Nat.le_refl _) _⟩
    ·
     rw[decide_eq_false h1] at HX;have HCD:Hid (edgeC n es k f=4):=Hi (by unfold edgeC;rw[if_neg (fun hc=>h1 hc.1)]);clear h1;go_wp2_with fail;rw[HV1.out] at*;go_fit HX.out;rintro e w4 ⟨rfl,rfl⟩;have z0:w4.cell? ⟨s,0,none⟩=some (.int .i64 0):=HS1.out.cell 0;have z1:w4.cell? ⟨s,1,none⟩=some (.int .i64 0):=HS1.out.cell 1;have f0:w4.frozen? ⟨s,0,none⟩=false:=HS1.out.free 0;have f1:w4.frozen? ⟨s,1,none⟩=false:=HS1.out.free 1;go_wp2;refine bodyPost_ret (v:=.agg #[.int .i64 4,.int .i64 (k:Int)]) (results_cell_row rfl _ _ s 57 #[.int .i64 4,.int .i64 (k:Int)] (0,0) _ rfl ((HS1.out.set 0 _).set 1 _) Tryz.underlying57 rfl faultInfo) rfl ?_;exact⟨4,_,rfl,Or.inr ⟨H1.out,H2.out,H3.out,Or.inl ⟨k,f,HFK.out,HALL.out,HCD.out,by decide,rfl⟩⟩,(HBV1.out.setCell (by rw[HS.out];exact Nat.le_refl _) _).setCell (by rw[HS.out];exact Nat.le_refl _) _⟩
   ·
    have hk':k=es.length:=by omega
    subst hk';have z0:wr.cell? ⟨s,0,none⟩=some (.int .i64 0):=HSW.out.cell 0;have z1:wr.cell? ⟨s,1,none⟩=some (.int .i64 0):=HSW.out.cell 1;have f0:wr.frozen? ⟨s,0,none⟩=false:=HSW.out.free 0;have f1:wr.frozen? ⟨s,1,none⟩=false:=HSW.out.free 1;go_wp2;refine bodyPost_ret (v:=.agg #[.int .i64 0,.int .i64 0]) (results_cell_row rfl _ _ s 57 #[.int .i64 0,.int .i64 0] (0,0) _ rfl ((HSW.out.set 0 _).set 1 _) Tryz.underlying57 rfl faultInfo) rfl ?_;exact⟨0,0,rfl,Or.inr ⟨H1.out,H2.out,H3.out,Or.inr ⟨fun i x hx=>HALL.out i x (List.getElem?_eq_some_iff.1 hx).1 hx,rfl,rfl⟩⟩,(HBW.out.setCell (by rw[HS.out];exact Nat.le_refl _) _).setCell (by rw[HS.out];exact Nat.le_refl _) _⟩
end Go.Proofs.YtbbkamnfjejceaaGreatDoor.Peb
