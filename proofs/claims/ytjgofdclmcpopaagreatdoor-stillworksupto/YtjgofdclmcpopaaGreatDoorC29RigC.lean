import Derived.WideKeyRuns
import Derived.MapKept
import Derived.Test.YtjgofdclmcpopaaGreatDoorC28RigB
namespace Go.Proofs.YtjgofdclmcpopaaGreatDoor
open Go.RowKit Go.MapKept
open Go.Proofs.Tryz
set_option linter.unusedSimpArgs false
set_option linter.unusedVariables false
set_option maxHeartbeats 8000000
set_option maxRecDepth 1000000
abbrev pairV(p:Int × Int):Value:=.agg #[.int .i64 p.1,.int .i64 p.2]
theorem Qii:(prog.info? 3).map (fun i=>(i.zero,i.size,i.bytes))=some (some (.int .i64 0),1,8):=by kernel_rfl
theorem Qij:prog.plainKey 3=true:=by kernel_rfl
theorem cellsInt:prog.cellsOf 3=1:=by kernel_rfl
theorem Qo2(b:Bool)(n:Nat)(p:Int × Int)(w:World):(Instr.checkKey b (n+2) 120 (pairV p)).run prog w=.ok () w:=by
 obtain⟨i,hi,h⟩:=Option.map_eq_some_iff.1 Qii;simp only[Prod.mk.injEq] at h;obtain⟨hz,hs,hb⟩:=h;have hstep:∀(v:Int) (w:World),(Instr.checkKey b (n+1) 3 (.int .i64 v)).run prog w=.ok () w:=fun v w=>Go.MapKept.run_checkKey (k:=.int .i64 v) underlying3 (by simp[IsKey]) b n
 have hpart:∀(j:Nat) (v:Value) (w:World),#[Value.int .i64 p.1,.int .i64 p.2][j]?=some v->(part 3 #[.int .i64 p.1,.int .i64 p.2] j).run prog w=.ok v w:=fun j v w hj=>run_part_plain w Qij hj
 simp only[Instr.checkKey,Sem.run_bind,run_underlying underlying120,Result.andThen_ok];simp only[Std.Legacy.Range.forIn_eq_forIn_range',Std.Legacy.Range.size];simp[List.range',run_sizeOf _ hi,hs,hstep,cellsInt,hpart 0 _ _ rfl,hpart 1 _ _ rfl]
theorem Qfq(b:Bool)(p:Int × Int)(w:World):(Instr.checkKey b 10000 120 (pairV p)).run prog w=.ok () w:=Qo2 b 9998 p w
theorem Qo3(n:Nat)(p q:Int × Int)(w:World):(Op.equalIn (n+2) 120 (pairV p) (pairV q)).run prog w=.ok (decide (p=q)) w:=by
 obtain⟨i,hi,h⟩:=Option.map_eq_some_iff.1 Qii;rw[run_equalIn_array w (n+1) _ _ underlying120 hi];have hpart:∀(r:Int × Int) (j:Nat) (v:Value) (w:World),#[Value.int .i64 r.1,.int .i64 r.2][j]?=some v->(part 3 #[.int .i64 r.1,.int .i64 r.2] j).run prog w=.ok v w:=fun r j v w hj=>run_part_plain w Qij hj
 have hint:∀(x y:Int) (w:World),(Op.equalIn (n+1) 3 (.int .i64 x) (.int .i64 y)).run prog w=.ok (x == y) w:=by
  intro x y w;simp[Op.equalIn,run_underlying underlying3]
 simp[List.range,List.range.loop,Op.eqItems,cellsInt,hpart p 0 _ _ rfl,hpart p 1 _ _ rfl,hpart q 0 _ _ rfl,hpart q 1 _ _ rfl,hint];obtain⟨p1,p2⟩:=p;obtain⟨q1,q2⟩:=q;by_cases h1:p1=q1
 .
  by_cases h2:p2=q2
  . simp[h1,h2]
  . simp[h1,h2]
 . simp[h1]
theorem Qik(p q:Int × Int)(w:World):(Op.equal 120 (pairV p) (pairV q)).run prog w=.ok (decide (p=q)) w:=Qo3 9998 p q w
def PairSet(es:Array MapEntry)(ps:List (Int × Int)):Prop:=es.toList.map (fun e=>(e.key,e.val))=ps.map fun p=>(pairV p,Value.agg #[])
theorem Qfr(p:Int × Int)(w:World):∀(es:List MapEntry) (ps:List (Int × Int)) (k:Nat),es.map (fun e=>(e.key,e.val))=ps.map (fun p=>(pairV p,Value.agg #[]))->
 ∃r:Option (Nat × Value),(Instr.findAsking 120 (pairV p) es k).run prog w=.ok r w/\(p∈ ps->∃j,r=some (j,.agg #[]))/\(p ∉ ps->r=none)
 | [],ps,k,h=>by
   have:ps= []:=by simpa using h.symm
   subst this;exact⟨none,by simp[Instr.findAsking],by simp,fun _=>rfl⟩
 |e :: es,[],k,h=>by simp at h
 |e :: es,q :: ps,k,h=>by
  simp only[List.map_cons,List.cons.injEq,Prod.mk.injEq] at h;obtain⟨⟨hk,hv⟩,ht⟩:=h;by_cases hpq:p=q
  . exact⟨some (k,.agg #[]),by simp[Instr.findAsking,hk,hv,Qik,hpq],fun _=>⟨k,rfl⟩,fun hn=>absurd (by simp[hpq]) hn⟩
  .
   obtain⟨r,h1,h2,h3⟩:=Qfr p w es ps (k+1) ht;refine⟨r,?_,fun hm=>h2 ?_,fun hn=>h3 ?_⟩
   . simp only[Instr.findAsking,hk,Sem.run_bind,Qik,Result.andThen_ok,hpq,decide_false]
     simpa using h1
   .
    rcases List.mem_cons.1 hm with h|h
    . exact absurd h hpq
    . exact h
   . intro hm
     exact hn (List.mem_cons_of_mem _ hm)
theorem Qo4:∀w,(zeroValue 241).run prog w=.ok (.agg #[]) w:=Tryz.zeroValue241
theorem Qo5(r clock:Nat)(es:Array MapEntry)(ps:List (Int × Int))(p:Int × Int)(w:World)(hb:w.heap[r]?=some (.map es clock))(hs:PairSet es ps):
 (Instr.lookup 240 (.map (some r)) (pairV p) true).run prog w=.ok (.tuple #[.agg #[],.bool (decide (p∈ ps))]) w:=by
 obtain⟨x,h1,h2,h3⟩:=Qfr p w es.toList ps 0 hs;have hf:(Instr.findKey 120 (pairV p) es.toList).run prog w=.ok x w:=by
  rw[run_findKey_eq w (by rw[underlying120])];exact h1
 by_cases hm:p∈ ps
 . obtain⟨j,rfl⟩:=h2 hm
   simp[Instr.lookup,run_underlying underlying240,Go.MapKept.run_getObj_map hb,Qfq,hf,hm]
 . obtain rfl:=h3 hm
   simp[Instr.lookup,run_underlying underlying240,Go.MapKept.run_getObj_map hb,Qfq,hf,hm,Qo4]
theorem Qo6(r clock:Nat)(es:Array MapEntry)(ps:List (Int × Int))(p:Int × Int)(w:World)(hb:w.heap[r]?=some (.map es clock))(hs:PairSet es ps)(hn:p ∉ ps):
 (Instr.mapUpdate 240 (.map (some r)) (pairV p) (.agg #[])).run prog w=.ok () { w with heap:=w.heap.setIfInBounds r (.map (es.push { key:=pairV p,val:=.agg #[],born:=clock }) (clock+1)) }:=by
 obtain⟨x,h1,h2,h3⟩:=Qfr p w es.toList ps 0 hs;have hf:(Instr.findKey 120 (pairV p) es.toList).run prog w=.ok x w:=by
  rw[run_findKey_eq w (by rw[underlying120])];exact h1
 obtain rfl:=h3 hn;simp[Instr.mapUpdate,run_underlying underlying240,Go.MapKept.run_getObj_map hb,Qfq,hf,Go.MapKept.run_setObj_map _ hb,Result.andThen]
end Go.Proofs.YtjgofdclmcpopaaGreatDoor
namespace Go.Proofs.YtjgofdclmcpopaaGreatDoor
open Go.RowKit
open Go.Proofs.Tryz
set_option linter.unusedSimpArgs false
set_option linter.unusedVariables false
set_option maxHeartbeats 8000000
set_option maxRecDepth 1000000
def holdC(n:Nat)(j wy:Int)(tw:Bool):Int:=if 0<=j/\j<n then (if wy≠1/\wy≠2 then 3 else if tw=true then 7 else 0) else 4
theorem Qsh(a:Option Addr)(n cap:Nat)(j wy:Int)(q:ByteArray)(tw:Bool)(w:World):
 Calls prog 183 #[.slice a n cap,.agg #[.int .i64 j,.int .i64 wy,.string q],.bool tw] w fun e w'=>e=.returned (.int .i64 (holdC n j wy tw))/\Below w.heap.size w w':=by
 unfold holdC;by_cases h1:IsJ n j
 .
  rw[if_pos (show 0<=j/\j<(n:Int) from h1)];have H1:=Hi h1;clear h1;by_cases h2:wy=1
  .
   subst h2;rw[if_neg (by simp)];cases tw with
   |true=>
    rw[if_pos rfl];go_enter func183,ntmps183;obtain⟨W,hW⟩:=nm (w.alloc (.cells #[.int .i64 j,.int .i64 1,.string q] 71));have HB0:=Ua hW;have hs0:SB W w.heap.size 71 #[.int .i64 j,.int .i64 1,.string q]:=by rw[<-hW];exact SB.new w _ _
    obtain⟨k0,k1,k2,-⟩:=zc hs0;rw[<-hW] at k0 k1 k2;have HW:=Hi hW;clear hW hs0;go_wp2_with fail;go_fit (Qam a n cap j _ H1.o);rintro e w1 ⟨rfl,rfl⟩;go_wp2;go_ret;exact⟨rfl,by rw[HW.o];exact HB0.o⟩
   |false=>
    rw[if_neg (by simp)];go_enter func183,ntmps183;obtain⟨W,hW⟩:=nm (w.alloc (.cells #[.int .i64 j,.int .i64 1,.string q] 71));have HB0:=Ua hW;have hs0:SB W w.heap.size 71 #[.int .i64 j,.int .i64 1,.string q]:=by rw[<-hW];exact SB.new w _ _
    obtain⟨k0,k1,k2,-⟩:=zc hs0;rw[<-hW] at k0 k1 k2;have HW:=Hi hW;clear hW hs0;go_wp2_with fail;go_fit (Qam a n cap j _ H1.o);rintro e w1 ⟨rfl,rfl⟩;go_wp2;go_ret;exact⟨rfl,by rw[HW.o];exact HB0.o⟩
  .
   by_cases h3:wy=2
   .
    subst h3;rw[if_neg (by simp)];cases tw with
    |true=>
     rw[if_pos rfl];go_enter func183,ntmps183;obtain⟨W,hW⟩:=nm (w.alloc (.cells #[.int .i64 j,.int .i64 2,.string q] 71));have HB0:=Ua hW;have hs0:SB W w.heap.size 71 #[.int .i64 j,.int .i64 2,.string q]:=by rw[<-hW];exact SB.new w _ _
     obtain⟨k0,k1,k2,-⟩:=zc hs0;rw[<-hW] at k0 k1 k2;have HW:=Hi hW;clear hW hs0;go_wp2_with fail;go_fit (Qam a n cap j _ H1.o);rintro e w1 ⟨rfl,rfl⟩;go_wp2;go_ret;exact⟨rfl,by rw[HW.o];exact HB0.o⟩
    |false=>
     rw[if_neg (by simp)];go_enter func183,ntmps183;obtain⟨W,hW⟩:=nm (w.alloc (.cells #[.int .i64 j,.int .i64 2,.string q] 71));have HB0:=Ua hW;have hs0:SB W w.heap.size 71 #[.int .i64 j,.int .i64 2,.string q]:=by rw[<-hW];exact SB.new w _ _
     obtain⟨k0,k1,k2,-⟩:=zc hs0;rw[<-hW] at k0 k1 k2;have HW:=Hi hW;clear hW hs0;go_wp2_with fail;go_fit (Qam a n cap j _ H1.o);rintro e w1 ⟨rfl,rfl⟩;go_wp2;go_ret;exact⟨rfl,by rw[HW.o];exact HB0.o⟩
   .
    rw[if_pos ⟨h2,h3⟩];have e2:(wy != 1)=true:=by simpa using h2
    have e3:(wy != 2)=true:=by simpa using h3
    clear h2 h3;go_enter func183,ntmps183;obtain⟨W,hW⟩:=nm (w.alloc (.cells #[.int .i64 j,.int .i64 wy,.string q] 71));have HB0:=Ua hW;have hs0:SB W w.heap.size 71 #[.int .i64 j,.int .i64 wy,.string q]:=by rw[<-hW];exact SB.new w _ _
    obtain⟨k0,k1,k2,-⟩:=zc hs0;rw[<-hW] at k0 k1 k2;have HW:=Hi hW;clear hW hs0;go_wp2_with fail;go_fit (Qam a n cap j _ H1.o);rintro e w1 ⟨rfl,rfl⟩;go_wp2;go_ret;exact⟨rfl,by rw[HW.o];exact HB0.o⟩
 .
  rw[if_neg (show ¬(0<=j/\j<(n:Int)) from h1)];have H1:=Hi h1;clear h1;go_enter func183,ntmps183;obtain⟨W,hW⟩:=nm (w.alloc (.cells #[.int .i64 j,.int .i64 wy,.string q] 71));have HB0:=Ua hW;have hs0:SB W w.heap.size 71 #[.int .i64 j,.int .i64 wy,.string q]:=by rw[<-hW];exact SB.new w _ _
  obtain⟨k0,k1,k2,-⟩:=zc hs0;rw[<-hW] at k0 k1 k2;have HW:=Hi hW;clear hW hs0;go_wp2_with fail;go_fit (Qea a n cap j _ H1.o);rintro e w1 ⟨rfl,rfl⟩;go_wp2;go_ret;exact⟨rfl,by rw[HW.o];exact HB0.o⟩
def places(hs:List H3):List (Int × Int):=hs.map fun h=>(h.j,h.w)
def holdAt(n:Nat)(hs:List H3)(k:Nat)(h:H3):Int:=holdC n h.j h.w (decide ((h.j,h.w)∈ places (hs.take k)))
def HoldsFault(n m:Nat)(hs:List H3)(c at_:Int):Prop:=
 (∃k h,hs[k]?=some h/\(∀i x,i<k->hs[i]?=some x->holdAt n hs i x=0)/\holdAt n hs k h=c/\c≠0/\at_=m+k)∨
 ((∀i x,hs[i]?=some x->holdAt n hs i x=0)/\c=0/\at_=0)
theorem PairSet.push{es:Array MapEntry}{ps:List (Int × Int)}{p:Int × Int}{b:Nat}(h:PairSet es ps):PairSet (es.push { key:=pairV p,val:=.agg #[],born:=b }) (ps++ [p]):=by
 unfold PairSet at*;rw[Array.toList_push,List.map_append,h,List.map_append];rfl
theorem Qsi{hs:List H3}{k:Nat}{h:H3}(hk:hs[k]?=some h):places (hs.take (k+1))=places (hs.take k)++ [(h.j,h.w)]:=by
 unfold places;rw[List.take_add_one,hk];simp
theorem Tryz.faultInfo:(prog.info? 57).map (·.size)=some 2:=by kernel_rfl
theorem Qsj{w:World}{r b:Nat}{o:Obj}(h:b≠r):({ w with heap:=w.heap.setIfInBounds r o }:World).heap[b]?=w.heap[b]?:=by
 simp[Array.getElem?_setIfInBounds,h.symm]
theorem Only.map{w:World}{r:Nat}(o:Obj):Only r w { w with heap:=w.heap.setIfInBounds r o }:=⟨rfl,rfl,rfl,by simp,fun k hk hne=>Qsj hne⟩
theorem Qsk{w:World}{r:Nat}{o:Obj}(h:r<w.heap.size):({ w with heap:=w.heap.setIfInBounds r o }:World).heap[r]?=some o:=by
 simp[Array.getElem?_setIfInBounds,h]
theorem Qsl(a1 a2 a3:Option Addr)(n c1 m c2 c3:Nat)(hs:List H3)(w:World)(hh:ARow H3.cells w a3 c3 hs)(hl:hs.length<=20)(hm:m<=24):
 Calls prog 96 #[.agg #[.slice a1 n c1,.slice a2 m c2,.slice a3 hs.length c3]] w fun e w'=>∃c at_,e=.returned (.agg #[.int .i64 c,.int .i64 at_])/\HoldsFault n m hs c at_/\Below w.heap.size w w':=by
 have HH:=Hi hh;clear hh;go_enter func96,ntmps96;obtain⟨W,hW⟩:=nm (((w.alloc (.cells #[.slice a1 n c1,.slice a2 m c2,.slice a3 hs.length c3] 54)).alloc (.cells #[.int .i64 0,.int .i64 0] 57)).alloc (.map #[] 0));have HB0:O (Below w.heap.size w W):=Hi (by rw[<-hW];exact(Below.new2 w _ _).alloc (by simp<;>omega) _);have HS0:O (SB W w.heap.size 54 #[.slice a1 n c1,.slice a2 m c2,.slice a3 hs.length c3]):=Hi (by rw[<-hW];exact((SB.new w _ _).alloc _).alloc _);have HS1:O (SB W (w.heap.size+1) 57 #[.int .i64 0,.int .i64 0]):=Hi (by rw[<-hW];exact(SB.new2 w _ _ _ _).alloc _);have HM0:O (W.heap[w.heap.size+2]?=some (.map #[] 0)):=Hi (by
  rw[<-hW];have:=(Go.MapKept.heap_alloc ((w.alloc (.cells #[.slice a1 n c1,.slice a2 m c2,.slice a3 hs.length c3] 54)).alloc (.cells #[.int .i64 0,.int .i64 0] 57)) (.map #[] 0)).1
  simpa using this)
 obtain⟨-,-,k2,-⟩:=zc HS0.o;rw[<-hW] at k2;have HW:=Hi hW;have hmake:∀v:World,(Instr.makeMap 240 none).run prog v=.ok (.map (some v.heap.size)) (v.alloc (.map #[] 0)):=fun v=>rfl
 clear hW;go_wp2_with fail;rw[HW.o];clear k2 hmake;obtain⟨r,hr⟩:=nm (w.heap.size+1+1);have hr0:w.heap.size+1<r:=by omega
 have HM1:O (W.heap[r]?=some (.map #[] 0)):=Hi (by rw[<-hr];exact HM0.o);rw[hr];clear hr HM0;go_loopw [14] (fun iv wr=>∃(k:Nat) (es:Array MapEntry) (clock:Nat),k<=hs.length/\iv=.int .i64 k/\(∀i x,i<k->hs[i]?=some x->holdAt n hs i x=0)/\PairSet es (places (hs.take k))/\wr.heap[r]?=some (.map es clock)/\Only r W wr) (fun iv _=>hs.length - (intOf iv).toNat)
 case atStart=>exact⟨0,#[],0,by omega,rfl,fun i x hi=>by omega,rfl,HM1.o,Only.refl _ _⟩
 case round=>
  obtain⟨k,es,clock,hk,rfl,hall,hps,hmap,ho⟩:=hrel;obtain⟨HALL,HPS,HMAP,HO⟩:=Ic hall hps hmap ho;have HBW:O (Below w.heap.size w wr):=Hi (HB0.o.trans (ho.below (by omega) HB0.o.size));have hrl:r<wr.heap.size:=by
   rcases Nat.lt_or_ge r wr.heap.size with h|h
   . exact h
   . rw[Array.getElem?_eq_none h] at hmap
     cases hmap
  clear hall hps hmap ho;by_cases hlt:k<hs.length
  .
   obtain⟨f,hf⟩:∃f,hs[k]?=some f:=⟨hs[k],gE hlt⟩;obtain⟨fb,off,rfl,hfb,d0,d1,d2⟩:=(HH.o.below HBW.o).hold hf;have HFK:=Hi hf;obtain⟨V,hV⟩:=nm ((wr.alloc (.cells #[.int .i64 f.j,.int .i64 f.w,.string f.q] 71)).alloc (.cells #[.int .i64 f.j,.int .i64 f.w] 120));have hbV:Below wr.heap.size wr V:=by rw[<-hV];exact Below.new2 wr _ _
   have hVm:V.heap[r]?=some (.map es clock):=(hbV.block r hrl).trans HMAP.o;have hlook:(Instr.lookup 240 (.map (some r)) (.agg #[.int .i64 f.j,.int .i64 f.w]) true).run prog V=.ok (.tuple #[.agg #[],.bool (decide ((f.j,f.w)∈ places (hs.take k)))]) V:=Qo5 r clock es _ (f.j,f.w) V hVm HPS.o;obtain⟨tw,htw⟩:=nm (decide ((f.j,f.w)∈ places (hs.take k)));rw[htw,<-hV] at hlook;obtain⟨HTW,HV,HBV⟩:=Ib htw hV hbV;have q1:((k:Int)<(hs.length:Int)):=by omega
   obtain⟨V3,hV3⟩:=nm (V.alloc (.cells #[] 241));have hb3:Below wr.heap.size wr V3:=by rw[<-hV3];exact hbV.alloc hbV.size _
   have HB3:=Hi hb3;have hs0:=(HS0.o.only HO.o (by omega)).below hb3 (HS0.o.only HO.o (by omega)).lt;obtain⟨k0,k1,-⟩:=zc hs0;rw[<-hV3,<-hV] at k0 k1;have HV3:=Hi hV3;clear hf htw hV hbV hVm hV3 hb3 hs0;go_wp2_with fail;rw[HV.o,HV3.o];clear k0 k1 hlook d0 d1 d2;obtain⟨cd,hcd⟩:=nm (holdC n f.j f.w tw);have HCH:=Hi (Qsh a1 n c1 f.j f.w f.q tw V3);rw[hcd] at HCH;have HCD:O (holdAt n hs k f=cd):=Hi (by unfold holdAt;rw[HTW.o];exact hcd);clear hcd;go_fit HCH.o;rintro e w4 ⟨rfl,hb4⟩;obtain⟨HB4,HB43⟩:=Ia (HB3.o.trans (hb4.mono HB3.o.size)) hb4;have HO4:O (Only r W w4):=Hi (HO.o.trans (Only.of_below HB4.o));have HM4:O (w4.heap[r]?=some (.map es clock)):=Hi ((HB4.o.block r hrl).trans HMAP.o);have hs0:=HS0.o.only HO4.o (by omega)
   have hs1:=HS1.o.only HO4.o (by omega);obtain⟨-,k1,-⟩:=zc hs0;obtain⟨z0,z1,-⟩:=zc hs1;have f0:=hs1.free 0;have f1:=hs1.free 1;have HS4:=Hi hs1;clear hs0 hs1 hb4;by_cases hcd:cd=0
   .
    subst hcd;have htf:tw=false:=by
     cases tw with
     |false=>rfl
     |true=>
      exfalso
      have h:=HCD.o;unfold holdAt holdC at h;rw[HTW.o] at h
      split at h
      .
       split at h
       . simp at h
       . simp at h
      . simp at h
    have hnot:(f.j,f.w) ∉ places (hs.take k):=of_decide_eq_false (HTW.o.trans htf);have hupd:(Instr.mapUpdate 240 (.map (some r)) (.agg #[.int .i64 f.j,.int .i64 f.w]) (.agg #[])).run prog w4=.ok () { w4 with heap:=w4.heap.setIfInBounds r (.map (es.push { key:=.agg #[.int .i64 f.j,.int .i64 f.w],val:=.agg #[],born:=clock }) (clock+1)) }:=Qo6 r clock es _ (f.j,f.w) w4 HM4.o HPS.o hnot;obtain⟨w5,hw5⟩:∃w5,({ w4 with heap:=w4.heap.setIfInBounds r (.map (es.push { key:=.agg #[.int .i64 f.j,.int .i64 f.w],val:=.agg #[],born:=clock }) (clock+1)) }:World)=w5:=⟨_,rfl⟩;have HO5:O (Only r W w5):=Hi (by rw[<-hw5];exact HO4.o.trans (Only.map _));have HM5:O (w5.heap[r]?=some (.map (es.push { key:=.agg #[.int .i64 f.j,.int .i64 f.w],val:=.agg #[],born:=clock }) (clock+1))):=Hi (by rw[<-hw5];exact Qsk (by have:=HB4.o.size;omega));rw[hw5] at hupd
    have hv:=(HV.o ▸ SB.new2 wr 71 120 #[.int .i64 f.j,.int .i64 f.w,.string f.q] #[.int .i64 f.j,.int .i64 f.w]:SB V (wr.heap.size+1) 120 #[.int .i64 f.j,.int .i64 f.w]);have hb34:Below V.heap.size V w4:=by
     have h1:Below V.heap.size V V3:=by rw[<-HV3.o];exact(Below.refl _ _).alloc lZ _
     exact h1.trans (HB43.o.mono h1.size)
    obtain⟨p0,p1,-⟩:=zc (hv.below hb34 hv.lt);clear htf hw5 hnot hv hb34;go_wp2;go_roundw
    case rel=>
     refine⟨k+1,_,_,by omega,by go_num,?_,?_,HM5.o,HO5.o⟩
     .
      intro i x hi hx;rcases Nat.lt_or_ge i k with h|h
      . exact HALL.o i x h hx
      .
       obtain rfl:i=k:=by omega
       obtain rfl:=Option.some.inj (HFK.o.symm.trans hx);exact HCD.o
     . rw[Qsi HFK.o]
       exact HPS.o.push (p:=(f.j,f.w)) (b:=clock)
    case measure=>simp[intOf];omega
   .
    have e0:(cd != 0)=true:=by simpa using hcd
    go_wp2;have HBF:=Hi (HB0.o.trans (HO4.o.below (by omega) HB0.o.size));refine bodyPost_ret (v:=.agg #[.int .i64 cd,.int .i64 ((m:Int)+(k:Int))]) (results_cell_row rfl _ _ (w.heap.size+1) 57 #[.int .i64 cd,.int .i64 ((m:Int)+(k:Int))] (0,0) _ rfl ((HS4.o.set 0 _).set 1 _) underlying57 rfl Tryz.faultInfo) rfl ?_;exact⟨cd,_,rfl,.inl ⟨k,f,HFK.o,HALL.o,HCD.o,hcd,rfl⟩,(HBF.o.setCell (Nat.le_succ _) _).setCell (Nat.le_succ _) _⟩
  .
   have hk':k=hs.length:=by omega
   subst hk';have hs1:=HS1.o.only HO.o (by omega);obtain⟨z0,z1,-⟩:=zc hs1;have f0:=hs1.free 0;have f1:=hs1.free 1;have HS4:=Hi hs1;clear hs1;go_wp2;refine bodyPost_ret (v:=.agg #[.int .i64 0,.int .i64 0]) (results_cell_row rfl _ _ (w.heap.size+1) 57 #[.int .i64 0,.int .i64 0] (0,0) _ rfl ((HS4.o.set 0 _).set 1 _) underlying57 rfl Tryz.faultInfo) rfl ?_;refine⟨0,0,rfl,.inr ⟨fun i x hx=>HALL.o i x (gZ hx).1 hx,rfl,rfl⟩,(HBW.o.setCell (Nat.le_succ _) _).setCell (Nat.le_succ _) _⟩
end Go.Proofs.YtjgofdclmcpopaaGreatDoor
