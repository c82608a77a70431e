/- a board in memory: how many pebbles are loose, the rows of other ends, the set of points seen; what is read and written of it. No function of the program in it. -/
import Derived.Test.YtbbkamnfjejceaaGreatDoorP41PebL
import Derived.Test.YtbbkamnfjejceaaGreatDoorChecked
import Derived.WalkKit
import Derived.Below
import Derived.OwnWalk
import Derived.Outline
import Derived.MapKept
import Derived.Maps.AppendAt
import Derived.Deep.OwnRows
import Derived.Deep.RegionLaw
import Derived.Deep.RegionHeld3
import Derived.KernelRfl
import Derived.Deep.DeepFit
import Derived.Deep.DeepCutAuto
import Derived.RegionTactic
namespace Go.Proofs.YtbbkamnfjejceaaGreatDoor.Peb
open Go.RowKit Go.MapKept
set_option linter.unusedVariables false
set_option linter.unusedSimpArgs false
theorem Hi{p:Prop}(h:p):Hid p:=h
def SB(w:World)(b:Nat)(t:TypeId)(C:Array Value):Prop:=w.heap[b]?=some (.cells C t (0,0))
theorem SB.lt{w:World}{b:Nat}{t:TypeId}{C:Array Value}(h:SB w b t C):b<w.heap.size:=(Array.getElem?_eq_some_iff.1 h).1
theorem SB.cell{w:World}{b:Nat}{t:TypeId}{C:Array Value}(h:SB w b t C)(i:Nat):w.cell? ⟨b,i,none⟩=C[i]?:=by
 unfold SB at h;simp[World.cell?,h]
theorem SB.free{w:World}{b:Nat}{t:TypeId}{C:Array Value}(h:SB w b t C)(i:Nat):w.frozen? ⟨b,i,none⟩=false:=by
 unfold SB at h;simp[World.frozen?,h]
theorem SB.set{w:World}{b:Nat}{t:TypeId}{C:Array Value}(h:SB w b t C)(i:Nat)(v:Value):SB (w.setCell ⟨b,i,none⟩ v) b t (C.setIfInBounds i v):=by
 unfold SB at h ⊢;simp[World.setCell,Array.getElem?_modify,h]
theorem SB.keep{w w':World}{b:Nat}{t:TypeId}{C:Array Value}(h:SB w b t C)(hk:w'.heap[b]?=w.heap[b]?):SB w' b t C:=by
 unfold SB at h ⊢;rw[hk];exact h
theorem SB.new(w:World)(t:TypeId)(C:Array Value):SB (w.alloc (.cells C t)) w.heap.size t C:=by
 show (w.heap.push _)[w.heap.size]?=_
 simp
theorem Qb1(w:World)(o:Obj){b:Nat}(h:b<w.heap.size):(w.alloc o).heap[b]?=w.heap[b]?:=Below.heap_alloc _ _ _ h
theorem SB.alloc{w:World}{b:Nat}{t:TypeId}{C:Array Value}(h:SB w b t C)(o:Obj):SB (w.alloc o) b t C:=h.keep (Qb1 w o h.lt)
theorem SB.below{w w':World}{b B:Nat}{t:TypeId}{C:Array Value}(h:SB w b t C)(hb:Below B w w')(hB:b<B):SB w' b t C:=h.keep (hb.block b hB)
theorem Below.new2(w:World)(o1 o2:Obj):Below w.heap.size w ((w.alloc o1).alloc o2):=(Below.refl _ _).alloc (Nat.le_refl _) _ |>.alloc (by rw[World.size_alloc];omega) _
theorem map_other{w:World}{r b:Nat}{o:Obj}(h:b≠r):({ w with heap:=w.heap.setIfInBounds r o }:World).heap[b]?=w.heap[b]?:=by
 simp[Array.getElem?_setIfInBounds,h.symm]
theorem map_same{w:World}{r:Nat}{o:Obj}(h:r<w.heap.size):({ w with heap:=w.heap.setIfInBounds r o }:World).heap[r]?=some o:=by
 simp[Array.getElem?_setIfInBounds,h]
theorem add_at(b off j:Nat):Addr.add ⟨b,off,none⟩ j=⟨b,off+j,none⟩:=by
 unfold Addr.add;by_cases hj:j=0<;>simp[hj]
def kpT(t:TypeId):Bool:=t == 4 || t == 69
structure Kp (B:Nat) (w w':World):Prop where
 below:Below B w w'
 bools:∀(b:Nat) (C:Array Value) (t:TypeId),kpT t=true→w.heap[b]?=some (Obj.cells C t (0,0))→w'.heap[b]?=w.heap[b]?
theorem Kp.refl(B:Nat)(w:World):Kp B w w:=⟨Below.refl _ _,fun _ _ _ _ _=>rfl⟩
theorem Kp.trans{B:Nat}{u v w:World}(h:Kp B u v)(k:Kp B v w):Kp B u w:=
 ⟨h.below.trans k.below,fun b C t ht hb=>(k.bools b C t ht ((h.bools b C t ht hb).trans hb)).trans (h.bools b C t ht hb)⟩
theorem Kp.alloc{B:Nat}{u w:World}(h:Kp B u w)(hB:B≤w.heap.size)(o:Obj):Kp B u (w.alloc o):=
 h.trans ⟨(Below.refl _ _).alloc hB o,fun b C _ _ hb=>Qb1 w o (Array.getElem?_eq_some_iff.1 hb).1⟩
theorem Kp.drew{B:Nat}{u w:World}(h:Kp B u w):Kp B u w.drew:=⟨h.below.drew,h.bools⟩
theorem Kp.setCell{B:Nat}{u w:World}(h:Kp B u w){g:Nat}{t:TypeId}{C:Array Value}(hs:SB w g t C)(ht:kpT t=false)(hg:B≤g)(i:Nat)(v:Value):Kp B u (w.setCell ⟨g,i,none⟩ v):=
 h.trans ⟨(Below.refl _ _).setCell hg _,fun b D t' ht' hb=>by
  rw[Below.heap_setCell];rintro rfl;unfold SB at hs;rw[hs] at hb;simp at hb;rw[hb.2,ht'] at ht
  cases ht⟩
theorem Kp.map{B:Nat}{u w:World}(h:Kp B u w){r:Nat}{es:Array MapEntry}{c:Nat}(hr:w.heap[r]?=some (.map es c))(hB:B≤r)(o:Obj):Kp B u { w with heap:=w.heap.setIfInBounds r o }:=
 h.trans ⟨⟨rfl,rfl,rfl,by simp,fun k hk=>map_other (by omega)⟩,fun b D _ _ hb=>map_other (by rintro rfl;rw[hr] at hb;cases hb)⟩
theorem Kp.grown{B:Nat}{u w w':World}(h:Kp B u w){row:Option Nat}(hg:w.grownBy w' row)(hB:B≤w.heap.size)(hr:∀g,row=some g→B≤g∧∃t C,SB w g t C∧kpT t=false):Kp B u w':=
 h.trans ⟨⟨hg.os,hg.tape,hg.output,hg.size,fun k hk=>hg.block k (by omega) (fun e=>by have:=(hr k e.symm).1;omega)⟩,fun b D t' ht' hb=>hg.block b (Array.getElem?_eq_some_iff.1 hb).1 (fun e=>by
  obtain⟨_,t,C,hs,ht⟩:=hr b e.symm;unfold SB at hs;rw[hs] at hb;simp at hb;rw[hb.2,ht'] at ht
  cases ht)⟩
theorem Kp.sb{B:Nat}{w w':World}(h:Kp B w w'){b:Nat}{t:TypeId}{C:Array Value}(hs:SB w b t C)(ht:kpT t=true):SB w' b t C:=hs.keep (h.bools b C t ht hs)
def lsArr(n:Nat)(f:Nat→Value):Array Value:=((List.range n).map f).toArray
theorem Qm8(n:Nat)(f:Nat→Value):(lsArr n f).size=n:=by simp[lsArr]
theorem Qaf{n:Nat}(f:Nat→Value){p:Nat}(h:p<n):(lsArr n f)[p]?=some (f p):=by simp[lsArr,h]
theorem Qhf{n:Nat}(f:Nat→Value)(p:Nat)(v:Value):(lsArr n f).setIfInBounds p v=lsArr n (putP f p v):=by
 apply Array.ext';apply List.ext_getElem?;intro i;simp only[lsArr,Array.toList_setIfInBounds,List.getElem?_set,List.getElem?_map,List.length_map,List.length_range];by_cases h:p=i
 ·
  subst h;by_cases hi:p<n
  · simp[hi,Qab]
  · simp[hi,List.getElem?_eq_none]
 ·
  by_cases hi:i<n
  · simp[h,hi,Qaa f v (Ne.symm h)]
  · simp[h,hi,List.getElem?_eq_none]
theorem Qm9{n:Nat}{f g:Nat→Value}(h:∀i,f i=g i):lsArr n f=lsArr n g:=by rw[funext h]
abbrev nv(q:Nat):Value:=.int .i64 (q:Int)
def PRow(w:World)(B:Nat)(v:Value)(l:List Nat):Prop:=w.ownsRow B 3 1 v l.length (l.map nv)
theorem PRow.keep{w w':World}{B:Nat}{v:Value}{l:List Nat}(h:PRow w B v l)(hk:∀g,v.ownBlock=some g→w'.heap[g]?=w.heap[g]?):PRow w' B v l:=by
 refine⟨h.1,?_⟩;rcases h.2 with h1|⟨g,cap,cur,rfl,hb,hg,h2⟩
 · exact .inl h1
 · exact .inr ⟨g,cap,cur,rfl,hb,by rw[hk g rfl];exact hg,h2⟩
theorem PRow.block{w:World}{B:Nat}{v:Value}{l:List Nat}(h:PRow w B v l){g:Nat}(hg:v.ownBlock=some g):B≤g∧∃C,SB w g 3 C:=by
 rcases h.2 with ⟨rfl,_⟩|⟨g',cap,cur,rfl,hb,hg',_⟩
 · simp[Value.ownBlock] at hg
 ·
  have e:g'=g:=by simpa [Value.ownBlock] using hg
  subst e;exact⟨hb,cur,hg'⟩
theorem PRow.at{w:World}{B:Nat}{v:Value}{l:List Nat}(h:PRow w B v l):(v=.slice none 0 0∧l= [])∨∃g cap,v=.slice (some ⟨g,0,none⟩) l.length cap∧B≤g∧g<w.heap.size∧l.length≤cap∧cap≤maxLen∧(∃C,SB w g 3 C∧C.size=cap)∧∀i q,l[i]?=some q→w.cell? ⟨g,i,none⟩=some (nv q):=by
 rcases h.2 with ⟨h1,h2⟩|⟨g,cap,cur,rfl,hb,hg,hn,hm,hs,ht⟩
 · exact .inl ⟨h1,List.eq_nil_of_length_eq_zero h2⟩
 ·
  refine .inr ⟨g,cap,rfl,hb,(Array.getElem?_eq_some_iff.1 hg).1,hn,hm,⟨cur,hg,by rw[hs];omega⟩,fun i q hi=>?_⟩;have hil:i<l.length:=(List.getElem?_eq_some_iff.1 hi).1;have:(l.map nv)[i]?=some (nv q):=by rw[List.getElem?_map,hi];rfl
  rw[←ht,List.getElem?_take_of_lt (by omega),Array.getElem?_toList] at this;rw[SB.cell (t:=3) hg];exact this
theorem infoInt:(Tryz.prog.info? 3).map (fun i=>(i.zero,i.size,i.bytes))=some (some (.int .i64 0),1,8):=by kernel_rfl
theorem PRow.app{w:World}{B:Nat}{v:Value}{l:List Nat}(h:PRow w B v l)(hl:l.length≤1000)(hB:B≤w.heap.size)(a:Addr)(x:Nat)(hx:w.cell? a=some (nv x))(c:Nat)(ty:TypeId):
 ∃v' w',(Builtin.append_ #[181,181] ty #[v,.slice (some a) 1 c]).run Tryz.prog w=.ok v' w'∧PRow w' B v' (l++ [x])∧w.grownBy w' v.ownBlock∧(v'.ownBlock=v.ownBlock∨v'.ownBlock=some w.heap.size):=by
 obtain⟨i0,hi,hz0,hz1,hz2⟩:=info_parts infoInt;obtain⟨v',w',h1,h2,h3,h4,h5⟩:=run_append_own_at (P:=Tryz.prog) w B 181 ty 3 i0 (.int .i64 0) 1 8 Tryz.underlying181 hi hz0 hz1 hz2 rfl (by decide) v l.length (l.map nv) h a 1 c [nv x] rfl (fun j u hj=>by
  cases j with
  |zero=>simp at hj;subst hj;simpa [Addr.add] using hx
  |succ j=>simp at hj) (fun u hu=>by rw[List.mem_singleton.1 hu];rfl) (by unfold maxLen;omega) (by omega) hB
 refine⟨v',w',h1,?_,h3,h5⟩;unfold PRow;rw[List.length_append,List.map_append];exact h2
def ISet(es:Array MapEntry)(s:PSet):Prop:=(∀e∈ es.toList,e.val=.agg #[]∧∃q:Nat,e.key=nv q)∧∀q,s q=true↔∃e∈ es.toList,e.key=nv q
theorem Qna{a b:Nat}(h:nv a=nv b):a=b:=by
 simp at h;omega
structure PB (w:World) (B0 B n g gl gp gm:Nat) (hv:Nat→Value) (loose:Nat→Nat) (paid:Nat→List Nat) (seen:PSet):Prop where
 ne:gl≠gp∧gl≠gm∧gp≠gm∧g≠gl∧g≠gp∧g≠gm
 lo:B0≤g∧B0≤gl∧B0≤gp∧B0≤gm
 hi:g<B∧gl<B∧gp<B∧gm<B∧B≤w.heap.size
 brd:SB w g 196 #[.slice (some ⟨gl,0,none⟩) n n,.slice (some ⟨gp,0,none⟩) n n,.map (some gm)]
 ls:SB w gl 3 (lsArr n (fun p=>nv (loose p)))
 hd:SB w gp 181 (lsArr n hv)
 rows:∀p,p<n→PRow w B (hv p) (paid p)
 apart:∀p q b,p<n→q<n→p≠q→(hv p).ownBlock=some b→(hv q).ownBlock≠some b
 map:∃es c,w.heap[gm]?=some (.map es c)∧ISet es seen
section
variable {w w':World} {B0 B n g gl gp gm:Nat} {hv:Nat→Value} {loose:Nat→Nat} {paid:Nat→List Nat} {seen:PSet}
theorem PB.blk(h:PB w B0 B n g gl gp gm hv loose paid seen){p b:Nat}(hp:p<n)(hb:(hv p).ownBlock=some b):B≤b∧b<w.heap.size:=by
 obtain⟨h1,C,h2⟩:=(h.rows p hp).block hb;exact⟨h1,h2.lt⟩
theorem PB.keep(h:PB w B0 B n g gl gp gm hv loose paid seen)(hs:w.heap.size≤w'.heap.size)
 (hk:∀b,b<w.heap.size→w'.heap[b]?=w.heap[b]?):PB w' B0 B n g gl gp gm hv loose paid seen:=by
 obtain⟨es,c,hm,hi⟩:=h.map;obtain⟨a1,a2,a3,a4,a5⟩:=h.hi;exact⟨h.ne,h.lo,⟨a1,a2,a3,a4,by omega⟩,h.brd.keep (hk _ (by omega)),h.ls.keep (hk _ (by omega)),h.hd.keep (hk _ (by omega)),fun p hp=>(h.rows p hp).keep (fun b hb=>hk b (h.blk hp hb).2),h.apart,es,c,(hk _ (by omega)).trans hm,hi⟩
theorem PB.alloc(h:PB w B0 B n g gl gp gm hv loose paid seen)(o:Obj):PB (w.alloc o) B0 B n g gl gp gm hv loose paid seen:=
 h.keep (by rw[World.size_alloc];omega) (fun b hb=>Qb1 w o hb)
theorem PB.drew(h:PB w B0 B n g gl gp gm hv loose paid seen):PB w.drew B0 B n g gl gp gm hv loose paid seen:=h.keep (Nat.le_refl _) (fun _ _=>rfl)
theorem PB.setLoose(h:PB w B0 B n g gl gp gm hv loose paid seen)(p x:Nat):PB (w.setCell ⟨gl,p,none⟩ (nv x)) B0 B n g gl gp gm hv (putP loose p x) paid seen:=by
 obtain⟨es,c,hm,hi⟩:=h.map;obtain⟨a1,a2,a3,a4,a5⟩:=h.hi;obtain⟨n1,n2,n3,n4,n5,n6⟩:=h.ne;have hk:∀b,b≠gl→(w.setCell ⟨gl,p,none⟩ (nv x)).heap[b]?=w.heap[b]?:=fun b hb=>Below.heap_setCell _ _ _ _ hb
 have e:lsArr n (fun r=>nv (putP loose p x r))=lsArr n (putP (fun r=>nv (loose r)) p (nv x)):=Qm9 (fun i=>by
  unfold putP
  by_cases h:i=p<;>simp[h])
 refine⟨h.ne,h.lo,⟨a1,a2,a3,a4,by simpa [World.setCell] using a5⟩,h.brd.keep (hk _ n4),?_,h.hd.keep (hk _ (Ne.symm n1)),fun q hq=>(h.rows q hq).keep (fun b hb=>hk b (by have:=(h.blk hq hb).1;omega)),h.apart,es,c,(hk _ (Ne.symm n2)).trans hm,hi⟩;rw[e,←Qhf];exact h.ls.set p _
theorem PB.setRow(h:PB w B0 B n g gl gp gm hv loose paid seen){p:Nat}(hp:p<n){v:Value}{l:List Nat}(hs:w.heap.size≤w'.heap.size)
 (hk:∀b,b<w.heap.size→(hv p).ownBlock≠some b→w'.heap[b]?=w.heap[b]?) (hr:PRow w' B v l)
 (hat:v.ownBlock=(hv p).ownBlock∨∀b,v.ownBlock=some b→w.heap.size≤b):PB (w'.setCell ⟨gp,p,none⟩ v) B0 B n g gl gp gm (putP hv p v) loose (putP paid p l) seen:=by
 obtain⟨es,c,hm,hi⟩:=h.map;obtain⟨a1,a2,a3,a4,a5⟩:=h.hi;obtain⟨n1,n2,n3,n4,n5,n6⟩:=h.ne;have hlow:∀b,b<B→w'.heap[b]?=w.heap[b]?:=fun b hb=>hk b (by omega) (fun e=>by have:=(h.blk hp e).1;omega)
 have hset:∀b,b≠gp→(w'.setCell ⟨gp,p,none⟩ v).heap[b]?=w'.heap[b]?:=fun b hb=>Below.heap_setCell _ _ _ _ hb
 have hfar:∀b,v.ownBlock=some b→b≠gp:=fun b hb=>by have:=(hr.block hb).1;omega
 refine⟨h.ne,h.lo,⟨a1,a2,a3,a4,by simp[World.setCell];omega⟩,h.brd.keep ((hset _ n5).trans (hlow _ a1)),h.ls.keep ((hset _ n1).trans (hlow _ a2)),?_,fun q hq=>?_,fun q r b hq hrn hne hb=>?_,es,c,((hset _ (Ne.symm n3)).trans (hlow _ a4)).trans hm,hi⟩
 · rw[←Qhf]
   exact(h.hd.keep (hlow _ a3)).set p v
 ·
  by_cases e:q=p
  ·
   subst e;rw[Qab,Qab];exact hr.keep (fun b hb=>hset b (hfar b hb))
  · rw[Qaa _ _ e,Qaa _ _ e]
    exact(h.rows q hq).keep (fun b hb=>(hset b (by have:=(h.blk hq hb).1;omega)).trans (hk b (h.blk hq hb).2 (h.apart q p b hq hp e hb)))
 ·
  have far:∀s,s<n→s≠p→∀b,(hv s).ownBlock=some b→v.ownBlock≠some b:=fun s hs hsp b hb hv'=>by
   rcases hat with e|e
   · rw[e] at hv'
     exact h.apart s p b hs hp hsp hb hv'
   ·
    have:=e b hv';have:=(h.blk hs hb).2;omega
  by_cases e1:q=p
  ·
   subst e1;rw[Qab] at hb;rw[Qaa _ _ (Ne.symm hne)];exact fun hc=>far r hrn (Ne.symm hne) b hc hb
  ·
   rw[Qaa _ _ e1] at hb;by_cases e2:r=p
   ·
    subst e2;rw[Qab];exact far q hq e1 b hb
   · rw[Qaa _ _ e2]
     exact h.apart q r b hq hrn hne hb
theorem PB.setMap(h:PB w B0 B n g gl gp gm hv loose paid seen){es:Array MapEntry}{c:Nat}{s:PSet}(hi:ISet es s):PB { w with heap:=w.heap.setIfInBounds gm (.map es c) } B0 B n g gl gp gm hv loose paid s:=by
 obtain⟨a1,a2,a3,a4,a5⟩:=h.hi;obtain⟨n1,n2,n3,n4,n5,n6⟩:=h.ne;have hk:∀b,b≠gm→({ w with heap:=w.heap.setIfInBounds gm (.map es c) }:World).heap[b]?=w.heap[b]?:=fun b hb=>map_other hb
 exact⟨h.ne,h.lo,⟨a1,a2,a3,a4,by simpa using a5⟩,h.brd.keep (hk _ n6),h.ls.keep (hk _ n2),h.hd.keep (hk _ n3),fun q hq=>(h.rows q hq).keep (fun b hb=>hk b (by have:=(h.blk hq hb).1;omega)),h.apart,es,c,map_same (by omega),hi⟩
end
theorem ISet.empty:ISet #[] (fun _=>false):=⟨by simp,by simp⟩
theorem ISet.push{es:Array MapEntry}{s:PSet}(h:ISet es s)(q b:Nat):ISet (es.push { key:=nv q,val:=.agg #[],born:=b }) (putP s q true):=by
 refine⟨fun e he=>?_,fun r=>?_⟩
 ·
  simp only[Array.toList_push,List.mem_append,List.mem_singleton] at he;rcases he with he|rfl
  · exact h.1 e he
  · exact⟨rfl,q,rfl⟩
 ·
  simp only[Array.toList_push,List.mem_append,List.mem_singleton];by_cases hr:r=q
  ·
   subst hr;rw[Qab];simp
  ·
   rw[Qaa _ _ hr,h.2 r];constructor
   · rintro⟨e,he,hk⟩
     exact⟨e,Or.inl he,hk⟩
   ·
    rintro⟨e,he|rfl,hk⟩
    · exact⟨e,he,hk⟩
    · exact absurd (Qna hk).symm hr
theorem Qeb(q:Nat):∀d,Tryz.prog.underlying 3=some d→IsKey d (nv q):=fun d hd=>by
 rw[Tryz.underlying3] at hd;cases hd;simp[IsKey]
theorem Qec{es:Array MapEntry}{s:PSet}(h:ISet es s)(q:Nat)(w:World):∃x,(Instr.findKey 3 (nv q) es.toList).run Tryz.prog w=.ok x w∧(s q=true→∃j,x=some (j,.agg #[]))∧(s q=false→x=none):=by
 have hk:∀(d:TypeDesc),Tryz.prog.underlying 3=some d→∀x∈ es.toList,IsKey d x.key:=fun d hd x hx=>by
  obtain⟨_,r,hr⟩:=h.1 x hx;rw[hr];exact Qeb r d hd
 rcases findNow_spec (Qeb q _ Tryz.underlying3) es.toList 0 (hk _ Tryz.underlying3) with ⟨h1,h2⟩|⟨j,e,h1,h2,h3⟩
 ·
  refine⟨none,run_findKey Tryz.underlying3 h1,fun hs=>?_,fun _=>rfl⟩;obtain⟨e,he,hk⟩:=(h.2 q).1 hs;exact absurd hk (h2 e he)
 ·
  have he:=List.mem_of_getElem? h2;refine⟨_,run_findKey Tryz.underlying3 h1,fun _=>⟨_,by rw[(h.1 e he).1]⟩,fun hs=>?_⟩;rw[(h.2 q).2 ⟨e,he,h3⟩] at hs;cases hs
theorem Qcq(b:Bool)(q:Nat)(w:World):(Instr.checkKey b 10000 3 (nv q)).run Tryz.prog w=.ok () w:=run_checkKey Tryz.underlying3 (Qeb q _ Tryz.underlying3) b 9999
theorem Qhg:∀w,(zeroValue 176).run Tryz.prog w=.ok (.agg #[]) w:=by
 intro w;obtain⟨i,hi,h⟩:=Option.map_eq_some_iff.1 (show (Tryz.prog.info? 176).map (·.zero)=some (some (.agg #[])) by kernel_rfl);simp[zeroValue,typeInfo,hi,h]
theorem Qnb{w:World}{gm:Nat}{es:Array MapEntry}{c:Nat}{s:PSet}(hm:w.heap[gm]?=some (.map es c))(h:ISet es s)(q:Nat):
 (Instr.lookup 194 (.map (some gm)) (nv q) true).run Tryz.prog w=.ok (.tuple #[.agg #[],.bool (s q)]) w:=by
 obtain⟨x,h1,h2,h3⟩:=Qec h q w;cases hs:s q with
 |true=>
  obtain⟨j,rfl⟩:=h2 hs;simp[Instr.lookup,run_underlying Tryz.underlying194,Go.MapKept.run_getObj_map hm,Qcq,h1]
 |false=>
  obtain rfl:=h3 hs;simp[Instr.lookup,run_underlying Tryz.underlying194,Go.MapKept.run_getObj_map hm,Qcq,h1,Qhg]
theorem Qnc{w:World}{gm:Nat}{es:Array MapEntry}{c:Nat}{s:PSet}(hm:w.heap[gm]?=some (.map es c))(h:ISet es s)(q:Nat)(hq:s q=false):
 (Instr.mapUpdate 194 (.map (some gm)) (nv q) (.agg #[])).run Tryz.prog w=.ok () { w with heap:=w.heap.setIfInBounds gm (.map (es.push { key:=nv q,val:=.agg #[],born:=c }) (c+1)) }:=by
 obtain⟨x,h1,h2,h3⟩:=Qec h q w;obtain rfl:=h3 hq;simp[Instr.mapUpdate,run_underlying Tryz.underlying194,Go.MapKept.run_getObj_map hm,Qcq,h1,Go.MapKept.run_setObj_map _ hm,Result.andThen]
theorem Qcr{w:World}{gm:Nat}{es:Array MapEntry}{c:Nat}{s:PSet}(hm:w.heap[gm]?=some (.map es c))(h:ISet es s)(q:Nat)(hq:s q=false):
 (Instr.mapEntry 194 (.map (some gm)) (nv q)).run Tryz.prog w=.ok (.tuple #[.agg #[],.int .i64 (c:Int)]) { w with heap:=w.heap.setIfInBounds gm (.map (es.push { key:=nv q,val:=.agg #[],born:=c }) (c+1)) }:=by
 obtain⟨x,h1,h2,h3⟩:=Qec h q w;obtain rfl:=h3 hq;simp[Instr.mapEntry,run_underlying Tryz.underlying194,Go.MapKept.run_getObj_map hm,Qcq,h1,Go.MapKept.run_setObj_map _ hm,Result.andThen,Qhg,goInt]
theorem Qbi{w:World}{gm:Nat}{es:Array MapEntry}{c:Nat}{s:PSet}(hm:w.heap[gm]?=some (.map es c))(h:ISet es s)(b:Nat)(hb:∃e∈ es.toList,e.born=b):
 (Instr.entryStore 194 (.map (some gm)) (.int .i64 (b:Int)) (.agg #[])).run Tryz.prog w=.ok () w:=by
 have hf:∃i,es.findIdx? (fun e=>(e.born:Int) == (b:Int))=some i:=by
  cases hc:es.findIdx? (fun e=>(e.born:Int) == (b:Int)) with
  |some i=>exact⟨i,rfl⟩
  |none=>
   exfalso
   obtain⟨e,he,hbe⟩:=hb;have:=(Array.findIdx?_eq_none_iff.1 hc) e (Array.mem_toList_iff.1 he);simp[hbe] at this
 obtain⟨i,hi⟩:=hf;have hsame:es.modify i (fun e=>{ e with val:=.agg #[] })=es:=by
  apply Array.ext';apply List.ext_getElem?;intro j;simp only[Array.toList_modify,List.getElem?_modify];cases hj:es.toList[j]? with
  |none=>simp
  |some e=>
   have:=(h.1 e (List.mem_of_getElem? hj)).1;by_cases hij:i=j
   ·
    simp[hij];cases e;simp at this;simp[this]
   · simp[hij]
 have hw:({ w with heap:=w.heap.setIfInBounds gm (.map es c) }:World)=w:=by
  have:w.heap.setIfInBounds gm (.map es c)=w.heap:=by
   apply Array.ext_getElem?;intro j;rw[Array.getElem?_setIfInBounds];by_cases hj:gm=j
   ·
    subst hj;rw[hm];simp[(Array.getElem?_eq_some_iff.1 hm).1]
   · simp[hj]
  rw[this]
 simp[Instr.entryStore,Go.MapKept.run_getObj_map hm,asInt,asIntOf,hi,Go.MapKept.run_setObj_map _ hm,Result.andThen,hsame,hw]
theorem Qnd{w:World}{gm:Nat}{es:Array MapEntry}{c:Nat}(hm:w.heap[gm]?=some (.map es c))(ty:TypeId):
 (Builtin.clear_ #[194] ty #[.map (some gm)]).run Tryz.prog w=.ok (.tuple #[]) { w with heap:=w.heap.setIfInBounds gm (.map #[] c) }:=by
 simp[Builtin.clear_,run_underlying Tryz.underlying194,Go.MapKept.run_getObj_map hm,Go.MapKept.run_setObj_map _ hm,Result.andThen]
end Go.Proofs.YtbbkamnfjejceaaGreatDoor.Peb
