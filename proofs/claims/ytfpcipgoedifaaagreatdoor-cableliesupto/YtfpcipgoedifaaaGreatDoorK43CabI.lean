/- package cable: sidesOf. -/
import Derived.Test.YtfpcipgoedifaaaGreatDoorK42CabS
namespace Go.Proofs.YtfpcipgoedifaaaGreatDoor
open Go.RowKit
set_option linter.unusedVariables false
set_option linter.unusedSimpArgs false
theorem Qba(w:World)(o:Obj):(w.alloc o).heap.size=w.heap.size+1:=by
 show (w.heap.push o).size=_
 rw[Array.size_push]
theorem Qew(w:World)(o1 o2 o3:Obj):Below w.heap.size w (((w.alloc o1).alloc o2).alloc o3):=
 ((bR.alloc lZ o1).alloc (by rw[Qba];omega) o2).alloc (by rw[Qba,Qba];omega) o3
structure SdZ (u:World) (B n ga gl gh:Nat):Prop where
 xa:RB u ga n 4194305 (fun _=>0) (List.replicate n FE.zero)
 ld:RB u gl n 4194305 (fun _=>0) (List.replicate n FE.zero)
 hd:SB u gh 4 (boolsV (List.replicate n false)).toArray
 ne:ga≠gl
 la:B<=ga
 ll:B<=gl
 lh:B<=gh
theorem SdZ.below{u u':World}{B n ga gl gh:Nat}(h:SdZ u B n ga gl gh)(hb:Below u.heap.size u u'):SdZ u' B n ga gl gh:=⟨h.xa.below hb,h.ld.below hb,h.hd.below hb h.hd.lt,h.ne,h.la,h.ll,h.lh⟩
theorem RB.onlyS{u u':World}{S g n K:Nat}{x:Vec}{us:List FE}{t:TypeId}{C:Array Value}(h:RB u g n K x us)(hs:SB u S t C)(hC:∀v,v∈ C.toList->IsSl v)(ho:Only S u u')(hne:g≠S):RB u' g n K x us:=
 ⟨⟨h.blk.blk.only ho hne,fun t ht=>⟨(h.blk.ts t ht).1.fr (Fr.of_only ho hs (IsSl.plain hC)),(h.blk.ts t ht).2⟩⟩,h.len,h.val⟩
theorem SdZ.onlyS{u u':World}{S B n ga gl gh:Nat}{t:TypeId}{C:Array Value}(h:SdZ u B n ga gl gh)(hs:SB u S t C)(hC:∀v,v∈ C.toList->IsSl v)(ho:Only S u u')(hB:S<B):SdZ u' B n ga gl gh:=
 ⟨h.xa.onlyS hs hC ho (by have:=h.la;omega),h.ld.onlyS hs hC ho (by have:=h.ll;omega),h.hd.only ho (by have:=h.lh;omega),h.ne,h.la,h.ll,h.lh⟩
section
variable {u:World} {n B:Nat} {MC MB:Array Value}
theorem Qc6(h1:((List.replicate n FE.zero).flatMap FE.cells).toArray=MC)(h2:(boolsV (List.replicate n false)).toArray=MB)(hB:B<=u.heap.size):SdZ (((u.alloc (.cells MC 103)).alloc (.cells MC 103)).alloc (.cells MB 4)) B n u.heap.size (u.heap.size+1) (u.heap.size+1+1)/\SdZ (((u.alloc (.cells MC 103)).alloc (.cells MC 103)).alloc (.cells MB 4)) B n (u.heap.size+1) u.heap.size (u.heap.size+1+1):=by
 have r1:=((RB.new u n 4194305 MC h1.symm (by decide)).below (bR.alloc lZ (.cells MC 103))).below (bR.alloc lZ (.cells MB 4));have r2:=(RB.new (u.alloc (.cells MC 103)) n 4194305 MC h1.symm (by decide)).below (bR.alloc lZ (.cells MB 4));have r3:=SB.new ((u.alloc (.cells MC 103)).alloc (.cells MC 103)) 4 MB;simp only[Qba] at r2 r3;rw[<-h2] at r3 ⊢;rw[<-h2] at r1 r2;exact⟨⟨r1,r2,r3,by omega,by omega,by omega,by omega⟩,⟨r2,r1,r3,by omega,by omega,by omega,by omega⟩⟩
theorem Qc7(h1:((List.replicate n FE.zero).flatMap FE.cells).toArray=MC)(h2:(boolsV (List.replicate n false)).toArray=MB)(hB:B<=u.heap.size):SdZ (((u.alloc (.cells MC 103)).alloc (.cells MB 4)).alloc (.cells MC 103)) B n u.heap.size (u.heap.size+1+1) (u.heap.size+1)/\SdZ (((u.alloc (.cells MC 103)).alloc (.cells MB 4)).alloc (.cells MC 103)) B n (u.heap.size+1+1) u.heap.size (u.heap.size+1):=by
 have r1:=((RB.new u n 4194305 MC h1.symm (by decide)).below (bR.alloc lZ (.cells MB 4))).below (bR.alloc lZ (.cells MC 103));have r2:=RB.new ((u.alloc (.cells MC 103)).alloc (.cells MB 4)) n 4194305 MC h1.symm (by decide);have r3:=(SB.new (u.alloc (.cells MC 103)) 4 MB).alloc (.cells MC 103);simp only[Qba] at r2 r3;rw[<-h2] at r3 ⊢;rw[<-h2] at r1 r2;exact⟨⟨r1,r2,r3,by omega,by omega,by omega,by omega⟩,⟨r2,r1,r3,by omega,by omega,by omega,by omega⟩⟩
theorem Qc8(h1:((List.replicate n FE.zero).flatMap FE.cells).toArray=MC)(h2:(boolsV (List.replicate n false)).toArray=MB)(hB:B<=u.heap.size):SdZ (((u.alloc (.cells MB 4)).alloc (.cells MC 103)).alloc (.cells MC 103)) B n (u.heap.size+1) (u.heap.size+1+1) u.heap.size/\SdZ (((u.alloc (.cells MB 4)).alloc (.cells MC 103)).alloc (.cells MC 103)) B n (u.heap.size+1+1) (u.heap.size+1) u.heap.size:=by
 have r1:=(RB.new (u.alloc (.cells MB 4)) n 4194305 MC h1.symm (by decide)).below (bR.alloc lZ (.cells MC 103));have r2:=RB.new ((u.alloc (.cells MB 4)).alloc (.cells MC 103)) n 4194305 MC h1.symm (by decide);have r3:=((SB.new u 4 MB).alloc (.cells MC 103)).alloc (.cells MC 103);simp only[Qba] at r1 r2 r3;rw[<-h2] at r3 ⊢;rw[<-h2] at r1 r2;exact⟨⟨r1,r2,r3,by omega,by omega,by omega,by omega⟩,⟨r2,r1,r3,by omega,by omega,by omega,by omega⟩⟩
end
def noV:List Value:=[.slice none 0 0,.slice none 0 0,.slice none 0 0]
theorem sd_sl(n ga gl gh:Nat):∀u,u∈ sdV n ga gl gh->IsSl u:=fun u hu=>by
 simp only[sdV,List.mem_cons,List.not_mem_nil,or_false] at hu;rcases hu with rfl|rfl|rfl<;>exact⟨_,_,_,rfl⟩
theorem no_sl:∀u,u∈ noV->IsSl u:=fun u hu=>by
 simp only[noV,List.mem_cons,List.not_mem_nil,or_false] at hu;rcases hu with rfl|rfl|rfl<;>exact⟨_,_,_,rfl⟩
def SdRel(w u:World)(F:Array Value)(S n k:Nat):Prop:=
 Below w.heap.size w u/\SB u w.heap.size 26 F/\SB u (w.heap.size+1) 75 #[.slice none 0 0,.slice none 0 0,.slice none 0 0,.slice none 0 0,.slice none 0 0,.slice none 0 0]/\((k=0/\SB u S 75 (noV++noV).toArray)∨(k=1/\∃ga gl gh,SB u S 75 (sdV n ga gl gh++noV).toArray/\SdZ u (S+1) n ga gl gh)∨
 (k=2/\∃ga gl gh ga' gl' gh',SB u S 75 (sdV n ga gl gh++sdV n ga' gl' gh').toArray/\SdZ u (S+1) n ga gl gh/\∃B',SdZ u B' n ga' gl' gh'/\S<B'/\ga<B'/\gl<B'/\gh<B'))
def SpotT(js:List S2)(xv yv:Vec):Prop:=∀(k:Nat) (s:S2),js[k]?=some s->QOf s.x.data.toList (xv k)/\QOf s.y.data.toList (yv k)/\s.x.size<=1048576/\s.y.size<=1048576
def LoadT(n:Nat)(ls:List L3)(lj:Nat->Nat)(lx ly:Vec):Prop:=∀(k:Nat) (l:L3),ls[k]?=some l->l.j=(lj k:Int)/\lj k<n/\QOf l.x.data.toList (lx k)/\QOf l.y.data.toList (ly k)/\l.x.size<=1048576/\l.y.size<=1048576
def HoldT(n:Nat)(hs:List H3)(hj hw:Nat->Nat):Prop:=∀(k:Nat) (h:H3),hs[k]?=some h->h.j=(hj k:Int)/\h.w=(hw k:Int)+1/\hj k<n/\hw k<2
def cutV(x:Vec)(k:Nat):Vec:=fun i=>if i<k then x i else 0
def ldK(lj:Nat->Nat)(lx:Vec):Nat->Vec
 |0,_=>0
 |k+1,i=>if i=lj k then ldK lj lx k i+lx k else ldK lj lx k i
def hdK(n:Nat)(hj hw:Nat->Nat)(way k:Nat):List Bool:=(List.range n).map fun j=>(List.range k).any fun i=>hw i == way && hj i == j
theorem Qg1(n:Nat)(hj hw:Nat->Nat)(way:Nat):hdK n hj hw way 0=List.replicate n false:=by
 unfold hdK;apply List.ext_getElem?;intro i;rw[List.getElem?_map,List.getElem?_replicate];rcases Nat.lt_or_ge i n with h|h
 · rw[List.getElem?_range h,if_pos h]
   rfl
 · rw[if_neg (by omega),List.getElem?_eq_none (by simpa using h)]
   rfl
theorem Qg2{n k way:Nat}{hj hw:Nat->Nat}(hj':hj k<n)(h:hw k=way):(hdK n hj hw way k).set (hj k) true=hdK n hj hw way (k+1):=by
 apply List.ext_getElem?;intro i;unfold hdK;rw[List.getElem?_set,List.getElem?_map];by_cases hi:hj k=i
 · subst hi
   simp[hj',List.range_succ,h]
 ·
  rw[if_neg hi];rcases Nat.lt_or_ge i n with h1|h1
  · simp[List.getElem?_range h1,List.range_succ,hi]
  · simp[List.getElem?_eq_none (by simpa using h1:(List.range n).length<=i)]
theorem Qg3{n k way:Nat}{hj hw:Nat->Nat}(h:hw k≠way):hdK n hj hw way k=hdK n hj hw way (k+1):=by
 unfold hdK;refine List.map_congr_left fun i _=>?_
 simp[List.range_succ,h]
theorem SdS.monoL{w u:World}{F:Array Value}{n S bx cx ga gl gh ga' gl' gh' KL KL':Nat}{X LX Y LY:Vec}{hx hy:List Bool}(h:SdS w u F n S bx cx ga gl gh ga' gl' gh' KL X LX hx Y LY hy)(hK:KL<=KL'):SdS w u F n S bx cx ga gl gh ga' gl' gh' KL' X LX hx Y LY hy:=by
 obtain⟨h1,hf,hr,h2,h3,h4,h5,⟨x2,h6⟩,h7,h8,⟨x4,h9⟩,h10⟩:=h;exact⟨h1,hf,hr,h2,h3,h4,h5,⟨x2,h6.mono hK⟩,h7,h8,⟨x4,h9.mono hK⟩,h10⟩
theorem SdS.of{w wr u:World}{F:Array Value}{n S bx cx ga gl gh ga' gl' gh' B':Nat}(hb:Below w.heap.size w wr)(hf:SB wr w.heap.size 26 F)(hr:SB wr (w.heap.size+1) 75 #[.slice none 0 0,.slice none 0 0,.slice none 0 0,.slice none 0 0,.slice none 0 0,.slice none 0 0])(hs:SB wr S 75 (sdV n ga gl gh++sdV n ga' gl' gh').toArray)(hz:SdZ wr (S+1) n ga gl gh)(hz':SdZ wr B' n ga' gl' gh')(hu:Below wr.heap.size wr u)(h1:SB u bx 74 #[.slice (some ⟨ga,0,none⟩) n n,.slice (some ⟨gl,0,none⟩) n n,.slice (some ⟨gh,0,none⟩) n n])(h2:SB u cx 74 #[.slice (some ⟨ga',0,none⟩) n n,.slice (some ⟨gl',0,none⟩) n n,.slice (some ⟨gh',0,none⟩) n n]):
 SdS w u F n S bx cx ga gl gh ga' gl' gh' 4194305 (fun _=>0) (fun _=>0) (List.replicate n false) (fun _=>0) (fun _=>0) (List.replicate n false):=
 ⟨hb.trans (hu.mono hb.size),hf.below hu hf.lt,hr.below hu hr.lt,hs.below hu hs.lt,h1,h2,⟨_,(hz.below hu).xa⟩,⟨_,(hz.below hu).ld⟩,(hz.below hu).hd,⟨_,(hz'.below hu).xa⟩,⟨_,(hz'.below hu).ld⟩,(hz'.below hu).hd⟩
section
variable {w wr X:World} {S n ga gl gh:Nat} {F:Array Value}
theorem SdRel.one(hb:Below w.heap.size w wr)(hf:SB wr w.heap.size 26 F)(hr:SB wr (w.heap.size+1) 75 #[.slice none 0 0,.slice none 0 0,.slice none 0 0,.slice none 0 0,.slice none 0 0,.slice none 0 0])(hS:w.heap.size+1<S)(hs:SB wr S 75 (noV++noV).toArray)(hX:Below wr.heap.size wr X)(hz:SdZ X (S+1) n ga gl gh):SdRel w (((X.setCell ⟨S,0,none⟩ (.slice (some ⟨ga,0,none⟩) n n)).setCell ⟨S,1,none⟩ (.slice (some ⟨gl,0,none⟩) n n)).setCell ⟨S,2,none⟩ (.slice (some ⟨gh,0,none⟩) n n)).drew F S n 1:=by
 have h1:=hs.below hX hs.lt;have ho:=(((Only.refl S X).setCell 0 (.slice (some ⟨ga,0,none⟩) n n)).setCell 1 (.slice (some ⟨gl,0,none⟩) n n)).setCell 2 (.slice (some ⟨gh,0,none⟩) n n);have h2:=((h1.set 0 (.slice (some ⟨ga,0,none⟩) n n)).set 1 (.slice (some ⟨gl,0,none⟩) n n)).set 2 (.slice (some ⟨gh,0,none⟩) n n);have h3:=hz.onlyS h1 (fun v hv=>no_sl v (by simpa using hv)) ho (Nat.lt_succ_self _);refine⟨(Only.fresh (hb.trans (hX.mono hb.size)) ho (by omega)).drew,((hf.below hX hf.lt).only ho (by omega)).drew,((hr.below hX hr.lt).only ho (by omega)).drew,.inr (.inl ⟨rfl,ga,gl,gh,?_,h3.below bR.drew⟩)⟩;exact(by simpa [sdV,noV] using h2:SB _ S 75 (sdV n ga gl gh++noV).toArray).below bR.drew (by simpa using h2.lt)
theorem SdRel.two{ga' gl' gh':Nat}(hb:Below w.heap.size w wr)(hf:SB wr w.heap.size 26 F)(hr:SB wr (w.heap.size+1) 75 #[.slice none 0 0,.slice none 0 0,.slice none 0 0,.slice none 0 0,.slice none 0 0,.slice none 0 0])(hS:w.heap.size+1<S)(hs:SB wr S 75 (sdV n ga gl gh++noV).toArray)(h0:SdZ wr (S+1) n ga gl gh)(hX:Below wr.heap.size wr X)(hz:SdZ X wr.heap.size n ga' gl' gh'):SdRel w (((X.setCell ⟨S,3,none⟩ (.slice (some ⟨ga',0,none⟩) n n)).setCell ⟨S,4,none⟩ (.slice (some ⟨gl',0,none⟩) n n)).setCell ⟨S,5,none⟩ (.slice (some ⟨gh',0,none⟩) n n)).drew F S n 2:=by
 have h1:=hs.below hX hs.lt;have hc:∀v,v∈ (sdV n ga gl gh++noV).toArray.toList->IsSl v:=fun v hv=>by
  rcases List.mem_append.1 (show v∈ sdV n ga gl gh++noV from by simpa using hv) with h|h
  · exact sd_sl _ _ _ _ v h
  · exact no_sl v h
 have ho:=(((Only.refl S X).setCell 3 (.slice (some ⟨ga',0,none⟩) n n)).setCell 4 (.slice (some ⟨gl',0,none⟩) n n)).setCell 5 (.slice (some ⟨gh',0,none⟩) n n);have h2:=((h1.set 3 (.slice (some ⟨ga',0,none⟩) n n)).set 4 (.slice (some ⟨gl',0,none⟩) n n)).set 5 (.slice (some ⟨gh',0,none⟩) n n);have h3:=hz.onlyS h1 hc ho hs.lt;have h4:=(h0.below hX).onlyS h1 hc ho (Nat.lt_succ_self _);have hdr:Below (((X.setCell ⟨S,3,none⟩ (.slice (some ⟨ga',0,none⟩) n n)).setCell ⟨S,4,none⟩ (.slice (some ⟨gl',0,none⟩) n n)).setCell ⟨S,5,none⟩ (.slice (some ⟨gh',0,none⟩) n n)).heap.size _ _:=(Below.refl _ (((X.setCell ⟨S,3,none⟩ (.slice (some ⟨ga',0,none⟩) n n)).setCell ⟨S,4,none⟩ (.slice (some ⟨gl',0,none⟩) n n)).setCell ⟨S,5,none⟩ (.slice (some ⟨gh',0,none⟩) n n))).drew
 refine⟨(Only.fresh (hb.trans (hX.mono hb.size)) ho (by omega)).drew,((hf.below hX hf.lt).only ho (by omega)).drew,((hr.below hX hr.lt).only ho (by omega)).drew,.inr (.inr ⟨rfl,ga,gl,gh,ga',gl',gh',?_,h4.below hdr,wr.heap.size,h3.below hdr,hs.lt,h0.xa.blk.blk.lt,h0.ld.blk.blk.lt,h0.hd.lt⟩)⟩;exact(by simpa [sdV,noV] using h2:SB _ S 75 (sdV n ga gl gh++sdV n ga' gl' gh').toArray).below hdr (by simpa using h2.lt)
end
theorem Qg4(x:Vec):cutV x 0=fun _=>0:=funext fun i=>by
 unfold cutV;rw[if_neg (by omega)]
theorem Qg5(x:Vec)(k:Nat):upd (cutV x k) k (x k)=cutV x (k+1):=funext fun i=>by
 unfold upd cutV;by_cases h:i=k
 · subst h
   rw[if_pos rfl,if_pos (by omega)]
 ·
  rw[if_neg h];by_cases h2:i<k
  · rw[if_pos h2,if_pos (by omega)]
  · rw[if_neg h2,if_neg (by omega)]
theorem Qm3{u:World}{g n K i:Nat}{X:Vec}{q:Rat}{x y z:Value}(hi:i<n)(hf:FF q K (.agg #[x,y,z]) u)(h:∃us,RB u g n K X us∨RB u g n K (upd X i q) us):PutF g n K i q X undef (((u.setCell ⟨g,i*3,none⟩ x).setCell ⟨g,i*3+1,none⟩ y).setCell ⟨g,i*3+2,none⟩ z):=by
 obtain⟨us,h|h⟩:=h
 · exact⟨_,h.set hi hf (upd X i q) (fun j=>rfl)⟩
 ·
  have:=h.set hi hf (upd (upd X i q) i q) (fun j=>rfl);rw[Qex] at this;exact⟨_,this⟩
theorem Qm4:(Tryz.prog.info? 75).map (·.size)=some 6:=by kernel_rfl
def SidesAt(w w':World)(n ga gl gh ga' gl' gh':Nat)(X LX:Vec)(hx:List Bool)(Y LY:Vec)(hy:List Bool):Prop:=
 Below w.heap.size w w'/\(∃us,RB w' ga n 4194305 X us)/\(∃us,RB w' gl n 171966545 LX us)/\SB w' gh 4 (boolsV hx).toArray/\(∃us,RB w' ga' n 4194305 Y us)/\(∃us,RB w' gl' n 171966545 LY us)/\SB w' gh' 4 (boolsV hy).toArray
def SidesSays(w:World)(n:Nat)(X LX:Vec)(hx:List Bool)(Y LY:Vec)(hy:List Bool)(e:Ending)(w':World):Prop:=
 ∃ga gl gh ga' gl' gh',e=.returned (.agg #[.slice (some ⟨ga,0,none⟩) n n,.slice (some ⟨gl,0,none⟩) n n,.slice (some ⟨gh,0,none⟩) n n,.slice (some ⟨ga',0,none⟩) n n,.slice (some ⟨gl',0,none⟩) n n,.slice (some ⟨gh',0,none⟩) n n])/\SidesAt w w' n ga gl gh ga' gl' gh' X LX hx Y LY hy
theorem RB.exS{u u':World}{S g n K:Nat}{x:Vec}{t:TypeId}{C:Array Value}(h:∃us,RB u g n K x us)(hs:SB u S t C)(hC:∀v,v∈ C.toList->IsSl v)(ho:Only S u u')(ht:103≠t):∃us,RB u' g n K x us:=by
 obtain⟨us,h⟩:=h;exact⟨us,h.onlyS hs hC ho (h.blk.blk.unlike hs ht)⟩
theorem Qm5{w u u':World}{F:Array Value}{n S bx cx ga gl gh ga' gl' gh':Nat}{X LX Y LY:Vec}{hx hy:List Bool}(h:SdS w u F n S bx cx ga gl gh ga' gl' gh' 171966545 X LX hx Y LY hy)(ho:Only (w.heap.size+1) u u'):SidesAt w u' n ga gl gh ga' gl' gh' X LX hx Y LY hy:=by
 have hc:∀v,v∈ (#[.slice none 0 0,.slice none 0 0,.slice none 0 0,.slice none 0 0,.slice none 0 0,.slice none 0 0]:Array Value).toList->IsSl v:=fun v hv=>by
  simp only[List.mem_cons,List.not_mem_nil,or_false] at hv;rcases hv with rfl|rfl|rfl|rfl|rfl|rfl<;>exact⟨_,_,_,rfl⟩
 exact⟨Only.fresh h.base ho (Nat.le_succ _),RB.exS h.xa h.rb hc ho (by decide),RB.exS h.xl h.rb hc ho (by decide),h.xh.only ho (h.xh.unlike h.rb (by decide)),RB.exS h.ya h.rb hc ho (by decide),RB.exS h.yl h.rb hc ho (by decide),h.yh.only ho (h.yh.unlike h.rb (by decide))⟩
set_option maxRecDepth 100000 in
set_option maxHeartbeats 4000000 in
theorem Qg6(a1 a2 a3 al:Option Addr)(c1 c2 c3 cl n m nh:Nat)(js:List S2)(hs:List H3)(ls:List L3)(w:World)(hjr:ARow S2.cells w a1 c1 js)(hh:ARow H3.cells w a3 c3 hs)(hl:ARow L3.cells w al cl ls)(hn:js.length=n)(hnh:hs.length=nh)(n1:n<=10)(n3:nh<=20)(n4:ls.length<=20)(hg:Glob w)(xv yv lx ly:Vec)(lj hj hw:Nat->Nat)(hjt:SpotT js xv yv)(hlt:LoadT n ls lj lx ly)(hht:HoldT n hs hj hw):
 Calls Tryz.prog 26 #[.agg #[.slice a1 n c1,.slice a2 m c2,.slice a3 nh c3],.slice al ls.length cl] w (SidesSays w n (cutV xv n) (ldK lj lx ls.length) (hdK n hj hw 0 nh) (cutV yv n) (ldK lj ly ls.length) (hdK n hj hw 1 nh)):=by
 have HJ:=Hi hjr;have HJT:=Hi hjt;have HLT:=Hi hlt;have HHT:=Hi hht;have HH:=Hi hh;have HL:=Hi hl;have HG:=Hi hg;have HN:=Hi (And.intro hn hnh);clear hjr hh hl hg hn hnh hjt hlt hht;obtain⟨V,hV⟩:=nm (((w.alloc (.cells #[.slice a1 n c1,.slice a2 m c2,.slice a3 nh c3] 26)).alloc (.cells #[.slice none 0 0,.slice none 0 0,.slice none 0 0,.slice none 0 0,.slice none 0 0,.slice none 0 0] 75)).alloc (.cells #[.slice none 0 0,.slice none 0 0,.slice none 0 0,.slice none 0 0,.slice none 0 0,.slice none 0 0] 75));have HVE:=Hi hV;obtain⟨S,hS⟩:=nm (w.heap.size+1+1);have H0:Hid (SdRel w V #[.slice a1 n c1,.slice a2 m c2,.slice a3 nh c3] S n 0):=Hi (by
  rw[<-hV,<-hS];exact⟨Qew _ _ _ _,((SB.new w _ _).alloc _).alloc _,(SB.new2 w _ _ _ _).alloc _,.inl ⟨rfl,by
   have h:=SB.new ((w.alloc (.cells #[.slice a1 n c1,.slice a2 m c2,.slice a3 nh c3] 26)).alloc (.cells #[.slice none 0 0,.slice none 0 0,.slice none 0 0,.slice none 0 0,.slice none 0 0,.slice none 0 0] 75)) 75 #[.slice none 0 0,.slice none 0 0,.slice none 0 0,.slice none 0 0,.slice none 0 0,.slice none 0 0];rw[Qba,Qba] at h
   exact h⟩⟩)
 have HSE:=Hi hS;have HSL:Hid (w.heap.size+1<S):=Hi (by omega);clear hS;clear hV;go_enter Tryz.func26,Tryz.ntmps26;go_wp2_with fail;rw[HVE.out];rw[HSE.out];go_loopw [19] (fun iv wr=>∃k:Nat,iv=.int .i64 k/\SdRel w wr #[.slice a1 n c1,.slice a2 m c2,.slice a3 nh c3] S n k) (fun iv _=>2 - (intOf iv).toNat)
 case atStart=>exact⟨0,rfl,H0.out⟩
 case round=>
  obtain⟨k,rfl,hb,hfb,hrb,⟨rfl,hs⟩|⟨rfl,ga,gl,gh,hs,hz⟩|⟨rfl,ga,gl,gh,ga',gl',gh',hs,hz,B',hz',hB1,hB2,hB3,hB4⟩⟩:=hrel
  ·
   have hmk:=fun u=>Qa6 n (by omega) u
   have hmb:=fun u=>Qib n (by omega) u
   obtain⟨MC,hMC⟩:=nm (((List.replicate n FE.zero).flatMap FE.cells).toArray);obtain⟨MB,hMB⟩:=nm ((boolsV (List.replicate n false)).toArray);rw[hMC] at hmk;rw[hMB] at hmb;have HMC:=Hi (And.intro hMC hMB);have HS:=Hi hs;have HB:=Hi hb;have HFB:=Hi hfb;have HRB:=Hi hrb;have HSZ:Hid (S+1<=wr.heap.size):=Hi hs.lt;have hx:∀o1 o2 o3,SB (((wr.alloc o1).alloc o2).alloc o3) S 75 (noV++noV).toArray:=fun o1 o2 o3=>((hs.alloc o1).alloc o2).alloc o3
   have s0:∀o1 o2 o3,(((wr.alloc o1).alloc o2).alloc o3).cell? ⟨S,0,none⟩=some (.slice none 0 0):=fun o1 o2 o3=>(hx o1 o2 o3).cell 0
   have s1:∀o1 o2 o3,(((wr.alloc o1).alloc o2).alloc o3).cell? ⟨S,1,none⟩=some (.slice none 0 0):=fun o1 o2 o3=>(hx o1 o2 o3).cell 1
   have s2:∀o1 o2 o3,(((wr.alloc o1).alloc o2).alloc o3).cell? ⟨S,2,none⟩=some (.slice none 0 0):=fun o1 o2 o3=>(hx o1 o2 o3).cell 2
   have f0:∀o1 o2 o3,(((wr.alloc o1).alloc o2).alloc o3).frozen? ⟨S,0,none⟩=false:=fun o1 o2 o3=>(hx o1 o2 o3).free 0
   have f1:∀o1 o2 o3,(((wr.alloc o1).alloc o2).alloc o3).frozen? ⟨S,1,none⟩=false:=fun o1 o2 o3=>(hx o1 o2 o3).free 1
   have f2:∀o1 o2 o3,(((wr.alloc o1).alloc o2).alloc o3).frozen? ⟨S,2,none⟩=false:=fun o1 o2 o3=>(hx o1 o2 o3).free 2
   clear hMC hMB hs hb hfb hrb hx;go_wp2_with fail;go_region
   all_goals
    go_wp2;go_roundw
    case rel=>
     refine⟨1,by go_num,SdRel.one HB.out HFB.out HRB.out HSL.out HS.out (Qew _ _ _ _) ?_⟩
     first
      |exact(Qc6 HMC.out.1 HMC.out.2 HSZ.out).1
      |exact(Qc6 HMC.out.1 HMC.out.2 HSZ.out).2
      |exact(Qc7 HMC.out.1 HMC.out.2 HSZ.out).1
      |exact(Qc7 HMC.out.1 HMC.out.2 HSZ.out).2
      |exact(Qc8 HMC.out.1 HMC.out.2 HSZ.out).1
      |exact(Qc8 HMC.out.1 HMC.out.2 HSZ.out).2
    case measure=>simp[intOf]
  ·
   have hmk:=fun u=>Qa6 n (by omega) u
   have hmb:=fun u=>Qib n (by omega) u
   obtain⟨MC,hMC⟩:=nm (((List.replicate n FE.zero).flatMap FE.cells).toArray);obtain⟨MB,hMB⟩:=nm ((boolsV (List.replicate n false)).toArray);rw[hMC] at hmk;rw[hMB] at hmb;have HMC:=Hi (And.intro hMC hMB);have HS:=Hi hs;have HB:=Hi hb;have HFB:=Hi hfb;have HRB:=Hi hrb;have HZ:=Hi hz;have hx:∀o1 o2 o3,SB (((wr.alloc o1).alloc o2).alloc o3) S 75 (sdV n ga gl gh++noV).toArray:=fun o1 o2 o3=>((hs.alloc o1).alloc o2).alloc o3
   have s0:∀o1 o2 o3,(((wr.alloc o1).alloc o2).alloc o3).cell? ⟨S,3,none⟩=some (.slice none 0 0):=fun o1 o2 o3=>(hx o1 o2 o3).cell 3
   have s1:∀o1 o2 o3,(((wr.alloc o1).alloc o2).alloc o3).cell? ⟨S,4,none⟩=some (.slice none 0 0):=fun o1 o2 o3=>(hx o1 o2 o3).cell 4
   have s2:∀o1 o2 o3,(((wr.alloc o1).alloc o2).alloc o3).cell? ⟨S,5,none⟩=some (.slice none 0 0):=fun o1 o2 o3=>(hx o1 o2 o3).cell 5
   have f0:∀o1 o2 o3,(((wr.alloc o1).alloc o2).alloc o3).frozen? ⟨S,3,none⟩=false:=fun o1 o2 o3=>(hx o1 o2 o3).free 3
   have f1:∀o1 o2 o3,(((wr.alloc o1).alloc o2).alloc o3).frozen? ⟨S,4,none⟩=false:=fun o1 o2 o3=>(hx o1 o2 o3).free 4
   have f2:∀o1 o2 o3,(((wr.alloc o1).alloc o2).alloc o3).frozen? ⟨S,5,none⟩=false:=fun o1 o2 o3=>(hx o1 o2 o3).free 5
   clear hMC hMB hs hb hfb hrb hx hz;go_wp2_with fail;go_region
   all_goals
    go_wp2;go_roundw
    case rel=>
     refine⟨2,by go_num,SdRel.two HB.out HFB.out HRB.out HSL.out HS.out HZ.out (Qew _ _ _ _) ?_⟩
     first
      |exact(Qc6 HMC.out.1 HMC.out.2 lZ).1
      |exact(Qc6 HMC.out.1 HMC.out.2 lZ).2
      |exact(Qc7 HMC.out.1 HMC.out.2 lZ).1
      |exact(Qc7 HMC.out.1 HMC.out.2 lZ).2
      |exact(Qc8 HMC.out.1 HMC.out.2 lZ).1
      |exact(Qc8 HMC.out.1 HMC.out.2 lZ).2
    case measure=>simp[intOf]
  ·
   have HS:=Hi hs;have HB:=Hi hb;have HFB:=Hi hfb;have HRB:=Hi hrb;have HZ:=Hi hz;have HZ':=Hi hz';have HBB:=Hi (And.intro hB1 (And.intro hB2 (And.intro hB3 hB4)));have hc:=hs.cell;simp only[sdV,List.cons_append,List.nil_append,List.getElem?_toArray] at hc;have s0:=hc 0;have s1:=hc 1;have s2:=hc 2;have s3:=hc 3;have s4:=hc 4;have s5:=hc 5;simp only[List.getElem?_cons_zero,List.getElem?_cons_succ] at s0 s1 s2 s3 s4 s5;have hxo:∀o,SB (wr.alloc o) S 75 (sdV n ga gl gh++sdV n ga' gl' gh').toArray:=fun o=>hs.alloc o
   have hx:∀o1 o2,SB ((wr.alloc o1).alloc o2) S 75 (sdV n ga gl gh++sdV n ga' gl' gh').toArray:=fun o1 o2=>(hs.alloc o1).alloc o2
   have t0:∀o,(wr.alloc o).cell? ⟨S,0,none⟩=some (.slice (some ⟨ga,0,none⟩) n n):=fun o=>(hxo o).cell 0
   have u0:∀o1 o2,((wr.alloc o1).alloc o2).cell? ⟨S,0,none⟩=some (.slice (some ⟨ga,0,none⟩) n n):=fun o1 o2=>(hx o1 o2).cell 0
   have t1:∀o,(wr.alloc o).cell? ⟨S,1,none⟩=some (.slice (some ⟨gl,0,none⟩) n n):=fun o=>(hxo o).cell 1
   have u1:∀o1 o2,((wr.alloc o1).alloc o2).cell? ⟨S,1,none⟩=some (.slice (some ⟨gl,0,none⟩) n n):=fun o1 o2=>(hx o1 o2).cell 1
   have t2:∀o,(wr.alloc o).cell? ⟨S,2,none⟩=some (.slice (some ⟨gh,0,none⟩) n n):=fun o=>(hxo o).cell 2
   have u2:∀o1 o2,((wr.alloc o1).alloc o2).cell? ⟨S,2,none⟩=some (.slice (some ⟨gh,0,none⟩) n n):=fun o1 o2=>(hx o1 o2).cell 2
   have t3:∀o,(wr.alloc o).cell? ⟨S,3,none⟩=some (.slice (some ⟨ga',0,none⟩) n n):=fun o=>(hxo o).cell 3
   have u3:∀o1 o2,((wr.alloc o1).alloc o2).cell? ⟨S,3,none⟩=some (.slice (some ⟨ga',0,none⟩) n n):=fun o1 o2=>(hx o1 o2).cell 3
   have t4:∀o,(wr.alloc o).cell? ⟨S,4,none⟩=some (.slice (some ⟨gl',0,none⟩) n n):=fun o=>(hxo o).cell 4
   have u4:∀o1 o2,((wr.alloc o1).alloc o2).cell? ⟨S,4,none⟩=some (.slice (some ⟨gl',0,none⟩) n n):=fun o1 o2=>(hx o1 o2).cell 4
   have t5:∀o,(wr.alloc o).cell? ⟨S,5,none⟩=some (.slice (some ⟨gh',0,none⟩) n n):=fun o=>(hxo o).cell 5
   have u5:∀o1 o2,((wr.alloc o1).alloc o2).cell? ⟨S,5,none⟩=some (.slice (some ⟨gh',0,none⟩) n n):=fun o1 o2=>(hx o1 o2).cell 5
   have hlt:S<wr.heap.size:=hs.lt;have k0:wr.heap.size≠S:=by omega
   have k1:wr.heap.size+1≠S:=by omega
   clear hlt;clear hs hb hfb hrb hz hz' hB1 hB2 hB3 hB4 hc hx hxo;go_wp2_with fail;go_cut [8,9] (fun s8 s9 wc=>∃bx cx,s8=.pointer (some ⟨bx,0,none⟩)/\s9=.pointer (some ⟨cx,0,none⟩)/\SdS w wc #[.slice a1 n c1,.slice a2 m c2,.slice a3 nh c3] n S bx cx ga gl gh ga' gl' gh' 4194305 (fun _=>0) (fun _=>0) (List.replicate n false) (fun _=>0) (fun _=>0) (List.replicate n false))
   case first=>
    go_region
    all_goals
     go_wp2_with fail;go_meet
     case rel=>
      refine⟨_,_,rfl,rfl,SdS.of HB.out HFB.out HRB.out HS.out HZ.out HZ'.out (Below.new2 wr _ _).drew ?_ ?_⟩
      all_goals
       first
        |exact SB.drew ((SB.new wr _ _).alloc _)
        |exact SB.drew (SB.new2 wr _ _ _ _)
   case rest=>
    obtain⟨bx,cx,rfl,rfl,hsd⟩:=hcut;obtain⟨wx,rfl⟩:∃wx,wx=wc:=⟨wc,rfl⟩;have HD:Hid (SdD w.heap.size S bx cx ga gl gh ga' gl' gh'):=Hi ⟨HZ.out.ne,HZ'.out.ne,by have:=HBB.out;have:=HZ'.out.la;have:=HZ'.out.ll;have:=HZ'.out.lh;omega,by have:=HBB.out;have:=HZ'.out.la;have:=HZ'.out.ll;have:=HZ'.out.lh;have:=HZ.out.la;have:=HZ.out.ll;have:=HZ.out.lh;have:=HSL.out;omega⟩;have HSD:=Hi hsd;have k0:=hsd.fb.cell 0;simp only[List.getElem?_toArray,List.getElem?_cons_zero,List.getElem?_cons_succ] at k0;clear hsd HZ HZ' HBB HB HS s0 s1 s2 s3 s4 s5 t0 t1 t2 t3 t4 t5 u0 u1 u2 u3 u4 u5 k1;go_wp2_with fail;clear k0;go_loopw [39] (fun iv wr=>∃k:Nat,k<=n/\iv=.int .i64 k/\SdS w wr #[.slice a1 n c1,.slice a2 m c2,.slice a3 nh c3] n S bx cx ga gl gh ga' gl' gh' 4194305 (cutV xv k) (fun _=>0) (List.replicate n false) (cutV yv k) (fun _=>0) (List.replicate n false)) (fun iv _=>n - (intOf iv).toNat)
    case atStart=>exact⟨0,by omega,rfl,by rw[Qg4,Qg4];exact HSD.out⟩
    case round=>
     obtain⟨k,hk,rfl,hsd⟩:=hrel;by_cases hlt:k<n
     ·
      obtain⟨s,hs⟩:∃s,js[k]?=some s:=⟨js[k]'(by have:=HN.out;omega),gE _⟩;obtain⟨jb,jo,rfl,hjb,d0,d1⟩:=(HJ.out.below hsd.base).spot hs;have HSQ:=Hi (HJT.out k s hs);obtain⟨X1,hX⟩:∃X,wr.alloc (.cells #[.string s.x,.string s.y] 42)=X:=⟨_,rfl⟩;have hbX:Below wr.heap.size wr X1:=by rw[<-hX];exact(Below.refl _ _).alloc lZ _
      have hbY:=hbX.trans ((Below.refl X1.heap.size X1).drew.mono hbX.size);have hsp:SB X1.drew wr.heap.size 42 #[.string s.x,.string s.y]:=by rw[<-hX];exact(SB.new wr _ _).drew
      have hsy:=hsd.below hbY;have HSY:=Hi hsy;have HSP:=Hi hsp;have HBX:=Hi hsy.bx;have HCX:=Hi hsy.cx;have HNB:Hid (bx≠ga/\cx≠ga/\wr.heap.size≠ga):=Hi (by
       obtain⟨us,h⟩:=hsy.xa
       exact⟨hsy.bx.unlike h.blk.blk (by decide),hsy.cx.unlike h.blk.blk (by decide),hsp.unlike h.blk.blk (by decide)⟩)
      have HXE:=Hi hX;have q1:((k:Int)<(n:Int)):=by omega
      clear hs hX hbX hbY hsp hsy hsd;go_wp2_with fail;rw[HXE.out];clear d0 d1;generalize hsb:wr.heap.size=sb at*;have HSBE:=Hi hsb;clear hsb;have hOK:=PutR.ok ga n 4194305 k (xv k);refine RegX.bg (PutR ga n 4194305 k (xv k)) 15 (fun j=>match j with|13=>none|14=>some 57|j=>some (44+j)) ?_;refine RegX.pu hOK (c:=?_) [] (fun w hb=>?_) ?_;rotate_left
      ·
       intro K hK;skip;go_simp;exact hK
      refine RegX.pu hOK (c:=?_) [0] (fun w hb=>?_) ?_;rotate_left
      ·
       intro K hK;obtain⟨d0,-⟩:=zc (HBX.out.only hb.1 HNB.out.1);go_simp;exact hK
      refine RegX.pu hOK (c:=?_) [] (fun w hb=>?_) ?_;rotate_left
      ·
       intro K hK;skip;go_simp;exact hK
      refine RegX.pu hOK (c:=?_) [] (fun w hb=>?_) ?_;rotate_left
      ·
       intro K hK;skip;go_simp;exact hK
      refine RegX.pu hOK (c:=?_) [3] (fun w hb=>?_) ?_;rotate_left
      ·
       intro K hK;obtain⟨d0,-⟩:=zc (HCX.out.only hb.1 HNB.out.2.1);go_simp;exact hK
      refine RegX.pu hOK (c:=?_) [] (fun w hb=>?_) ?_;rotate_left
      ·
       intro K hK;skip;go_simp;exact hK
      refine RegX.pu hOK (c:=?_) [] (fun w hb=>?_) ?_;rotate_left
      ·
       intro K hK;skip;go_simp;exact hK
      refine RegX.pu hOK (c:=?_) [6] (fun w hb=>?_) ?_;rotate_left
      ·
       intro K hK;have hsp:=HSP.out.only hb.1 HNB.out.2.2;obtain⟨d0,d1,-⟩:=zc hsp;clear hsp;go_simp;exact hK
      refine RegX.ca (φ:=FFr ga n 4194305 (xv k) 4194305) [7] FFr.staysX (fun w hb=>?_) ?_
      ·
       intro K hK;go_simp;exact Makes.use (FF.of (HG.out.below (Only.fresh HSY.out.base hb.1 HD.out.lo.1)) HSQ.out.1 HSQ.out.2.2.1 (by decide) (by decide)) (fun v w' hb' h=>hK v w' (PutR.of_below hb') ⟨h,by
        obtain⟨Y0,us,h0⟩:=hb.some HSY.out.xa
        exact⟨Y0,us,h0.below hb'⟩⟩)
      refine RegX.pu hOK (c:=?_) [] (fun w hb=>?_) ?_;rotate_left
      ·
       intro K hK;skip;go_simp;exact hK
      refine RegX.pu hOK (c:=?_) [9] (fun w hb=>?_) ?_;rotate_left
      ·
       intro K hK;have hsp:=HSP.out.only hb.1 HNB.out.2.2;obtain⟨d0,d1,-⟩:=zc hsp;clear hsp;go_simp;exact hK
      refine RegX.ca (φ:=FFr ga n 4194305 (yv k) 4194305) [10] FFr.staysX (fun w hb=>?_) ?_
      ·
       intro K hK;go_simp;exact Makes.use (FF.of (HG.out.below (Only.fresh HSY.out.base hb.1 HD.out.lo.1)) HSQ.out.2.1 HSQ.out.2.2.2 (by decide) (by decide)) (fun v w' hb' h=>hK v w' (PutR.of_below hb') ⟨h,by
        obtain⟨Y0,us,h0⟩:=hb.some HSY.out.xa
        exact⟨Y0,us,h0.below hb'⟩⟩)
      refine RegX.pu hOK (c:=?_) [1,2] (fun w hb=>?_) ?_;rotate_left
      ·
       intro K hK;skip;go_simp;exact hK
      refine RegX.ca (φ:=PutF ga n 4194305 k (xv k) (cutV xv k)) [12,8] PutF.staysX (fun w hb=>?_) ?_
      ·
       intro v8 h8 K hK;obtain⟨x',y',z',rfl⟩:=h8.1.parts;obtain⟨o1,o2,o3⟩:=h8.1.1.one;have st0:=Qaa Tryz.prog o1;have st1:=Qaa Tryz.prog o2;have st2:=Qaa Tryz.prog o3;have hrr:∃us,RB w ga n 4194305 (cutV xv k) us∨RB w ga n 4194305 (upd (cutV xv k) k (xv k)) us:=by
        obtain⟨us,h⟩:=HSY.out.xa;exact hb.2 _ us h
       obtain⟨Y0,us0,hr0⟩:=hb.some HSY.out.xa;obtain⟨y0,y1,y2,e0,e1,e2,_⟩:=hr0.at hlt;have f0:=hr0.blk.blk.free (k*3);have f1:=hr0.blk.blk.free (k*3+1);have f2:=hr0.blk.blk.free (k*3+2);have hr1:=PutR.put (g:=ga) (n:=n) (i:=k) hlt h8.1;have hf1:=Qm3 hlt h8.1 hrr;clear o1 o2 o3 h8 hrr hr0;go_simp;exact hK _ _ hr1 hf1
      refine RegX.pu hOK (c:=?_) [4,5] (fun w hb=>?_) ?_;rotate_left
      ·
       intro K hK;skip;go_simp;exact hK
      refine RegX.one hOK (by simp only[List.nil_append,List.cons_append,List.length_append,List.length_cons,List.length_nil,Nat.reduceAdd]) (by rfl) (by simp only[List.getElem?_toArray,List.getElem?_cons_zero,List.getElem?_cons_succ];exact rfl) (by kernel_rfl) (fun u hb=>?_);simp only[FinG,List.nil_append,List.cons_append,Qaf,Act.put,List.setIfInBounds_toArray,List.set_cons_zero,List.set_cons_succ,Nat.reduceAdd,Nat.reduceBEq,cond_true,cond_false];intro v8 h8 v11 h11 v13 h13 K1 hK1;obtain⟨x',y',z',rfl⟩:=h11.1.parts;obtain⟨o1,o2,o3⟩:=h11.1.1.one;have st0:=Qaa Tryz.prog o1;have st1:=Qaa Tryz.prog o2;have st2:=Qaa Tryz.prog o3;have hsu:=HSY.out.wrXa HD.out hb.1 h13;rw[Qg5] at hsu;obtain⟨us,hya⟩:=hsu.ya;obtain⟨y0,y1,y2,e0,e1,e2,_⟩:=hya.at hlt;have f0:=hya.blk.blk.free (k*3);have f1:=hya.blk.blk.free (k*3+1);have f2:=hya.blk.blk.free (k*3+2)
      have ho:Only ga' u (((u.setCell ⟨ga',k*3,none⟩ x').setCell ⟨ga',k*3+1,none⟩ y').setCell ⟨ga',k*3+2,none⟩ z'):=(((Only.refl ga' u).setCell (k*3) x').setCell (k*3+1) y').setCell (k*3+2) z';have HSN:=Hi (hsu.wrYa HD.out ho ⟨_,hya.set hlt h11.1 (cutV yv (k+1)) (fun i=>by rw[<-Qg5];rfl)⟩);clear o1 o2 o3 h8 h11 h13 hsu hya ho hb hOK;go_simp;refine hK1 _ _ ?_;clear hK1 e0 e1 e2 f0 f1 f2 st0 st1 st2;have hsb:=HSBE.out;subst hsb;go_wp2;go_roundw
      case rel=>exact⟨k+1,by omega,by go_num,HSN.out⟩
      case measure=>simp[intOf];omega
     ·
      obtain rfl:k=n:=by omega
      have HSA:=Hi hsd;clear hsd HSD;go_wp2_with fail;go_loopw [61] (fun iv wr=>∃j:Nat,j<=ls.length/\iv=.int .i64 j/\SdS w wr #[.slice a1 k c1,.slice a2 m c2,.slice a3 nh c3] k S bx cx ga gl gh ga' gl' gh' (4194305+j*8388612) (cutV xv k) (ldK lj lx j) (List.replicate k false) (cutV yv k) (ldK lj ly j) (List.replicate k false)) (fun iv _=>ls.length - (intOf iv).toNat)
      case atStart=>exact⟨0,by omega,rfl,HSA.out⟩
      case round=>
       obtain⟨j,hj',rfl,hsd⟩:=hrel;by_cases hlt2:j<ls.length
       ·
        obtain⟨l,hl⟩:∃l,ls[j]?=some l:=⟨ls[j],gE hlt2⟩;obtain⟨lb,lo,rfl,hlb,d0,d1,d2⟩:=(HL.out.below hsd.base).load hl;obtain⟨e1,e2,e3,e4,e5,e6⟩:=HLT.out j l hl;obtain⟨i,hi⟩:=nm (lj j);rw[hi] at e1 e2;rw[e1] at d0;have HI:=Hi hi;have HLQ:=Hi (And.intro e3 (And.intro e4 (And.intro e5 e6)));obtain⟨X1,hX⟩:∃X,wr.alloc (.cells #[.int .i64 i,.string l.x,.string l.y] 61)=X:=⟨_,rfl⟩;have hbX:Below wr.heap.size wr X1:=by rw[<-hX];exact(Below.refl _ _).alloc lZ _
        have hsp:SB X1 wr.heap.size 61 #[.int .i64 i,.string l.x,.string l.y]:=by rw[<-hX];exact SB.new wr _ _
        have HSU:=Hi (hsd.below hbX);have HSP:=Hi hsp;have HXE:=Hi hX;have HKB:Hid (4194305+j*8388612+4194305<68719476000/\4194305+j*8388612+4194305+1+4194305<68719476000/\4194305+j*8388612+4194305+1+4194305+1=4194305+(j+1)*8388612):=Hi (by omega);have q1:((j:Int)<(ls.length:Int)):=by omega
        have q2:((i:Int)<(k:Int)):=by omega
        clear hl hi e1 e3 e4 e5 e6 hX hbX hsp hsd;go_wp2_with fail;rw[HXE.out];clear d0 d1 d2;generalize hsb:wr.heap.size=sb at*;have HSBE:=Hi hsb;clear hsb;have HIK:Hid (i<k):=Hi (by omega);have hsy:=HSU.out.below bR.drew;have HSP:=Hi (HSP.out.below bR.drew HSP.out.lt);have HSY:=Hi hsy;have HBX:=Hi hsy.bx;obtain⟨usr,hrr⟩:=hsy.xl;obtain⟨t,ht⟩:=hrr.get HIK.out;have HRR:=Hi hrr;have HRT:=Hi ht;have HRF:=Hi (hrr.fe ht);clear hsy hrr ht;go_wp2_with fail;refine RegG.bg 16 (fun j=>some (65+j)) ?_;refine RegG.p0 [] ?_;refine RegG.pu (c:=?_) [0] (fun w hb=>?_) ?_;rotate_left
        ·
         intro K hK;obtain⟨-,d0,-⟩:=zc (HBX.out.below hb HBX.out.lt);go_simp;exact hK
        refine RegG.p0 [] ?_;refine RegG.pu (c:=?_) [2] (fun w hb=>?_) ?_;rotate_left
        ·
         intro K hK;have hsp:=HSP.out.below hb HSP.out.lt;obtain⟨d0,d1,d2,-⟩:=zc hsp;clear hsp;go_simp;exact hK
        refine RegG.p0 [] ?_;refine RegG.pu (c:=?_) [4] (fun w hb=>?_) ?_;rotate_left
        ·
         intro K hK;obtain⟨-,d0,-⟩:=zc (HBX.out.below hb HBX.out.lt);go_simp;exact hK
        refine RegG.p0 [] ?_;refine RegG.pu (c:=?_) [6] (fun w hb=>?_) ?_;rotate_left
        ·
         intro K hK;have hsp:=HSP.out.below hb HSP.out.lt;obtain⟨d0,d1,d2,-⟩:=zc hsp;clear hsp;go_simp;exact hK
        refine RegG.p0 [5,7] ?_;refine RegG.pu (c:=?_) [8] (fun w hb=>?_) ?_;rotate_left
        ·
         intro K hK;obtain⟨d0,d1,d2⟩:=(HRR.out.below hb).cells HRT.out;go_simp;exact hK
        refine RegG.p0 [] ?_;refine RegG.p0 [10] ?_;refine RegG.pu (c:=?_) [11] (fun w hb=>?_) ?_;rotate_left
        ·
         intro K hK;have hsp:=HSP.out.below hb HSP.out.lt;obtain⟨d0,d1,d2,-⟩:=zc hsp;clear hsp;go_simp;exact hK
        refine RegG.ca (φ:=FF (lx j) 4194305) [12] (FF.stays _ _) (fun w hb=>?_) ?_
        ·
         skip;intro K hK;go_simp;exact Makes.use (FF.of (HG.out.below (HSY.out.base.trans (hb.mono HSY.out.base.size))) HLQ.out.1 HLQ.out.2.2.1 (by decide) (by decide)) hK
        refine RegG.ca (φ:=FF (ldK lj lx j i+lx j) (4194305+j*8388612+4194305+1)) [9,13] (FF.stays _ _) (fun w hb=>?_) ?_
        ·
         intro v13 h13;intro K hK;go_simp;exact Makes.use ((HRF.out.below hb).plus h13 HKB.out.1) hK
        refine RegG.p0 [1,3] ?_;refine RegG.last (by simp only[List.nil_append,List.cons_append,List.length_append,List.length_cons,List.length_nil,Nat.reduceAdd]) (by rfl) (by rfl) (by kernel_rfl) (fun u1 hb=>?_);simp only[FinG,List.nil_append,List.cons_append,Qaf,Act.put,List.setIfInBounds_toArray,List.set_cons_zero,List.set_cons_succ,Nat.reduceAdd,Nat.reduceBEq,cond_true,cond_false];intro v13 _ v14 h14 K6 hK6;obtain⟨x',y',z',rfl⟩:=h14.parts;obtain⟨o1,o2,o3⟩:=h14.1.one;have st0:=Qaa Tryz.prog o1;have st1:=Qaa Tryz.prog o2;have st2:=Qaa Tryz.prog o3;have hsu:=HSY.out.below hb;have hrx:=(HRR.out.below hb).mono (K':=4194305+j*8388612+4194305+1) (by omega);obtain⟨y0,y1,y2,e0,e1,e2,_⟩:=hrx.at HIK.out;have f0:=hrx.blk.blk.free (i*3);have f1:=hrx.blk.blk.free (i*3+1);have f2:=hrx.blk.blk.free (i*3+2)
        have ho:Only gl u1 (((u1.setCell ⟨gl,i*3,none⟩ x').setCell ⟨gl,i*3+1,none⟩ y').setCell ⟨gl,i*3+2,none⟩ z'):=(((Only.refl gl u1).setCell (i*3) x').setCell (i*3+1) y').setCell (i*3+2) z';have hnew:=hrx.set HIK.out h14 (ldK lj lx (j+1)) (fun r=>by
         show (if r=lj j then ldK lj lx j r+lx j else ldK lj lx j r)=_
         rw[HI.out];by_cases e:r=i
         · subst e
           simp
         · simp[e])
        have HSP:=Hi ((HSP.out.below hb HSP.out.lt).only ho ((HSP.out.below hb HSP.out.lt).unlike hrx.blk.blk (by decide)));have HSU:=Hi ((hsu.monoL (KL':=4194305+j*8388612+4194305+1) (by omega)).wrXl HD.out ho ⟨_,hnew⟩);clear o1 o2 o3 hsu hrx h14 ho hb hnew HRR HRT HRF HBX HSY;go_simp;refine hK6 _ _ ?_;clear hK6 e0 e1 e2 f0 f1 f2 st0 st1 st2;obtain⟨U2,hU2⟩:∃u,(((u1.setCell ⟨gl,i*3,none⟩ x').setCell ⟨gl,i*3+1,none⟩ y').setCell ⟨gl,i*3+2,none⟩ z')=u:=⟨_,rfl⟩;rw[hU2] at HSP HSU ⊢;clear hU2;have hsy:=HSU.out.below bR.drew;have HSP:=Hi (HSP.out.below bR.drew HSP.out.lt);have HSY:=Hi hsy;have HBX:=Hi hsy.cx;obtain⟨usr,hrr⟩:=hsy.yl;obtain⟨t,ht⟩:=hrr.get HIK.out;have HRR:=Hi hrr;have HRT:=Hi ht;have HRF:=Hi (hrr.fe ht);clear hsy hrr ht;go_wp2_with fail;refine RegG.bg 16 (fun j=>some (81+j)) ?_;refine RegG.p0 [] ?_;refine RegG.pu (c:=?_) [0] (fun w hb=>?_) ?_;rotate_left
        ·
         intro K hK;obtain⟨-,d0,-⟩:=zc (HBX.out.below hb HBX.out.lt);go_simp;exact hK
        refine RegG.p0 [] ?_;refine RegG.pu (c:=?_) [2] (fun w hb=>?_) ?_;rotate_left
        ·
         intro K hK;have hsp:=HSP.out.below hb HSP.out.lt;obtain⟨d0,d1,d2,-⟩:=zc hsp;clear hsp;go_simp;exact hK
        refine RegG.p0 [] ?_;refine RegG.pu (c:=?_) [4] (fun w hb=>?_) ?_;rotate_left
        ·
         intro K hK;obtain⟨-,d0,-⟩:=zc (HBX.out.below hb HBX.out.lt);go_simp;exact hK
        refine RegG.p0 [] ?_;refine RegG.pu (c:=?_) [6] (fun w hb=>?_) ?_;rotate_left
        ·
         intro K hK;have hsp:=HSP.out.below hb HSP.out.lt;obtain⟨d0,d1,d2,-⟩:=zc hsp;clear hsp;go_simp;exact hK
        refine RegG.p0 [5,7] ?_;refine RegG.pu (c:=?_) [8] (fun w hb=>?_) ?_;rotate_left
        ·
         intro K hK;obtain⟨d0,d1,d2⟩:=(HRR.out.below hb).cells HRT.out;go_simp;exact hK
        refine RegG.p0 [] ?_;refine RegG.p0 [10] ?_;refine RegG.pu (c:=?_) [11] (fun w hb=>?_) ?_;rotate_left
        ·
         intro K hK;have hsp:=HSP.out.below hb HSP.out.lt;obtain⟨d0,d1,d2,-⟩:=zc hsp;clear hsp;go_simp;exact hK
        refine RegG.ca (φ:=FF (ly j) 4194305) [12] (FF.stays _ _) (fun w hb=>?_) ?_
        ·
         skip;intro K hK;go_simp;exact Makes.use (FF.of (HG.out.below (HSY.out.base.trans (hb.mono HSY.out.base.size))) HLQ.out.2.1 HLQ.out.2.2.2 (by decide) (by decide)) hK
        refine RegG.ca (φ:=FF (ldK lj ly j i+ly j) (4194305+j*8388612+4194305+1+4194305+1)) [9,13] (FF.stays _ _) (fun w hb=>?_) ?_
        ·
         intro v13 h13;intro K hK;go_simp;exact Makes.use ((HRF.out.below hb).plus h13 HKB.out.2.1) hK
        refine RegG.p0 [1,3] ?_;refine RegG.last (by simp only[List.nil_append,List.cons_append,List.length_append,List.length_cons,List.length_nil,Nat.reduceAdd]) (by rfl) (by rfl) (by kernel_rfl) (fun u1 hb=>?_);simp only[FinG,List.nil_append,List.cons_append,Qaf,Act.put,List.setIfInBounds_toArray,List.set_cons_zero,List.set_cons_succ,Nat.reduceAdd,Nat.reduceBEq,cond_true,cond_false];intro v13 _ v14 h14 K6 hK6;obtain⟨x',y',z',rfl⟩:=h14.parts;obtain⟨o1,o2,o3⟩:=h14.1.one;have st0:=Qaa Tryz.prog o1;have st1:=Qaa Tryz.prog o2;have st2:=Qaa Tryz.prog o3;have hsu:=HSY.out.below hb;have hrx:=(HRR.out.below hb).mono (K':=4194305+j*8388612+4194305+1+4194305+1) (by omega);obtain⟨y0,y1,y2,e0,e1,e2,_⟩:=hrx.at HIK.out;have f0:=hrx.blk.blk.free (i*3);have f1:=hrx.blk.blk.free (i*3+1);have f2:=hrx.blk.blk.free (i*3+2)
        have ho:Only gl' u1 (((u1.setCell ⟨gl',i*3,none⟩ x').setCell ⟨gl',i*3+1,none⟩ y').setCell ⟨gl',i*3+2,none⟩ z'):=(((Only.refl gl' u1).setCell (i*3) x').setCell (i*3+1) y').setCell (i*3+2) z';have hnew:=hrx.set HIK.out h14 (ldK lj ly (j+1)) (fun r=>by
         show (if r=lj j then ldK lj ly j r+ly j else ldK lj ly j r)=_
         rw[HI.out];by_cases e:r=i
         · subst e
           simp
         · simp[e])
        have HSP:=Hi ((HSP.out.below hb HSP.out.lt).only ho ((HSP.out.below hb HSP.out.lt).unlike hrx.blk.blk (by decide)));have HSU:=Hi ((hsu.monoL (KL':=4194305+j*8388612+4194305+1+4194305+1) (by omega)).wrYl HD.out ho ⟨_,hnew⟩);clear o1 o2 o3 hsu hrx h14 ho hb hnew HRR HRT HRF HBX HSY;go_simp;refine hK6 _ _ ?_;clear hK6 e0 e1 e2 f0 f1 f2 st0 st1 st2;obtain⟨U3,hU2⟩:∃u,(((u1.setCell ⟨gl',i*3,none⟩ x').setCell ⟨gl',i*3+1,none⟩ y').setCell ⟨gl',i*3+2,none⟩ z')=u:=⟨_,rfl⟩;rw[hU2] at HSP HSU ⊢;clear hU2;rw[HKB.out.2.2] at HSU;have hsb:=HSBE.out;subst hsb;go_wp2;go_roundw
        case rel=>exact⟨j+1,by omega,by go_num,HSU.out⟩
        case measure=>simp[intOf];omega
       ·
        obtain rfl:j=ls.length:=by omega
        have HSL2:=Hi hsd;have k2:=hsd.fb.cell 2;simp only[List.getElem?_toArray,List.getElem?_cons_zero,List.getElem?_cons_succ] at k2;clear hsd HSA;go_wp2_with fail;clear k2;go_loopw [101] (fun iv wr=>∃q:Nat,q<=nh/\iv=.int .i64 q/\SdS w wr #[.slice a1 k c1,.slice a2 m c2,.slice a3 nh c3] k S bx cx ga gl gh ga' gl' gh' 171966545 (cutV xv k) (ldK lj lx ls.length) (hdK k hj hw 0 q) (cutV yv k) (ldK lj ly ls.length) (hdK k hj hw 1 q)) (fun iv _=>nh - (intOf iv).toNat)
        case atStart=>exact⟨0,by omega,rfl,by rw[Qg1,Qg1];exact HSL2.out.monoL (by omega)⟩
        case round=>
         obtain⟨q,hq,rfl,hsd⟩:=hrel;by_cases hlt3:q<nh
         ·
          obtain⟨h,hh⟩:∃h,hs[q]?=some h:=⟨hs[q]'(by have:=HN.out;omega),gE _⟩;obtain⟨hb3,ho3,rfl,hbl,d0,d1,d2⟩:=(HH.out.below hsd.base).hold hh;obtain⟨e1,e2,e3,e4⟩:=HHT.out q h hh;obtain⟨i,hi⟩:=nm (hj q);rw[hi] at e1 e3;rw[e1] at d0;have HI:=Hi hi;have HIK:Hid (i<k):=Hi e3;have q1:((q:Int)<(nh:Int)):=by omega
          have q2:((i:Int)<(k:Int)):=by omega
          have hw2:hw q=0∨hw q=1:=by omega
          have ew0:IntKind.i64.wrap 0=0:=by decide
          have ew1:IntKind.i64.wrap 1=1:=by decide
          clear hh hi e1 e3;rcases hw2 with hw0|hw0
          ·
           have HW:=Hi hw0;rw[hw0] at e2;have e2':h.w=1:=by omega
           rw[e2'] at d1;obtain⟨X1,hX⟩:∃X,wr.alloc (.cells #[.int .i64 i,.int .i64 1,.string h.q] 45)=X:=⟨_,rfl⟩;have hbX:Below wr.heap.size wr X1:=by rw[<-hX];exact(Below.refl _ _).alloc lZ _
           have hbY:=hbX.trans ((Below.refl X1.heap.size X1).drew.mono hbX.size);have HSP:Hid (SB X1.drew wr.heap.size 45 #[.int .i64 i,.int .i64 1,.string h.q]):=Hi (by rw[<-hX];exact(SB.new wr _ _).drew);have HSY:=Hi (hsd.below hbY);have HSS:=Hi HSY.out.s;have HXE:=Hi hX;clear hX hbX hbY hsd e2 e2' e4 hw0;go_wp2_with fail;rw[HXE.out];clear d0 d1 d2;generalize hsb:wr.heap.size=sb at*;have HSBE:=Hi hsb;clear hsb;refine RegG.bg 9 (fun j=>some (105+j)) ?_;refine RegG.p0 [] ?_;refine RegG.pu (c:=?_) [0] (fun w hb=>?_) ?_;rotate_left
           ·
            intro K hK;have hsp:=HSP.out.below hb HSP.out.lt;obtain⟨d0,d1,-⟩:=zc hsp;clear hsp;go_simp;exact hK
           refine RegG.p0 [1] ?_;refine RegG.p0 [2] ?_;refine RegG.p0 [3] ?_;refine RegG.pu (c:=?_) [4] (fun w hb=>?_) ?_;rotate_left
           ·
            intro K hK;obtain⟨-,-,d0,-⟩:=zc (HSS.out.below hb HSS.out.lt);go_simp;exact hK
           refine RegG.p0 [] ?_;refine RegG.pu (c:=?_) [6] (fun w hb=>?_) ?_;rotate_left
           ·
            intro K hK;have hsp:=HSP.out.below hb HSP.out.lt;obtain⟨d0,d1,-⟩:=zc hsp;clear hsp;go_simp;exact hK
           refine RegG.p0 [5,7] ?_;refine RegG.last (by simp only[List.nil_append,List.cons_append,List.length_append,List.length_cons,List.length_nil,Nat.reduceAdd]) (by rfl) (by rfl) (by kernel_rfl) (fun u1 hb=>?_);simp only[FinG,List.nil_append,List.cons_append,Qaf,Act.put,List.setIfInBounds_toArray,List.set_cons_zero,List.set_cons_succ,Nat.reduceAdd,Nat.reduceBEq,cond_true,cond_false];intro K6 hK6;have hsu:=HSY.out.below hb;have hx:=hsu.xh;have c0:=hx.boolAt i;have f0:=hx.free i;obtain⟨bv,hbv⟩:∃bv,(hdK k hj hw 0 q)[i]?=some bv:=⟨(hdK k hj hw 0 q)[i]'(by unfold hdK;simp;exact HIK.out),gE _⟩;rw[hbv,Option.map_some] at c0;have hset:=hx.set i (.bool true);rw[List.setIfInBounds_toArray] at hset;have e:(boolsV (hdK k hj hw 0 q)).set i (.bool true)=boolsV (hdK k hj hw 0 (q+1)):=by
            have h:=Qg2 (n:=k) (k:=q) (way:=0) (hj:=hj) (hw:=hw) (by rw[HI.out];exact HIK.out) HW.out;rw[HI.out] at h;rw[<-h];unfold boolsV;rw[List.map_set]
           rw[e] at hset;have hsn:=hsu.wrXh HD.out ((Only.refl gh u1).setCell i (.bool true)) hset;rw[Qg3 (n:=k) (k:=q) (way:=1) (hj:=hj) (hw:=hw) (by rw[HW.out];decide)] at hsn;have HSN:=Hi hsn;clear hsu hx hbv hset e hsn hb;go_simp;refine hK6 _ _ ?_;clear hK6 c0 f0;have hsb:=HSBE.out;subst hsb;go_wp2;go_roundw
           case rel=>exact⟨q+1,by omega,by go_num,HSN.out⟩
           case measure=>simp[intOf];omega
          ·
           have HW:=Hi hw0;rw[hw0] at e2;have e2':h.w=2:=by omega
           rw[e2'] at d1;obtain⟨X1,hX⟩:∃X,wr.alloc (.cells #[.int .i64 i,.int .i64 2,.string h.q] 45)=X:=⟨_,rfl⟩;have hbX:Below wr.heap.size wr X1:=by rw[<-hX];exact(Below.refl _ _).alloc lZ _
           have hbY:=hbX.trans ((Below.refl X1.heap.size X1).drew.mono hbX.size);have HSP:Hid (SB X1.drew wr.heap.size 45 #[.int .i64 i,.int .i64 2,.string h.q]):=Hi (by rw[<-hX];exact(SB.new wr _ _).drew);have HSY:=Hi (hsd.below hbY);have HSS:=Hi HSY.out.s;have HXE:=Hi hX;clear hX hbX hbY hsd e2 e2' e4 hw0;go_wp2_with fail;rw[HXE.out];clear d0 d1 d2;generalize hsb:wr.heap.size=sb at*;have HSBE:=Hi hsb;clear hsb;refine RegG.bg 9 (fun j=>some (105+j)) ?_;refine RegG.p0 [] ?_;refine RegG.pu (c:=?_) [0] (fun w hb=>?_) ?_;rotate_left
           ·
            intro K hK;have hsp:=HSP.out.below hb HSP.out.lt;obtain⟨d0,d1,-⟩:=zc hsp;clear hsp;go_simp;exact hK
           refine RegG.p0 [1] ?_;refine RegG.p0 [2] ?_;refine RegG.p0 [3] ?_;refine RegG.pu (c:=?_) [4] (fun w hb=>?_) ?_;rotate_left
           ·
            intro K hK;obtain⟨-,-,-,-,-,d0,-⟩:=zc (HSS.out.below hb HSS.out.lt);go_simp;exact hK
           refine RegG.p0 [] ?_;refine RegG.pu (c:=?_) [6] (fun w hb=>?_) ?_;rotate_left
           ·
            intro K hK;have hsp:=HSP.out.below hb HSP.out.lt;obtain⟨d0,d1,-⟩:=zc hsp;clear hsp;go_simp;exact hK
           refine RegG.p0 [5,7] ?_;refine RegG.last (by simp only[List.nil_append,List.cons_append,List.length_append,List.length_cons,List.length_nil,Nat.reduceAdd]) (by rfl) (by rfl) (by kernel_rfl) (fun u1 hb=>?_);simp only[FinG,List.nil_append,List.cons_append,Qaf,Act.put,List.setIfInBounds_toArray,List.set_cons_zero,List.set_cons_succ,Nat.reduceAdd,Nat.reduceBEq,cond_true,cond_false];intro K6 hK6;have hsu:=HSY.out.below hb;have hx:=hsu.yh;have c0:=hx.boolAt i;have f0:=hx.free i;obtain⟨bv,hbv⟩:∃bv,(hdK k hj hw 1 q)[i]?=some bv:=⟨(hdK k hj hw 1 q)[i]'(by unfold hdK;simp;exact HIK.out),gE _⟩;rw[hbv,Option.map_some] at c0;have hset:=hx.set i (.bool true);rw[List.setIfInBounds_toArray] at hset;have e:(boolsV (hdK k hj hw 1 q)).set i (.bool true)=boolsV (hdK k hj hw 1 (q+1)):=by
            have h:=Qg2 (n:=k) (k:=q) (way:=1) (hj:=hj) (hw:=hw) (by rw[HI.out];exact HIK.out) HW.out;rw[HI.out] at h;rw[<-h];unfold boolsV;rw[List.map_set]
           rw[e] at hset;have hsn:=hsu.wrYh HD.out ((Only.refl gh' u1).setCell i (.bool true)) hset;rw[Qg3 (n:=k) (k:=q) (way:=0) (hj:=hj) (hw:=hw) (by rw[HW.out];decide)] at hsn;have HSN:=Hi hsn;clear hsu hx hbv hset e hsn hb;go_simp;refine hK6 _ _ ?_;clear hK6 c0 f0;have hsb:=HSBE.out;subst hsb;go_wp2;go_roundw
           case rel=>exact⟨q+1,by omega,by go_num,HSN.out⟩
           case measure=>simp[intOf];omega
         ·
          obtain rfl:q=nh:=by omega
          have HSF:=Hi hsd;have hc:=hsd.s.cell;simp only[sdV,List.cons_append,List.nil_append,List.getElem?_toArray] at hc;have s0:=hc 0;have s1:=hc 1;have s2:=hc 2;have s3:=hc 3;have s4:=hc 4;have s5:=hc 5;simp only[List.getElem?_cons_zero,List.getElem?_cons_succ] at s0 s1 s2 s3 s4 s5;have hr:=hsd.rb.cell;simp only[List.getElem?_toArray] at hr;have r0:=hr 0;have r1:=hr 1;have r2:=hr 2;have r3:=hr 3;have r4:=hr 4;have r5:=hr 5;simp only[List.getElem?_cons_zero,List.getElem?_cons_succ] at r0 r1 r2 r3 r4 r5;have f0:=hsd.rb.free 0;have f1:=hsd.rb.free 1;have f2:=hsd.rb.free 2;have f3:=hsd.rb.free 3;have f4:=hsd.rb.free 4;have f5:=hsd.rb.free 5;have hset:=(((((hsd.rb.set 0 (.slice (some ⟨ga,0,none⟩) k k)).set 1 (.slice (some ⟨gl,0,none⟩) k k)).set 2 (.slice (some ⟨gh,0,none⟩) k k)).set 3 (.slice (some ⟨ga',0,none⟩) k k)).set 4 (.slice (some ⟨gl',0,none⟩) k k)).set 5 (.slice (some ⟨gh',0,none⟩) k k)
          simp only[List.setIfInBounds_toArray,List.set_cons_zero,List.set_cons_succ] at hset;have ho:=((((((Only.refl (w.heap.size+1) wr).setCell 0 (.slice (some ⟨ga,0,none⟩) k k)).setCell 1 (.slice (some ⟨gl,0,none⟩) k k)).setCell 2 (.slice (some ⟨gh,0,none⟩) k k)).setCell 3 (.slice (some ⟨ga',0,none⟩) k k)).setCell 4 (.slice (some ⟨gl',0,none⟩) k k)).setCell 5 (.slice (some ⟨gh',0,none⟩) k k);have HSET:=Hi hset;have HEND:=Hi (Qm5 hsd ho);clear hsd hc hr hset ho;go_wp2
          refine bodyPost_ret (v:=.agg #[.slice (some ⟨ga,0,none⟩) k k,.slice (some ⟨gl,0,none⟩) k k,.slice (some ⟨gh,0,none⟩) k k,.slice (some ⟨ga',0,none⟩) k k,.slice (some ⟨gl',0,none⟩) k k,.slice (some ⟨gh',0,none⟩) k k]) (results_cell_row rfl _ _ (w.heap.size+1) 75 #[.slice (some ⟨ga,0,none⟩) k k,.slice (some ⟨gl,0,none⟩) k k,.slice (some ⟨gh,0,none⟩) k k,.slice (some ⟨ga',0,none⟩) k k,.slice (some ⟨gl',0,none⟩) k k,.slice (some ⟨gh',0,none⟩) k k] (0,0) _ rfl HSET.out Tryz.underlying75 rfl Qm4) rfl ?_;exact⟨_,_,_,_,_,_,rfl,HEND.out⟩
end Go.Proofs.YtfpcipgoedifaaaGreatDoor
