import Derived.Test.YtgnmjaponiclhaaGreatDoorC12RefOf
namespace Go.Proofs.YtgnmjaponiclhaaGreatDoor
open Go.RowKit
set_option linter.unusedVariables false
set_option linter.unusedSimpArgs false
theorem Qb4{a b j k:Nat}(ha:a<2 ^ j)(hb:b<2 ^ k):a*b<2 ^ (j+k):=by rw[Nat.pow_add];exact Nat.mul_lt_mul'' ha hb
theorem Fits.mul{p q:Rat}{j k:Nat}(h:Fits p j)(h':Fits q k)(hj:0<j):Fits (p*q) (j+k):=by
 rw[←Qh4]
 refine Fits.mk ?_ ?_ (by omega)
 · rw[Int.natAbs_mul];exact Qb4 h.1 h'.1
 · rw[Int.natAbs_mul];exact Qb4 h.2 h'.2
theorem Fits.add{p q:Rat}{j k:Nat}(h:Fits p j)(h':Fits q k):Fits (p+q) (j+k+1):=by
 rw[←Qh5]
 have e1:=Qb4 h.1 h'.2
 have e2:=Qb4 h'.1 h.2
 have e3:(2:Nat) ^ (j+k+1)=2 ^ (j+k)*2:=Nat.pow_succ _ _
 rw[Nat.add_comm k j] at e2
 refine Fits.mk ?_ ?_ (by omega)
 ·
  have h1:=Int.natAbs_add_le (p.num*(q.den:Int)) (q.num*(p.den:Int))
  rw[Int.natAbs_mul,Int.natAbs_mul,Int.natAbs_natCast,Int.natAbs_natCast] at h1
  omega
 ·
  rw[Int.natAbs_mul,Int.natAbs_natCast,Int.natAbs_natCast]
  have:=Qb4 h.2 h'.2
  omega
theorem Fits.sub{p q:Rat}{j k:Nat}(h:Fits p j)(h':Fits q k):Fits (p - q) (j+k+1):=by
 rw[Rat.sub_eq_add_neg];exact h.add h'.neg
structure RBag (w0 w:World) (L:List (Nat × Rat × Nat)):Prop where
 base:Below w0.heap.size w0 w
 glob:∃m,w.cell? ⟨5,0,none⟩=some (.int .i64 m)
 ts:∀t,t∈ L→RatVal w t.1 t.2.1∧Fits t.2.1 t.2.2∧0<t.2.2
theorem RBag.start{w:World}(h:∃m,w.cell? ⟨5,0,none⟩=some (.int .i64 m)):RBag w w []:=⟨Below.refl _ _,h,fun t ht=>by cases ht⟩
theorem RBag.below{w0 w w':World}{L:List (Nat × Rat × Nat)}(h:RBag w0 w L)(hb:Below w.heap.size w w'):RBag w0 w' L:=by
 refine⟨h.base.trans (hb.mono h.base.size),?_,fun t ht=>⟨(h.ts t ht).1.below hb,(h.ts t ht).2⟩⟩
 obtain⟨m,hm⟩:=h.glob
 exact⟨m,(hb.cell (p:=⟨5,0,none⟩) (World.block_lt_of_cell? _ _ hm)).trans hm⟩
theorem RBag.drew{w0 w:World}{L:List (Nat × Rat × Nat)}(h:RBag w0 w L):RBag w0 w.drew L:=h.below (Below.refl _ _).drew
theorem RBag.put{w0 w:World}{L:List (Nat × Rat × Nat)}{b k:Nat}{q:Rat}(h:RBag w0 w L)(hv:RatVal w b q)(hf:Fits q k)(hk:0<k):RBag w0 w ((b,q,k) :: L):=
 ⟨h.base,h.glob,fun t ht=>by
   rcases List.mem_cons.1 ht with rfl|ht
   · exact⟨hv,hf,hk⟩
   · exact h.ts t ht⟩
def RNew(w0:World)(L:List (Nat × Rat × Nat))(q:Rat)(k:Nat)(e:Ending)(w':World):Prop:=∃b,e=.returned (.pointer (some ⟨b,0,none⟩))∧RBag w0 w' ((b,q,k) :: L)
theorem RBag.new{w0 w w':World}{L:List (Nat × Rat × Nat)}{q:Rat}{k:Nat}{e:Ending}(h:RBag w0 w L)(hn:NewRat w q e w')(hf:Fits q k)(hk:0<k):RNew w0 L q k e w':=by
 obtain⟨⟨b,he,_,hv⟩,hb⟩:=hn
 exact⟨b,he,(h.below hb).put hv hf hk⟩
theorem RBag.of{w0 w:World}{L:List (Nat × Rat × Nat)}{n:Nat}(s:ByteArray)(h:RBag w0 w L)(hs:s.size≤n)(hn:n≤1073741824):
 Calls Tryz.prog 23 #[.string s] w fun e w'=>∃q,QOf s.data.toList q∧RNew w0 L q (4*n+1) e w':=by
 obtain⟨m,hm⟩:=h.glob
 refine(Qo6 s m w hm (by omega)).mono ?_
 rintro e w' ⟨q,hq,hk⟩
 exact⟨q,hq,h.new hk (hq.fits (by simpa using hs)) (by omega)⟩
theorem RBag.sign{w0 w:World}{L:List (Nat × Rat × Nat)}{bx j:Nat}{p:Rat}(h:RBag w0 w L)(hx:(bx,p,j)∈ L):
 Calls Tryz.prog 24 #[.pointer (some ⟨bx,0,none⟩)] w fun e w'=>e=.returned (.int .i64 (sgn3 p.num))∧w'=w:=
 Qop bx p w (h.ts _ hx).1
theorem SB.other{w:World}{b g:Nat}{t:TypeId}{C:Array Value}(h:SB w b t C)(hne:b≠g)(i:Nat)(v:Value):SB (w.setCell ⟨g,i,none⟩ v) b t C:=by
 unfold SB at h ⊢
 rw[Below.heap_setCell _ _ _ _ hne];exact h
end Go.Proofs.YtgnmjaponiclhaaGreatDoor
