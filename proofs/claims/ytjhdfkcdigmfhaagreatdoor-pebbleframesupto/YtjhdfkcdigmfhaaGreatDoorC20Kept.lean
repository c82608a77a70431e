/- raftersame's Kept: a frame that was lent stands as it did. -/
import Derived.Deep.RegionLaw
import Derived.Deep.Upon
import Derived.Laws.OwnMore
import Derived.Test.YtjhdfkcdigmfhaaGreatDoorC18ReadS
namespace Go.Proofs.YtjhdfkcdigmfhaaGreatDoor
open Go.RowKit
set_option linter.unusedVariables false
set_option linter.unusedSimpArgs false
structure CRow (w:World) (a:Option Addr) (xs:List Value):Prop where
 cell:∀j u,xs[j]?=some u→∃b off,a=some ⟨b,off,none⟩∧b<w.heap.size∧w.cell? ⟨b,off+j,none⟩=some u
theorem CRow.below{w w':World}{a:Option Addr}{xs:List Value}(h:CRow w a xs)(hb:Below w.heap.size w w'):CRow w' a xs:=by
 refine⟨fun j u hj=>?_⟩
 obtain⟨b,off,h1,h2,h3⟩:=h.cell j u hj
 exact⟨b,off,h1,by have:=hb.size;omega,(hb.cell (p:=⟨b,off+j,none⟩) h2).trans h3⟩
section
variable {P:Program} {t e:TypeId} {i:TypeInfo} {size:Nat}
theorem add_at(b off j:Nat):Addr.add ⟨b,off,none⟩ j=⟨b,off+j,none⟩:=by
 unfold Addr.add
 by_cases hj:j=0<;>simp[hj]
theorem step_app{ops:Array Oper}{o:Oper}{a:Act}{w:World}{K:Act→World→Prop}{Q:Exit→Act→World→Prop}{E:Prop}
 (hg:o.guard=none) (s x:Operand) (hop:o.op=Op.call { callee:=Callee.builtin Builtin.append,args:=#[s,x],argTypes:=#[t,t] })
 {vs vx v:Value} {w':World} (hs:a.eval s=vs) (hx:a.eval x=vx) (hrun:(Builtin.append_ #[t,t] o.type #[vs,vx]).run P w=.ok v w') (hK:K (a.put o.dst v) w'):
 if Region.wanted o (yielded ops a.tmps)=true then Oper.wp P o a w K Q else E:=by
 have hw:Region.wanted o (yielded ops a.tmps)=true:=by simp[Region.wanted,hg]
 rw[if_pos hw]
 unfold Oper.wp
 simp[execOp,hop,resolve,invoke,builtin,hs,hx,hrun,Result.andThen]
 exact hK
end
structure S2 where
 x:ByteArray
 y:ByteArray
structure B6 where
 a:Int
 b:Int
 c:ByteArray
 e:ByteArray
 l:ByteArray
 m:ByteArray
structure H3 where
 j:Int
 w:Int
 q:ByteArray
structure L3 where
 j:Int
 x:ByteArray
 y:ByteArray
def S2.cells(s:S2):List Value:=[.string s.x,.string s.y]
def B6.cells(s:B6):List Value:=[.int .i64 s.a,.int .i64 s.b,.string s.c,.string s.e,.string s.l,.string s.m]
def H3.cells(s:H3):List Value:=[.int .i64 s.j,.int .i64 s.w,.string s.q]
def L3.cells(s:L3):List Value:=[.int .i64 s.j,.string s.x,.string s.y]
structure ARow {α:Type} (c:α→List Value) (w:World) (a:Option Addr) (cap:Nat) (es:List α):Prop where
 fit:es.length≤cap
 row:CRow w a (es.flatMap c)
section
variable {α:Type} {c:α→List Value} {sz:Nat}
theorem ARow.below{w w':World}{a:Option Addr}{cap:Nat}{es:List α}(h:ARow c w a cap es)(hb:Below w.heap.size w w'):ARow c w' a cap es:=⟨h.fit,h.row.below hb⟩
theorem Qbn(hc:∀e,(c e).length=sz)(es:List α):(es.flatMap c).length=es.length*sz:=by
 induction es with
 |nil=>simp
 |cons e l ih=>rw[List.flatMap_cons,List.length_append,ih,hc,List.length_cons,Nat.succ_mul];omega
theorem Qbo(hc:∀e,(c e).length=sz):∀(es:List α) (i:Nat) (e:α) (j:Nat) (u:Value),es[i]?=some e→(c e)[j]?=some u→(es.flatMap c)[i*sz+j]?=some u
 | [],i,e,j,u,h,_=>by simp at h
 |g :: l,0,e,j,u,h,hj=>by
  obtain rfl:g=e:=by simpa using h
  rw[List.flatMap_cons,Nat.zero_mul,Nat.zero_add,List.getElem?_append_left (List.getElem?_eq_some_iff.1 hj).1]
  exact hj
 |g :: l,i+1,e,j,u,h,hj=>by
  have:=Qbo hc l i e j u (by simpa using h) hj
  rw[List.flatMap_cons,List.getElem?_append_right (by rw[hc,Nat.succ_mul];omega),hc,show (i+1)*sz+j - sz=i*sz+j by rw[Nat.succ_mul];omega]
  exact this
theorem ARow.at(hc:∀e,(c e).length=sz)(h0:0<sz){w:World}{a:Option Addr}{cap:Nat}{es:List α}(h:ARow c w a cap es){i:Nat}{e:α}(hi:es[i]?=some e):
 ∃b off,a=some ⟨b,off,none⟩∧b<w.heap.size∧∀j u,(c e)[j]?=some u→w.cell? ⟨b,off+i*sz+j,none⟩=some u:=by
 have h1:∃u,(c e)[0]?=some u:=⟨_,List.getElem?_eq_getElem (by rw[hc];exact h0)⟩
 obtain⟨u,hu⟩:=h1
 obtain⟨b,off,ha,hb,_⟩:=h.row.cell _ _ (Qbo hc es i e 0 u hi hu)
 refine⟨b,off,ha,hb,fun j v hv=>?_⟩
 obtain⟨b',off',ha',_,hcell⟩:=h.row.cell _ _ (Qbo hc es i e j v hi hv)
 rw[ha] at ha'
 cases ha'
 rw[Nat.add_assoc]
 exact hcell
end
theorem ARow.spot{w:World}{a:Option Addr}{cap:Nat}{es:List S2}(h:ARow S2.cells w a cap es){i:Nat}{e:S2}(hi:es[i]?=some e):
 ∃b off,a=some ⟨b,off,none⟩∧b<w.heap.size∧w.cell? ⟨b,off+i*2,none⟩=some (.string e.x)∧w.cell? ⟨b,off+i*2+1,none⟩=some (.string e.y):=by
 obtain⟨b,off,h1,h2,h3⟩:=h.at (sz:=2) (fun _=>rfl) (by decide) hi
 exact⟨b,off,h1,h2,h3 0 _ rfl,h3 1 _ rfl⟩
theorem ARow.bar{w:World}{a:Option Addr}{cap:Nat}{es:List B6}(h:ARow B6.cells w a cap es){i:Nat}{e:B6}(hi:es[i]?=some e):
 ∃b off,a=some ⟨b,off,none⟩∧b<w.heap.size∧w.cell? ⟨b,off+i*6,none⟩=some (.int .i64 e.a)∧w.cell? ⟨b,off+i*6+1,none⟩=some (.int .i64 e.b)∧w.cell? ⟨b,off+i*6+2,none⟩=some (.string e.c)∧w.cell? ⟨b,off+i*6+3,none⟩=some (.string e.e)∧w.cell? ⟨b,off+i*6+4,none⟩=some (.string e.l)∧w.cell? ⟨b,off+i*6+5,none⟩=some (.string e.m):=by
 obtain⟨b,off,h1,h2,h3⟩:=h.at (sz:=6) (fun _=>rfl) (by decide) hi
 exact⟨b,off,h1,h2,h3 0 _ rfl,h3 1 _ rfl,h3 2 _ rfl,h3 3 _ rfl,h3 4 _ rfl,h3 5 _ rfl⟩
theorem ARow.hold{w:World}{a:Option Addr}{cap:Nat}{es:List H3}(h:ARow H3.cells w a cap es){i:Nat}{e:H3}(hi:es[i]?=some e):
 ∃b off,a=some ⟨b,off,none⟩∧b<w.heap.size∧w.cell? ⟨b,off+i*3,none⟩=some (.int .i64 e.j)∧w.cell? ⟨b,off+i*3+1,none⟩=some (.int .i64 e.w)∧w.cell? ⟨b,off+i*3+2,none⟩=some (.string e.q):=by
 obtain⟨b,off,h1,h2,h3⟩:=h.at (sz:=3) (fun _=>rfl) (by decide) hi
 exact⟨b,off,h1,h2,h3 0 _ rfl,h3 1 _ rfl,h3 2 _ rfl⟩
theorem ARow.load{w:World}{a:Option Addr}{cap:Nat}{es:List L3}(h:ARow L3.cells w a cap es){i:Nat}{e:L3}(hi:es[i]?=some e):
 ∃b off,a=some ⟨b,off,none⟩∧b<w.heap.size∧w.cell? ⟨b,off+i*3,none⟩=some (.int .i64 e.j)∧w.cell? ⟨b,off+i*3+1,none⟩=some (.string e.x)∧w.cell? ⟨b,off+i*3+2,none⟩=some (.string e.y):=by
 obtain⟨b,off,h1,h2,h3⟩:=h.at (sz:=3) (fun _=>rfl) (by decide) hi
 exact⟨b,off,h1,h2,h3 0 _ rfl,h3 1 _ rfl,h3 2 _ rfl⟩
structure Stay (P:World→Prop):Prop where
 step:∀u v:World,Below u.heap.size u v→P u→P v
structure PBag (w0 w:World) (L:List (World→Prop)):Prop where
 base:Below w0.heap.size w0 w
 ps:∀P,P∈ L→P w∧Stay P
theorem PBag.start(w:World):PBag w w []:=⟨Below.refl _ _,fun P h=>by cases h⟩
theorem PBag.below{w0 w w':World}{L:List (World→Prop)}(h:PBag w0 w L)(hb:Below w.heap.size w w'):PBag w0 w' L:=
 ⟨h.base.trans (hb.mono h.base.size),fun P hP=>⟨(h.ps P hP).2.step w w' hb (h.ps P hP).1,(h.ps P hP).2⟩⟩
theorem PBag.put{w0 w:World}{L:List (World→Prop)}{P:World→Prop}(h:PBag w0 w L)(hP:P w)(hs:Stay P):PBag w0 w (P :: L):=
 ⟨h.base,fun Q hQ=>by
   rcases List.mem_cons.1 hQ with rfl|hQ
   · exact⟨hP,hs⟩
   · exact h.ps Q hQ⟩
theorem PBag.get{w0 w:World}{L:List (World→Prop)}(h:PBag w0 w L)(P:World→Prop)(hP:P∈ L):P w:=(h.ps P hP).1
theorem SB.stay(b:Nat)(t:TypeId)(C:Array Value):Stay (fun w=>SB w b t C):=⟨fun _ _ hb h=>h.below hb h.lt⟩
theorem ARow.far{α:Type}{c:α→List Value}{w:World}{g cap b i:Nat}{es:List α}{v:Value}(h:ARow c w (some ⟨g,0,none⟩) cap es)(hne:b≠g):ARow c (w.setCell ⟨b,i,none⟩ v) (some ⟨g,0,none⟩) cap es:=by
 refine⟨h.fit,⟨fun j u hj=>?_⟩⟩
 obtain⟨b',off,ha,hb,hc⟩:=h.row.cell j u hj
 cases ha
 exact⟨g,0,rfl,by simpa using hb,by rw[World.cell?_of_block (w:=w) (Below.heap_setCell w ⟨b,i,none⟩ v g (fun e=>hne e.symm))];exact hc⟩
theorem Tryz.frameInfo:(Tryz.prog.info? 54).map (·.size)=some 3:=by kernel_rfl
structure FrRow (w:World) (a1 a2 a3:Option Addr) (c1 c2 c3:Nat) (js:List S2) (bs:List B6) (hs:List H3):Prop where
 j:ARow S2.cells w a1 c1 js
 b:ARow B6.cells w a2 c2 bs
 h:ARow H3.cells w a3 c3 hs
theorem FrRow.below{w w':World}{a1 a2 a3:Option Addr}{c1 c2 c3:Nat}{js:List S2}{bs:List B6}{hs:List H3}(h:FrRow w a1 a2 a3 c1 c2 c3 js bs hs)(hb:Below w.heap.size w w'):FrRow w' a1 a2 a3 c1 c2 c3 js bs hs:=⟨h.j.below hb,h.b.below hb,h.h.below hb⟩
end Go.Proofs.YtjhdfkcdigmfhaaGreatDoor
