/- Roots, rounded once to the nearest float (no Go in it). -/
import Derived.Test.YtodfmpjhcmapmaaGreatDoorN38FrFew
import Derived.Test.YtodfmpjhcmapmaaGreatDoorN27RegI
namespace Go.Proofs.YtodfmpjhcmapmaaGreatDoor
open Go.RowKit
set_option linter.unusedVariables false
set_option linter.unusedSimpArgs false
set_option maxRecDepth 100000 in
set_option maxHeartbeats 4000000 in
theorem Qi7(a1 a2 a3:Option Addr)(c1 c2 c3 i:Nat)(js:List S2)(bs:List B6)(hs:List H3)(b:B6)(p:Nat × Nat × Rat × Rat)(w:World)(hg:∃m,w.cell? ⟨4,0,none⟩=some (.int .i64 m))(hf:FrRow w a1 a2 a3 c1 c2 c3 js bs hs)(hi:bs[i]?=some b)(hb:BarV 1048576 js b p)(n1:js.length≤10)(n2:bs.length≤24):
 Calls Tryz.prog 15 #[.agg #[.slice a1 js.length c1,.slice a2 bs.length c2,.slice a3 hs.length c3],.int .i64 i] w fun e w'=>∃b1 b2,e=.returned (.tuple #[.pointer (some ⟨b1,0,none⟩),.pointer (some ⟨b2,0,none⟩)])∧RBag w w' [(b1,p.2.2.1,8388611),(b2,p.2.2.2,8388611)]:=by
 obtain⟨A,B,rx,ry⟩:=p;obtain⟨s,t,x1,y1,x2,y2,e1,e2,z1,z2,z3,z4,q1,q2,q3,q4,e3,e4⟩:=hb.ex;have hA:=hb.a;have hB:=hb.b;simp only at e1 e2 e3 e4 hA hB;subst e3;subst e4;have hil:=(List.getElem?_eq_some_iff.1 hi).1;have hAl:=(List.getElem?_eq_some_iff.1 e1).1;have hBl:=(List.getElem?_eq_some_iff.1 e2).1;have HG:=Hi (RBag.start hg);have HF:=Hi hf;have HI:=Hi hi;have HS:=Hi e1;have HT:=Hi e2;have HZ:=Hi (⟨z1,z2,z3,z4⟩:s.x.size≤1048576∧s.y.size≤1048576∧t.x.size≤1048576∧t.y.size≤1048576);have HQ:=Hi (⟨q1,q2,q3,q4⟩:QOf s.x.data.toList x1∧QOf s.y.data.toList y1∧QOf t.x.data.toList x2∧QOf t.y.data.toList y2);have iA:((A:Int)<(js.length:Int)):=by omega
 have iB:((B:Int)<(js.length:Int)):=by omega
 have iI:((i:Int)<(bs.length:Int)):=by omega
 clear hg hf hi e1 e2 z1 z2 z3 z4 q1 q2 q3 q4 hb;obtain⟨B0,hB0⟩:∃B0,w.heap.size=B0:=⟨_,rfl⟩;obtain⟨V,hV⟩:∃V,w.alloc (.cells #[.slice a1 js.length c1,.slice a2 bs.length c2,.slice a3 hs.length c3] 26)=V:=⟨_,rfl⟩;have HBV:Hid (Below w.heap.size w V):=Hi (by rw[←hV];exact(Below.refl _ _).alloc (Nat.le_refl _) _);have hsV:SB V B0 26 #[.slice a1 js.length c1,.slice a2 bs.length c2,.slice a3 hs.length c3]:=by rw[←hV,←hB0];exact SB.new w _ _
 obtain⟨jb,jo,rfl,hjb,u0,u1⟩:=(HF.out.below HBV.out).j.spot HS.out;obtain⟨jb',jo',e',_,u2,u3⟩:=(HF.out.below HBV.out).j.spot HT.out;cases e';obtain⟨bb,bo,rfl,hbb,f2,f3,_⟩:=(HF.out.below HBV.out).b.bar HI.out;rw[hA] at f2;rw[hB] at f3;have f0:=hsV.cell 0;have f1:=hsV.cell 1;simp at f0 f1;have hlt0:=hsV.lt;have nw0:V.heap.size≠B0:=by omega
 have nw1:V.heap.size+1≠B0:=by omega
 have nw2:V.heap.size≠jb:=by omega
 have nw3:V.heap.size+1≠jb:=by omega
 have nw4:V.heap.size≠bb:=by omega
 have nw5:V.heap.size+1≠bb:=by omega
 have HV:=Hi hV;have HB0:=Hi hB0;clear hV hB0 hsV hA hB hlt0;go_enter Tryz.func15,Tryz.ntmps15;go_wp2_with fail;rw[HV.out];simp only[HB0.out];go_region_held3 (fun v=>v.cell? ⟨B0,0,none⟩=some (.slice (some ⟨jb,jo,none⟩) js.length c1)∧v.cell? ⟨B0,1,none⟩=some (.slice (some ⟨bb,bo,none⟩) bs.length c2)∧v.cell? ⟨bb,bo+i*6,none⟩=some (.int .i64 (A:Nat))∧v.cell? ⟨bb,bo+i*6+1,none⟩=some (.int .i64 (B:Nat))∧v.cell? ⟨jb,jo+A*2,none⟩=some (.string s.x)∧v.cell? ⟨jb,jo+A*2+1,none⟩=some (.string s.y)∧v.cell? ⟨jb,jo+B*2,none⟩=some (.string t.x)∧v.cell? ⟨jb,jo+B*2+1,none⟩=some (.string t.y)) ((first|(simp [*];done)|go_keep)) (fail)
 ·
  skip;obtain⟨X,hX⟩:∃X,((V.alloc (.cells #[.string s.x,.string s.y] 36)).alloc (.cells #[.string t.x,.string t.y] 36)).drew=X:=⟨_,rfl⟩;have hbX:Below V.heap.size V X:=by rw[←hX];exact(((Below.refl _ _).alloc (Nat.le_refl _) _).alloc (by simp) _).drew
  have hss:SB X (V.heap.size) 36 #[.string s.x,.string s.y]:=by rw[←hX];exact((SB.new V _ _).alloc _)
  have hst:SB X (V.heap.size+1) 36 #[.string t.x,.string t.y]:=by rw[←hX];exact Qcy V _ _ _
  have HSS:=Hi hss;have HST:=Hi hst;have HBX:Hid (Below w.heap.size w X):=Hi (HBV.out.trans (hbX.mono HBV.out.size));have HR:Hid (RBag X X []):=Hi (HG.out.below HBX.out).rebase;have k0:=hss.cell 0;have k1:=hss.cell 1;have k2:=hst.cell 0;have k3:=hst.cell 1;simp at k0 k1 k2 k3;have HXE:=Hi hX;clear hbX hss hst hX f0 f1 f2 f3 u0 u1 u2 u3;rw[HXE.out];go_wp2_with fail;go_region_held3 (fun v=>v.cell? ⟨V.heap.size,0,none⟩=some (.string s.x)∧v.cell? ⟨V.heap.size,1,none⟩=some (.string s.y)∧v.cell? ⟨V.heap.size+1,0,none⟩=some (.string t.x)∧v.cell? ⟨V.heap.size+1,1,none⟩=some (.string t.y)) ((first|(simp [*];done)|go_keep)) (first
   |
    (go_at_call_of 19 (Value.string t.x)
     apply Calls.mono;apply RBag.of (w0:=X) (n:=1048576) t.x;(first|exact HR.out|exact HR.out.drew);exact HZ.out.2.2.1;omega;rintro e wn ⟨q,hq,b1,rfl,hbag⟩;rw[hq.inj HQ.out.2.2.1] at hbag;clear HR k0 k1 k2 k3;have HR:=Hi hbag;clear hq hbag;have k0:=(HSS.out.below HR.out.base HSS.out.lt).cell 0;have k1:=(HSS.out.below HR.out.base HSS.out.lt).cell 1;have k2:=(HST.out.below HR.out.base HST.out.lt).cell 0;have k3:=(HST.out.below HR.out.base HST.out.lt).cell 1;simp at k0 k1 k2 k3
     skip)
   |
    (go_at_call_of 19 (Value.string s.x)
     apply Calls.mono;apply RBag.of (w0:=X) (n:=1048576) s.x;(first|exact HR.out|exact HR.out.drew);exact HZ.out.1;omega;rintro e wn ⟨q,hq,b2,rfl,hbag⟩;rw[hq.inj HQ.out.1] at hbag;clear HR k0 k1 k2 k3;have HR:=Hi hbag;clear hq hbag;have k0:=(HSS.out.below HR.out.base HSS.out.lt).cell 0;have k1:=(HSS.out.below HR.out.base HSS.out.lt).cell 1;have k2:=(HST.out.below HR.out.base HST.out.lt).cell 0;have k3:=(HST.out.below HR.out.base HST.out.lt).cell 1;simp at k0 k1 k2 k3
     skip)
   |
    (go_at_call_of 34 (Value.pointer (some ⟨b1,0,none⟩))
     apply Calls.mono;apply RBag.sub (w0:=X);(first|exact HR.out|exact HR.out.drew);(focus(repeat(first|exact List.Mem.head _|apply List.Mem.tail)));(focus(repeat(first|exact List.Mem.head _|apply List.Mem.tail)));omega;rintro e wn ⟨b3,rfl,hbag⟩;clear HR k0 k1 k2 k3;have HR:=Hi hbag;clear hbag;have k0:=(HSS.out.below HR.out.base HSS.out.lt).cell 0;have k1:=(HSS.out.below HR.out.base HSS.out.lt).cell 1;have k2:=(HST.out.below HR.out.base HST.out.lt).cell 0;have k3:=(HST.out.below HR.out.base HST.out.lt).cell 1;simp at k0 k1 k2 k3
     skip)
   |
    (go_at_call_of 19 (Value.string t.y)
     apply Calls.mono;apply RBag.of (w0:=X) (n:=1048576) t.y;(first|exact HR.out|exact HR.out.drew);exact HZ.out.2.2.2;omega;rintro e wn ⟨q,hq,b4,rfl,hbag⟩;rw[hq.inj HQ.out.2.2.2] at hbag;clear HR k0 k1 k2 k3;have HR:=Hi hbag;clear hq hbag;have k0:=(HSS.out.below HR.out.base HSS.out.lt).cell 0;have k1:=(HSS.out.below HR.out.base HSS.out.lt).cell 1;have k2:=(HST.out.below HR.out.base HST.out.lt).cell 0;have k3:=(HST.out.below HR.out.base HST.out.lt).cell 1;simp at k0 k1 k2 k3
     skip)
   |
    (go_at_call_of 19 (Value.string s.y)
     apply Calls.mono;apply RBag.of (w0:=X) (n:=1048576) s.y;(first|exact HR.out|exact HR.out.drew);exact HZ.out.2.1;omega;rintro e wn ⟨q,hq,b5,rfl,hbag⟩;rw[hq.inj HQ.out.2.1] at hbag;clear HR k0 k1 k2 k3;have HR:=Hi hbag;clear hq hbag;have k0:=(HSS.out.below HR.out.base HSS.out.lt).cell 0;have k1:=(HSS.out.below HR.out.base HSS.out.lt).cell 1;have k2:=(HST.out.below HR.out.base HST.out.lt).cell 0;have k3:=(HST.out.below HR.out.base HST.out.lt).cell 1;simp at k0 k1 k2 k3
     skip)
   |
    (go_at_call_of 34 (Value.pointer (some ⟨b4,0,none⟩))
     apply Calls.mono;apply RBag.sub (w0:=X);(first|exact HR.out|exact HR.out.drew);(focus(repeat(first|exact List.Mem.head _|apply List.Mem.tail)));(focus(repeat(first|exact List.Mem.head _|apply List.Mem.tail)));omega;rintro e wn ⟨b6,rfl,hbag⟩;clear HR k0 k1 k2 k3;have HR:=Hi hbag;clear hbag;have k0:=(HSS.out.below HR.out.base HSS.out.lt).cell 0;have k1:=(HSS.out.below HR.out.base HSS.out.lt).cell 1;have k2:=(HST.out.below HR.out.base HST.out.lt).cell 0;have k3:=(HST.out.below HR.out.base HST.out.lt).cell 1;simp at k0 k1 k2 k3
     skip)
   |fail)
  all_goals
   clear k0 k1 k2 k3;go_wp2;go_ret2;refine⟨b3,b6,rfl,(by first|exact HR.out|exact HR.out.drew:RBag X _ _).mono HBX.out (fun f hf=>?_)⟩;simp only[List.mem_cons,List.not_mem_nil,or_false] at hf;rcases hf with rfl|rfl
   ·
    exact⟨_,(by
     (focus(repeat(first|exact List.Mem.head _|apply List.Mem.tail)))
     skip),Nat.le_refl _⟩
   ·
    exact⟨_,(by
     (focus(repeat(first|exact List.Mem.head _|apply List.Mem.tail)))
     skip),Nat.le_refl _⟩
 ·
  skip;obtain⟨X,hX⟩:∃X,((V.alloc (.cells #[.string t.x,.string t.y] 36)).alloc (.cells #[.string s.x,.string s.y] 36)).drew=X:=⟨_,rfl⟩;have hbX:Below V.heap.size V X:=by rw[←hX];exact(((Below.refl _ _).alloc (Nat.le_refl _) _).alloc (by simp) _).drew
  have hss:SB X (V.heap.size+1) 36 #[.string s.x,.string s.y]:=by rw[←hX];exact Qcy V _ _ _
  have hst:SB X (V.heap.size) 36 #[.string t.x,.string t.y]:=by rw[←hX];exact((SB.new V _ _).alloc _)
  have HSS:=Hi hss;have HST:=Hi hst;have HBX:Hid (Below w.heap.size w X):=Hi (HBV.out.trans (hbX.mono HBV.out.size));have HR:Hid (RBag X X []):=Hi (HG.out.below HBX.out).rebase;have k0:=hss.cell 0;have k1:=hss.cell 1;have k2:=hst.cell 0;have k3:=hst.cell 1;simp at k0 k1 k2 k3;have HXE:=Hi hX;clear hbX hss hst hX f0 f1 f2 f3 u0 u1 u2 u3;rw[HXE.out];go_wp2_with fail;go_region_held3 (fun v=>v.cell? ⟨V.heap.size+1,0,none⟩=some (.string s.x)∧v.cell? ⟨V.heap.size+1,1,none⟩=some (.string s.y)∧v.cell? ⟨V.heap.size,0,none⟩=some (.string t.x)∧v.cell? ⟨V.heap.size,1,none⟩=some (.string t.y)) ((first|(simp [*];done)|go_keep)) (first
   |
    (go_at_call_of 19 (Value.string t.x)
     apply Calls.mono;apply RBag.of (w0:=X) (n:=1048576) t.x;(first|exact HR.out|exact HR.out.drew);exact HZ.out.2.2.1;omega;rintro e wn ⟨q,hq,b1,rfl,hbag⟩;rw[hq.inj HQ.out.2.2.1] at hbag;clear HR k0 k1 k2 k3;have HR:=Hi hbag;clear hq hbag;have k0:=(HSS.out.below HR.out.base HSS.out.lt).cell 0;have k1:=(HSS.out.below HR.out.base HSS.out.lt).cell 1;have k2:=(HST.out.below HR.out.base HST.out.lt).cell 0;have k3:=(HST.out.below HR.out.base HST.out.lt).cell 1;simp at k0 k1 k2 k3
     skip)
   |
    (go_at_call_of 19 (Value.string s.x)
     apply Calls.mono;apply RBag.of (w0:=X) (n:=1048576) s.x;(first|exact HR.out|exact HR.out.drew);exact HZ.out.1;omega;rintro e wn ⟨q,hq,b2,rfl,hbag⟩;rw[hq.inj HQ.out.1] at hbag;clear HR k0 k1 k2 k3;have HR:=Hi hbag;clear hq hbag;have k0:=(HSS.out.below HR.out.base HSS.out.lt).cell 0;have k1:=(HSS.out.below HR.out.base HSS.out.lt).cell 1;have k2:=(HST.out.below HR.out.base HST.out.lt).cell 0;have k3:=(HST.out.below HR.out.base HST.out.lt).cell 1;simp at k0 k1 k2 k3
     skip)
   |
    (go_at_call_of 34 (Value.pointer (some ⟨b1,0,none⟩))
     apply Calls.mono;apply RBag.sub (w0:=X);(first|exact HR.out|exact HR.out.drew);(focus(repeat(first|exact List.Mem.head _|apply List.Mem.tail)));(focus(repeat(first|exact List.Mem.head _|apply List.Mem.tail)));omega;rintro e wn ⟨b3,rfl,hbag⟩;clear HR k0 k1 k2 k3;have HR:=Hi hbag;clear hbag;have k0:=(HSS.out.below HR.out.base HSS.out.lt).cell 0;have k1:=(HSS.out.below HR.out.base HSS.out.lt).cell 1;have k2:=(HST.out.below HR.out.base HST.out.lt).cell 0;have k3:=(HST.out.below HR.out.base HST.out.lt).cell 1;simp at k0 k1 k2 k3
     skip)
   |
    (go_at_call_of 19 (Value.string t.y)
     apply Calls.mono;apply RBag.of (w0:=X) (n:=1048576) t.y;(first|exact HR.out|exact HR.out.drew);exact HZ.out.2.2.2;omega;rintro e wn ⟨q,hq,b4,rfl,hbag⟩;rw[hq.inj HQ.out.2.2.2] at hbag;clear HR k0 k1 k2 k3;have HR:=Hi hbag;clear hq hbag;have k0:=(HSS.out.below HR.out.base HSS.out.lt).cell 0;have k1:=(HSS.out.below HR.out.base HSS.out.lt).cell 1;have k2:=(HST.out.below HR.out.base HST.out.lt).cell 0;have k3:=(HST.out.below HR.out.base HST.out.lt).cell 1;simp at k0 k1 k2 k3
     skip)
   |
    (go_at_call_of 19 (Value.string s.y)
     apply Calls.mono;apply RBag.of (w0:=X) (n:=1048576) s.y;(first|exact HR.out|exact HR.out.drew);exact HZ.out.2.1;omega;rintro e wn ⟨q,hq,b5,rfl,hbag⟩;rw[hq.inj HQ.out.2.1] at hbag;clear HR k0 k1 k2 k3;have HR:=Hi hbag;clear hq hbag;have k0:=(HSS.out.below HR.out.base HSS.out.lt).cell 0;have k1:=(HSS.out.below HR.out.base HSS.out.lt).cell 1;have k2:=(HST.out.below HR.out.base HST.out.lt).cell 0;have k3:=(HST.out.below HR.out.base HST.out.lt).cell 1;simp at k0 k1 k2 k3
     skip)
   |
    (go_at_call_of 34 (Value.pointer (some ⟨b4,0,none⟩))
     apply Calls.mono;apply RBag.sub (w0:=X);(first|exact HR.out|exact HR.out.drew);(focus(repeat(first|exact List.Mem.head _|apply List.Mem.tail)));(focus(repeat(first|exact List.Mem.head _|apply List.Mem.tail)));omega;rintro e wn ⟨b6,rfl,hbag⟩;clear HR k0 k1 k2 k3;have HR:=Hi hbag;clear hbag;have k0:=(HSS.out.below HR.out.base HSS.out.lt).cell 0;have k1:=(HSS.out.below HR.out.base HSS.out.lt).cell 1;have k2:=(HST.out.below HR.out.base HST.out.lt).cell 0;have k3:=(HST.out.below HR.out.base HST.out.lt).cell 1;simp at k0 k1 k2 k3
     skip)
   |fail)
  all_goals
   clear k0 k1 k2 k3;go_wp2;go_ret2;refine⟨b3,b6,rfl,(by first|exact HR.out|exact HR.out.drew:RBag X _ _).mono HBX.out (fun f hf=>?_)⟩;simp only[List.mem_cons,List.not_mem_nil,or_false] at hf;rcases hf with rfl|rfl
   ·
    exact⟨_,(by
     (focus(repeat(first|exact List.Mem.head _|apply List.Mem.tail)))
     skip),Nat.le_refl _⟩
   ·
    exact⟨_,(by
     (focus(repeat(first|exact List.Mem.head _|apply List.Mem.tail)))
     skip),Nat.le_refl _⟩
def cmpQ(p q:Rat):Int:=cmpZ (p.num*(q.den:Int)) (q.num*(p.den:Int))
theorem Qgb(p q:Rat):cmpQ p q=0↔p=q:=by
 rw[←Qib];unfold cmpQ cmpZ
 split
 ·
  constructor
  · intro h;omega
  · intro h;omega
 ·
  split
  · simp[*]
  ·
   constructor
   · intro h;omega
   · intro h;omega
theorem Qgc(p q:Rat):0<cmpQ p q↔q<p:=by
 rw[Rat.lt_iff];unfold cmpQ cmpZ
 split
 ·
  constructor
  · intro h;omega
  · intro h;omega
 ·
  split
  ·
   constructor
   · intro h;omega
   · intro h;omega
  ·
   constructor
   · intro h;omega
   · intro h;omega
def FF(q:Rat)(k:Nat):Fact:=fun v w=>FracV w v q∧Fits q k∧0<k
theorem FF.stays(q:Rat)(k:Nat):Stays (FF q k):=fun _ _ _ hb h=>⟨h.1.below hb,h.2⟩
theorem FF.below{q:Rat}{k:Nat}{v:Value}{w w':World}(h:FF q k v w)(hb:Below w.heap.size w w'):FF q k v w':=FF.stays q k v w w' hb h
def Makes(w:World)(φ:Fact)(e:Ending)(w':World):Prop:=∃v,e=.returned v∧Below w.heap.size w w'∧φ v w'
theorem Makes.use{P:Program}{f:FuncId}{args:Array Value}{w:World}{φ:Fact}{R:Ending→World→Prop}(h:Calls P f args w (Makes w φ))(hR:∀v w',Below w.heap.size w w'→φ v w'→R (.returned v) w'):Calls P f args w R:=
 h.mono fun e w' ⟨v,he,hb,hv⟩=>by subst he;exact hR v w' hb hv
theorem FNew.makes{w w':World}{q:Rat}{k:Nat}{e:Ending}(h:FNew w q e w')(hf:Fits q k)(hk:0<k):Makes w (FF q k) e w':=by
 obtain⟨⟨v,rfl,hv⟩,hb⟩:=h;exact⟨v,rfl,hb,hv,hf,hk⟩
theorem FF.plus{u v:Value}{p q:Rat}{j k:Nat}{w:World}(h1:FF p j u w)(h2:FF q k v w)(hj:j+k<68719476000):Calls Tryz.prog 62 #[u,v] w (Makes w (FF (p+q) (j+k+1))):=
 (Qkx h1.1 h2.1 h1.2.1 h2.2.1 hj).mono fun e w' h=>h.makes (h1.2.1.add h2.2.1) (by omega)
theorem FF.times{u v:Value}{p q:Rat}{j k:Nat}{w:World}(h1:FF p j u w)(h2:FF q k v w)(hj:j+k<68719476000):Calls Tryz.prog 64 #[u,v] w (Makes w (FF (p*q) (j+k))):=
 (Qky h1.1 h2.1 h1.2.1 h2.2.1 hj).mono fun e w' h=>h.makes (h1.2.1.mul h2.2.1 h1.2.2) (by have:=h1.2.2;omega)
theorem FF.sign{u:Value}{p:Rat}{j:Nat}{w:World}(h1:FF p j u w):Calls Tryz.prog 63 #[u] w (Makes w (Is (.int .i64 (sgn3 p.num)))):=
 (Qi2 h1.1).mono fun e w' h=>⟨_,h.1,h.2,rfl⟩
theorem FF.of{s:ByteArray}{q:Rat}{n K:Nat}{w:World}(hg:Glob w)(hq:QOf s.data.toList q)(hs:s.size≤n)(hn:n≤1073741824)(hK:4*n+1≤K):Calls Tryz.prog 29 #[.string s] w (Makes w (FF q K)):=by
 refine((FBag.start hg).of s hs hn).mono ?_;rintro e w' ⟨q',hq',x,y,z,rfl,hb⟩;obtain rfl:=hq.inj hq';have:=hb.get List.mem_cons_self;exact⟨_,rfl,hb.base,this.1,this.2.1.mono hK,by omega⟩
def RF(q:Rat)(k:Nat):Fact:=fun v w=>∃b,v=.pointer (some ⟨b,0,none⟩)∧RatVal w b q∧Fits q k∧0<k
theorem RF.stays(q:Rat)(k:Nat):Stays (RF q k):=fun _ _ _ hb ⟨b,e,h,r⟩=>⟨b,e,h.below hb,r⟩
theorem RF.below{q:Rat}{k:Nat}{v:Value}{w w':World}(h:RF q k v w)(hb:Below w.heap.size w w'):RF q k v w':=RF.stays q k v w w' hb h
theorem NewRat.makes{w w':World}{q:Rat}{k:Nat}{e:Ending}(h:NewRat w q e w')(hf:Fits q k)(hk:0<k):Makes w (RF q k) e w':=by
 obtain⟨⟨b,rfl,_,hv⟩,hb⟩:=h;exact⟨_,rfl,hb,b,rfl,hv,hf,hk⟩
theorem RF.add{u v:Value}{p q:Rat}{j k:Nat}{w:World}(h1:RF p j u w)(h2:RF q k v w)(hj:j+k<274877906000):Calls Tryz.prog 16 #[u,v] w (Makes w (RF (p+q) (j+k+1))):=by
 obtain⟨b,rfl,r1,f1,_⟩:=h1;obtain⟨c,rfl,r2,f2,_⟩:=h2;exact(Qqw b c j k p q w r1 r2 f1 f2 hj).mono fun e w' h=>h.makes (f1.add f2) (by omega)
theorem RF.mul{u v:Value}{p q:Rat}{j k:Nat}{w:World}(h1:RF p j u w)(h2:RF q k v w)(hj:j+k<274877906000):Calls Tryz.prog 17 #[u,v] w (Makes w (RF (p*q) (j+k))):=by
 obtain⟨b,rfl,r1,f1,hj0⟩:=h1;obtain⟨c,rfl,r2,f2,_⟩:=h2;exact(Qqy b c j k p q w r1 r2 f1 f2 hj).mono fun e w' h=>h.makes (f1.mul f2 hj0) (by omega)
theorem RF.of{s:ByteArray}{q:Rat}{K:Nat}{w:World}(hg:Glob w)(hq:QOf s.data.toList q)(hs:s.size≤1073741824)(hf:Fits q K)(hK:0<K):Calls Tryz.prog 19 #[.string s] w (Makes w (RF q K)):=by
 obtain⟨m,hm⟩:=hg.most;refine(Qis s m w hm hs).mono ?_;rintro e w' ⟨q',hq',hn⟩;obtain rfl:=hq.inj hq';exact hn.makes hf hK
theorem RF.sign{u:Value}{p:Rat}{j:Nat}{w:World}(h:RF p j u w):Calls Tryz.prog 20 #[u] w (Makes w (Is (.int .i64 (sgn3 p.num)))):=by
 obtain⟨b,rfl,r1,f1,_⟩:=h;exact(Qie b p w r1).mono fun e w' ⟨he,hw⟩=>⟨_,he,by rw[hw];exact Below.refl _ _,rfl⟩
theorem RF.cmp{u v:Value}{p q:Rat}{j k:Nat}{w:World}(h1:RF p j u w)(h2:RF q k v w)(hj:j+k<274877906000):Calls Tryz.prog 30 #[u,v] w (Makes w (Is (.int .i64 (cmpQ p q)))):=by
 obtain⟨b,rfl,r1,f1,_⟩:=h1;obtain⟨c,rfl,r2,f2,_⟩:=h2;exact(Qic b c j k p q w r1 r2 f1 f2 hj).mono fun e w' h=>⟨_,h.1,h.2,rfl⟩
theorem RF.quo{u v:Value}{p q:Rat}{j k:Nat}{w:World}(h1:RF p j u w)(h2:RF q k v w)(hq:q≠0)(hj:j+k<274877906000):Calls Tryz.prog 44 #[u,v] w (Makes w (RF (p / q) (j+k))):=by
 obtain⟨b,rfl,r1,f1,hj0⟩:=h1;obtain⟨c,rfl,r2,f2,hk0⟩:=h2;exact(Qp6 b c j k p q w r1 r2 f1 f2 hj (fun h=>hq (Rat.num_eq_zero.1 h))).mono fun e w' h=>h.makes (f1.div f2 hj0 hk0) (by omega)
end Go.Proofs.YtodfmpjhcmapmaaGreatDoor
namespace Go.Proofs.YtodfmpjhcmapmaaGreatDoor
namespace Nea
set_option linter.unusedVariables false
def U(r:Nat):Nat:=if r<4503599627370496 then r else (4503599627370496+r % 4503599627370496)*2 ^ (r / 4503599627370496 - 1)
def Fo(E k:Nat):Prop:=(E=0∨4503599627370496≤k)∧k≤9007199254740992
theorem Qn3(E:Nat):(4503599627370496+0)*2 ^ (E+1)=9007199254740992*2 ^ E:=by
 have h:2 ^ (E+1)=2*2 ^ E:=by rw[Nat.pow_succ,Nat.mul_comm]
 rw[h];generalize 2 ^ E=p;omega
theorem U_of{E k:Nat}(h:Fo E k):U (E*4503599627370496+k)=k*2 ^ E:=by
 obtain⟨h1,h2⟩:=h;unfold U;by_cases hk:k<4503599627370496
 ·
  have hE:E=0:=by omega
  subst hE;rw[if_pos (by omega)];simp
 ·
  rw[if_neg (by omega)];by_cases hk2:k=9007199254740992
  ·
   subst hk2;have e1:(E*4503599627370496+9007199254740992) % 4503599627370496=0:=by omega
   have e2:(E*4503599627370496+9007199254740992) / 4503599627370496 - 1=E+1:=by omega
   rw[e1,e2];exact Qn3 E
  ·
   have e1:(E*4503599627370496+k) % 4503599627370496=k - 4503599627370496:=by omega
   have e2:(E*4503599627370496+k) / 4503599627370496 - 1=E:=by omega
   rw[e1,e2,show 4503599627370496+(k - 4503599627370496)=k by omega]
theorem rung_form(r:Nat):∃E k,r=E*4503599627370496+k∧Fo E k∧k<9007199254740992:=by
 by_cases h:r<4503599627370496
 · exact⟨0,r,by omega,⟨Or.inl rfl,by omega⟩,by omega⟩
 · refine⟨r / 4503599627370496 - 1,4503599627370496+r % 4503599627370496,by omega,⟨Or.inr (by omega),by omega⟩,by omega⟩
def Near(X:Rat)(r:Nat):Prop:=
 (0<r→(((U (r - 1)+U r)*(U (r - 1)+U r):Nat):Rat)<4*X∨((((U (r - 1)+U r)*(U (r - 1)+U r):Nat):Rat)=4*X∧r % 2=0))∧
 (r<9218868437227405312→4*X<(((U r+U (r+1))*(U r+U (r+1)):Nat):Rat)∨(4*X=(((U r+U (r+1))*(U r+U (r+1)):Nat):Rat)∧r % 2=0))
structure Rounds (Y:Rat) (W W' c K h:Nat):Prop where
 lo:((W*W:Nat):Rat)≤Y
 hi:Y<(((W+1)*(W+1):Nat):Rat)
 st:(Y=((W*W:Nat):Rat)∧W'=W)∨(Y≠((W*W:Nat):Rat)∧W' % 2=1∧(W'=W∨W'=W+1))
 h0:0<h
 ev:h % 2=0
 c0:c=W' / (2*h)
 kk:K=if h<W' % (2*h)∨(W' % (2*h)=h∧c % 2=1) then c+1 else c
theorem ltle{a b c:Rat}(h:a<b)(k:b≤c):a<c:=by grind
theorem nle{a b:Nat}(h:a≤b):(a:Rat)≤(b:Rat):=Rat.natCast_le_natCast.2 h
theorem nlt{a b:Nat}(h:a<b):(a:Rat)<(b:Rat):=Rat.natCast_lt_natCast.2 h
theorem sq_lt{a b:Nat}(h:a<b):((a*a:Nat):Rat)<((b*b:Nat):Rat):=nlt (Nat.mul_self_lt_mul_self h)
theorem sq_le{a b:Nat}(h:a≤b):((a*a:Nat):Rat)≤((b*b:Nat):Rat):=nle (Nat.mul_self_le_mul_self h)
theorem Rounds.parts{Y:Rat}{W W' c K h:Nat}(H:Rounds Y W W' c K h):∃d,W'=c*(2*h)+d∧d<2*h∧((K=c+1∧(h<d∨(d=h∧c % 2=1)))∨(K=c∧d≤h∧(d=h→c % 2=0))):=by
 have h0:=H.h0;refine⟨W' % (2*h),?_,Nat.mod_lt _ (by omega),?_⟩
 ·
  have:=Nat.div_add_mod W' (2*h);rw[H.c0,Nat.mul_comm];exact this.symm
 ·
  have hk:=H.kk
  split at hk
  · rename_i hc
    exact Or.inl ⟨hk,hc⟩
  · rename_i hc
    exact Or.inr ⟨hk,by omega,fun e=>by omega⟩
theorem Rounds.odd{Y:Rat}{W W' c K h:Nat}(H:Rounds Y W W' c K h)(e:W'=c*(2*h)+h):Y=((W*W:Nat):Rat)∧W'=W:=by
 rcases H.st with h1|⟨_,h2,_⟩
 · exact h1
 ·
  exfalso
  have:=H.ev;have e2:c*(2*h)=2*(c*h):=by rw[Nat.mul_left_comm]
  omega
theorem Rounds.low{Y:Rat}{W W' c K h:Nat}(H:Rounds Y W W' c K h)(hK:0<K):((((2*K - 1)*h)*((2*K - 1)*h):Nat):Rat)<Y∨(((((2*K - 1)*h)*((2*K - 1)*h):Nat):Rat)=Y∧K % 2=0):=by
 obtain⟨d,e,hd,hc⟩:=H.parts;have h0:=H.h0;have ev:=H.ev;rcases hc with ⟨rfl,hc⟩|⟨rfl,hc,_⟩
 ·
  have e2:(2*(c+1) - 1)*h=c*(2*h)+h:=by
   rw[show 2*(c+1) - 1=2*c+1 by omega,Nat.add_mul,Nat.one_mul,Nat.mul_assoc,Nat.mul_left_comm]
  rw[e2];rcases hc with hc|⟨hc,ho⟩
  ·
   left;rcases H.st with ⟨h1,h2⟩|⟨h1,h2,h3|h3⟩
   · exact ltle (sq_lt (by omega)) H.lo
   · exact ltle (sq_lt (by omega)) H.lo
   ·
    exact Rat.lt_of_le_of_ne (Rat.le_trans (sq_le (by omega)) H.lo) (fun e9=>by
     have h5:((W*W:Nat):Rat)=Y:=Rat.le_antisymm H.lo (by rw[←e9];exact sq_le (by omega))
     exact h1 h5.symm)
  ·
   right;subst hc;obtain⟨h1,h2⟩:=H.odd e;rw[h1,←h2,←e];exact⟨rfl,by omega⟩
 ·
  left;obtain⟨p,rfl⟩:∃p,K=p+1:=⟨K - 1,by omega⟩;have e2:(2*(p+1) - 1)*h+h=(p+1)*(2*h):=by
   rw[show 2*(p+1) - 1=2*p+1 by omega,←Nat.succ_mul,←Nat.mul_assoc,Nat.mul_comm (p+1) 2]
   congr 1
  refine ltle (sq_lt ?_) H.lo;rcases H.st with ⟨h1,h2⟩|⟨h1,h2,h3|h3⟩<;>omega
theorem Rounds.high{Y:Rat}{W W' c K h:Nat}(H:Rounds Y W W' c K h):Y<((((2*K+1)*h)*((2*K+1)*h):Nat):Rat)∨(Y=((((2*K+1)*h)*((2*K+1)*h):Nat):Rat)∧K % 2=0):=by
 obtain⟨d,e,hd,hc⟩:=H.parts;have h0:=H.h0;have ev:=H.ev;have e1:∀x:Nat,(2*x+1)*h=x*(2*h)+h:=fun x=>by rw[Nat.add_mul,Nat.one_mul,Nat.mul_assoc,Nat.mul_left_comm]
 rcases hc with ⟨rfl,hc⟩|⟨rfl,hc,hev⟩
 ·
  left;rw[e1,show (c+1)*(2*h)=c*(2*h)+2*h by rw[Nat.add_mul,Nat.one_mul]];refine ltle H.hi (sq_le ?_);rcases H.st with ⟨h1,h2⟩|⟨h1,h2,h3|h3⟩<;>omega
 ·
  rw[e1];by_cases hdh:d=h
  ·
   right;subst hdh;obtain⟨h1,h2⟩:=H.odd e;rw[h1,←h2,←e];exact⟨rfl,hev rfl⟩
  ·
   left;refine ltle H.hi (sq_le ?_);rcases H.st with ⟨h1,h2⟩|⟨h1,h2,h3|h3⟩<;>omega
theorem sc_lt{X Y:Rat}{a h p:Nat}(hX:4*X*((h*h:Nat):Rat)=Y*((p*p:Nat):Rat))(hp:0<p)(hlt:(((a*h)*(a*h):Nat):Rat)<Y):(((a*p)*(a*p):Nat):Rat)<4*X:=by
 apply Rat.not_le.1;intro hc;have h1:=Rat.mul_le_mul_of_nonneg_right hc (show (0:Rat)≤((h*h:Nat):Rat) from nle (Nat.zero_le _));have h2:=Rat.mul_lt_mul_of_pos_right hlt (show (0:Rat)<((p*p:Nat):Rat) from nlt (Nat.mul_pos hp hp));rw[hX] at h1;have e:(((a*p)*(a*p):Nat):Rat)*((h*h:Nat):Rat)=(((a*h)*(a*h):Nat):Rat)*((p*p:Nat):Rat):=by
  rw[←Rat.natCast_mul,←Rat.natCast_mul]
  congr 1
  grind
 rw[e] at h1;exact absurd h2 (Rat.not_lt.2 h1)
theorem sc_gt{X Y:Rat}{a h p:Nat}(hX:4*X*((h*h:Nat):Rat)=Y*((p*p:Nat):Rat))(hp:0<p)(hlt:Y<(((a*h)*(a*h):Nat):Rat)):4*X<(((a*p)*(a*p):Nat):Rat):=by
 apply Rat.not_le.1;intro hc;have h1:=Rat.mul_le_mul_of_nonneg_right hc (show (0:Rat)≤((h*h:Nat):Rat) from nle (Nat.zero_le _));have h2:=Rat.mul_lt_mul_of_pos_right hlt (show (0:Rat)<((p*p:Nat):Rat) from nlt (Nat.mul_pos hp hp));rw[hX] at h1;have e:(((a*p)*(a*p):Nat):Rat)*((h*h:Nat):Rat)=(((a*h)*(a*h):Nat):Rat)*((p*p:Nat):Rat):=by
  rw[←Rat.natCast_mul,←Rat.natCast_mul]
  congr 1
  grind
 rw[e] at h1;exact absurd h2 (Rat.not_lt.2 h1)
theorem sc_eq{X Y:Rat}{a h p:Nat}(hX:4*X*((h*h:Nat):Rat)=Y*((p*p:Nat):Rat))(hh:0<h)(he:Y=(((a*h)*(a*h):Nat):Rat)):4*X=(((a*p)*(a*p):Nat):Rat):=by
 have hh2:((h*h:Nat):Rat)≠0:=fun e=>by
  have:=nlt (Nat.mul_pos hh hh);rw[e] at this;exact absurd this (by decide)
 have e:(((a*p)*(a*p):Nat):Rat)*((h*h:Nat):Rat)=(((a*h)*(a*h):Nat):Rat)*((p*p:Nat):Rat):=by
  rw[←Rat.natCast_mul,←Rat.natCast_mul]
  congr 1
  grind
 have h3:4*X*((h*h:Nat):Rat)=(((a*p)*(a*p):Nat):Rat)*((h*h:Nat):Rat):=by rw[hX,he,e]
 have h4:=congrArg (· / ((h*h:Nat):Rat)) h3;rw[Rat.mul_div_cancel hh2,Rat.mul_div_cancel hh2] at h4;exact h4
theorem Rounds.floor{Y:Rat}{W W' c K h:Nat}(H:Rounds Y W W' c K h):(((2*c*h)*(2*c*h):Nat):Rat)≤Y:=by
 obtain⟨d,e,hd,_⟩:=H.parts;refine Rat.le_trans (sq_le ?_) H.lo;have e2:c*(2*h)=2*c*h:=by rw[Nat.mul_left_comm,Nat.mul_assoc]
 have e3:c*(2*h)=2*(c*h):=by rw[Nat.mul_left_comm]
 rcases H.st with ⟨_,h2⟩|⟨_,h2,h3|h3⟩<;>omega
theorem Rounds.near{Y X:Rat}{W W' c K h E:Nat}(H:Rounds Y W W' c K h)(hX:4*X*((h*h:Nat):Rat)=Y*((2 ^ E*2 ^ E:Nat):Rat))(hF:Fo E K)(hT:E=0∨4503599627370496≤c):Near X (min (E*4503599627370496+K) 9218868437227405312):=by
 have hp:0<2 ^ E:=Nat.two_pow_pos E;have hlow:0<K→(((((2*K - 1)*2 ^ E)*((2*K - 1)*2 ^ E):Nat):Rat)<4*X∨(((((2*K - 1)*2 ^ E)*((2*K - 1)*2 ^ E):Nat):Rat)=4*X∧K % 2=0)):=fun hK=>by
  rcases H.low hK with h1|⟨h1,h2⟩
  · exact Or.inl (sc_lt hX hp h1)
  · exact Or.inr ⟨(sc_eq hX H.h0 h1.symm).symm,h2⟩
 have hhigh:(4*X<((((2*K+1)*2 ^ E)*((2*K+1)*2 ^ E):Nat):Rat)∨(4*X=((((2*K+1)*2 ^ E)*((2*K+1)*2 ^ E):Nat):Rat)∧K % 2=0)):=by
  rcases H.high with h1|⟨h1,h2⟩
  · exact Or.inl (sc_gt hX hp h1)
  · exact Or.inr ⟨sc_eq hX H.h0 h1,h2⟩
 have hcK:c=K∨c+1=K:=by
  obtain⟨d,_,_,hc⟩:=H.parts;omega
 have hfl:4503599627370496≤c→(((9007199254740992*2 ^ E)*(9007199254740992*2 ^ E):Nat):Rat)≤4*X:=fun hc=>by
  have h1:(((9007199254740992*h)*(9007199254740992*h):Nat):Rat)≤Y:=Rat.le_trans (sq_le (Nat.mul_le_mul_right _ (by omega))) H.floor;rcases(Rat.le_iff_lt_or_eq).1 h1 with h2|h2
  · exact Rat.le_of_lt (sc_lt hX hp h2)
  · rw[sc_eq hX H.h0 h2.symm]
    exact Rat.le_refl
 obtain⟨p,hpe⟩:∃p,2 ^ E=p:=⟨_,rfl⟩;by_cases hlt:E*4503599627370496+K<9218868437227405312
 ·
  rw[Nat.min_eq_left (Nat.le_of_lt hlt)];refine⟨fun h0=>?_,fun _=>?_⟩
  ·
   have hK:0<K:=by
    obtain⟨h1,_⟩:=hF;omega
   by_cases hr:E=0∨4503599627370496<K
   ·
    have e1:U (E*4503599627370496+K - 1)=(K - 1)*2 ^ E:=by
     rw[show E*4503599627370496+K - 1=E*4503599627370496+(K - 1) by omega];exact U_of ⟨by omega,by have:=hF.2;omega⟩
    have e2:U (E*4503599627370496+K - 1)+U (E*4503599627370496+K)=(2*K - 1)*2 ^ E:=by
     rw[e1,U_of hF,←Nat.add_mul]
     congr 1
     omega
    rw[e2];rcases hlow hK with h1|⟨h1,h2⟩
    · exact Or.inl h1
    · exact Or.inr ⟨h1,by omega⟩
   ·
    left;have hKB:K=4503599627370496:=by
     obtain⟨h1,_⟩:=hF;omega
    obtain⟨e,rfl⟩:∃e,E=e+1:=⟨E - 1,by omega⟩;have hcB:4503599627370496≤c:=by omega
    have e1:U ((e+1)*4503599627370496+K - 1)=9007199254740991*2 ^ e:=by
     rw[show (e+1)*4503599627370496+K - 1=e*4503599627370496+9007199254740991 by omega];exact U_of ⟨Or.inr (by omega),by omega⟩
    refine ltle (sq_lt ?_) (hfl hcB);rw[e1,U_of hF,hKB,Nat.pow_succ];have:=Nat.two_pow_pos e;generalize 2 ^ e=t at*;omega
  ·
   by_cases hr:K<9007199254740992
   ·
    have e1:U (E*4503599627370496+K+1)=(K+1)*2 ^ E:=by
     rw[Nat.add_assoc];exact U_of ⟨by have:=hF.1;omega,by omega⟩
    have e2:U (E*4503599627370496+K)+U (E*4503599627370496+K+1)=(2*K+1)*2 ^ E:=by
     rw[e1,U_of hF,←Nat.add_mul]
     congr 1
     omega
    rw[e2];rcases hhigh with h1|⟨h1,h2⟩
    · exact Or.inl h1
    · exact Or.inr ⟨h1,by omega⟩
   ·
    left;have hKB:K=9007199254740992:=by have:=hF.2;omega
    have e1:U (E*4503599627370496+K+1)=4503599627370497*2 ^ (E+1):=by
     rw[show E*4503599627370496+K+1=(E+1)*4503599627370496+4503599627370497 by omega];exact U_of ⟨Or.inr (by omega),by omega⟩
    have e2:(2*K+1)*2 ^ E<U (E*4503599627370496+K)+U (E*4503599627370496+K+1):=by
     rw[e1,U_of hF,hKB,Nat.pow_succ];generalize 2 ^ E=t at*;omega
    rcases hhigh with h1|⟨h1,_⟩
    · exact ltle h1 (Rat.le_of_lt (sq_lt e2))
    · rw[h1]
      exact sq_lt e2
 ·
  rw[Nat.min_eq_right (by omega)];refine⟨fun _=>?_,fun h=>absurd h (by omega)⟩;obtain⟨e,he⟩:∃e,e=2045:=⟨_,rfl⟩;have hE:e≤E:=by have:=hF.2;omega
  have e1:U (9218868437227405312 - 1)=9007199254740991*2 ^ e:=by
   rw[show 9218868437227405312 - 1=e*4503599627370496+9007199254740991 by omega];exact U_of ⟨Or.inr (by omega),by omega⟩
  have e2:U 9218868437227405312=9007199254740992*2 ^ e:=by
   rw[show 9218868437227405312=e*4503599627370496+9007199254740992 by omega];exact U_of ⟨Or.inr (by omega),by omega⟩
  have e3:U (9218868437227405312 - 1)+U 9218868437227405312=18014398509481983*2 ^ e:=by
   rw[e1,e2,←Nat.add_mul]
  rw[e3];by_cases hEe:E=e
  ·
   subst hEe;have hKB:K=9007199254740992:=by have:=hF.2;omega
   have h1:=hlow (by omega);rw[hKB] at h1;rcases h1 with h1|⟨h1,_⟩
   · exact Or.inl h1
   · exact Or.inr ⟨h1,by decide⟩
  ·
   left;have hc:4503599627370496≤c:=by
    rcases hT with h|h
    · omega
    · exact h
   refine ltle (sq_lt ?_) (hfl hc);have h2:2 ^ (e+1)≤2 ^ E:=Nat.pow_le_pow_right (by decide) (by omega);rw[Nat.pow_succ] at h2;have:=Nat.two_pow_pos e;generalize 2 ^ E=t at*;generalize 2 ^ e=s at*;omega
end Nea
end Go.Proofs.YtodfmpjhcmapmaaGreatDoor
