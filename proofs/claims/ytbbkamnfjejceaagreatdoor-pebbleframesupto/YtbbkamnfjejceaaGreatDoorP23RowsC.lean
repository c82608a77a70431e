/- package rows: a row that is made and filled. -/
import Derived.Test.YtbbkamnfjejceaaGreatDoorP22RigD
namespace Go.Proofs.YtbbkamnfjejceaaGreatDoor
open Go.RowKit
set_option linter.unusedVariables false
set_option linter.unusedSimpArgs false
theorem results_two_cell{P:Program}{fn:Func}{p u:Tmp}{ty:TypeId}(h:fn.results=#[.tmp u,.cell p ty])(tmps:Array Value)(w:World)(g:Nat)(t:TypeId)(cs:Array Value)(fr:Nat × Nat)(d:TypeDesc)
 (hp:tmps.getD p undef=.pointer (some ⟨g,0,none⟩)) (hg:w.heap[g]?=some (.cells cs t fr))
 (hu:P.underlying ty=some d) (hd:(match d with| .struct _| .array _ _=>true|_=>false)=true) (hi:(P.info? ty).map (·.size)=some cs.size):
 (results fn tmps).run P w=.ok (.tuple #[tmps.getD u undef,.agg cs]) w:=by
 have hp':tmps[p]?.getD undef=.pointer (some ⟨g,0,none⟩):=by simpa using hp
 simp[results,h,hp',asAddr,run_loadVar_row w g t ty cs fr d hg hu hd hi]
set_option maxRecDepth 100000 in
set_option maxHeartbeats 4000000 in
theorem Qn7(a1 a2 a3:Option Addr)(c1 c2 c3:Nat)(js:List S2)(bs:List B6)(hs:List H3)(w:World)(hg:Glob w)(hf:FrRow w a1 a2 a3 c1 c2 c3 js bs hs)(hz:FrSized js bs hs):
 Calls Tryz.prog 24 #[.agg #[.slice a1 js.length c1,.slice a2 bs.length c2,.slice a3 hs.length c3]] w fun e w'=>∃c at_ k,e=.returned (.tuple #[.int .i64 k,.agg #[.int .i64 c,.int .i64 at_]])∧FrameFault js bs hs c at_∧(c≠0→k=0)∧(c=0→k=(bs.length:Int)+(hs.length:Int) - 2*(js.length:Int))∧Below w.heap.size w w':=by
 have HG:=Hi hg;have HF:=Hi hf;have HZ:=Hi hz;clear hg hf hz;go_enter Tryz.func24,Tryz.ntmps24;obtain⟨W,hW⟩:∃W,(w.alloc (.cells #[.slice a1 js.length c1,.slice a2 bs.length c2,.slice a3 hs.length c3] 54)).alloc (.cells #[.int .i64 0,.int .i64 0] 57)=W:=⟨_,rfl⟩;have HB0:Hid (Below w.heap.size w W):=Hi (by rw[←hW];exact Below.new2 w _ _);have HS0:Hid (SB W w.heap.size 54 #[.slice a1 js.length c1,.slice a2 bs.length c2,.slice a3 hs.length c3]):=Hi (by rw[←hW];exact(SB.new w _ _).alloc _);have HS1:Hid (SB W (w.heap.size+1) 57 #[.int .i64 0,.int .i64 0]):=Hi (by rw[←hW];exact SB.new2 w _ _ _ _);have HW:=Hi hW;clear hW;go_wp2_with fail;rw[HW.out];go_fit (Qeg a1 a2 a3 c1 c2 c3 js bs hs W (HG.out.below HB0.out) (HF.out.below HB0.out) HZ.out);rintro e w1 ⟨c,at_,rfl,hff,hb1⟩;have HFF:=Hi hff;obtain⟨V,hV⟩:∃V,w1.alloc (.cells #[.int .i64 c,.int .i64 at_] 57)=V:=⟨_,rfl⟩
 have HBV:Hid (Below W.heap.size W V):=Hi (by rw[←hV];exact hb1.alloc hb1.size _);have hsv:SB V w1.heap.size 57 #[.int .i64 c,.int .i64 at_]:=by rw[←hV];exact SB.new w1 _ _
 have hs1:=HS1.out.below HBV.out HS1.out.lt;have hs0:=HS0.out.below HBV.out HS0.out.lt;have k0:V.cell? ⟨w1.heap.size,0,none⟩=some (.int .i64 c):=hsv.cell 0;have k1:V.cell? ⟨w1.heap.size,1,none⟩=some (.int .i64 at_):=hsv.cell 1;have x0:V.cell? ⟨w.heap.size,0,none⟩=some (.slice a1 js.length c1):=hs0.cell 0;have x1:V.cell? ⟨w.heap.size,1,none⟩=some (.slice a2 bs.length c2):=hs0.cell 1;have x2:V.cell? ⟨w.heap.size,2,none⟩=some (.slice a3 hs.length c3):=hs0.cell 2;have z0:V.cell? ⟨w.heap.size+1,0,none⟩=some (.int .i64 0):=hs1.cell 0;have z1:V.cell? ⟨w.heap.size+1,1,none⟩=some (.int .i64 0):=hs1.cell 1;have f0:=hs1.free 0;have f1:=hs1.free 1;rw[←hV] at k0 k1 x0 x1 x2 z0 z1 f0 f1;have HS4:=Hi hs1;have HV:=Hi hV;have hne:w.heap.size+1≠w1.heap.size:=by have:=HS1.out.lt;have:=hb1.size;omega
 clear hff hV hsv hs1 hs0 hb1;by_cases hc:c=0
 ·
  subst hc;have hnm:¬Many js.length bs.length hs.length:=by
   rcases HFF.out with ⟨_,h,_⟩|⟨h,_⟩|⟨h,_⟩
   · exact absurd h (by decide)
   · exact h
   · exact h
  have n1:js.length≤10:=Nat.le_of_not_lt fun h=>hnm (.inr (.inl h))
  have n2:bs.length≤24:=Nat.le_of_not_lt fun h=>hnm (.inr (.inr (.inl h)))
  have n3:hs.length≤20:=Nat.le_of_not_lt fun h=>hnm (.inr (.inr (.inr h)))
  clear hnm;go_wp2;rw[HV.out];have HA:Hid (at_=0):=Hi (by
   rcases HFF.out with ⟨_,h,_⟩|⟨_,k,b,_,_,_,h,_⟩|⟨_,_,h⟩
   · exact absurd h (by decide)
   · exact absurd rfl h
   ·
    rcases h with ⟨_,_,_,_,_,h,_⟩|⟨_,_,h⟩
    · exact absurd rfl h
    · exact h)
  refine bodyPost_ret (results_two_cell rfl _ _ (w.heap.size+1) 57 #[.int .i64 0,.int .i64 0] (0,0) _ rfl ((HS4.out.set 0 _).set 1 _) Tryz.underlying57 rfl Tryz.faultInfo) rfl ?_;exact⟨0,0,_,rfl,HA.out ▸ HFF.out,fun h=>absurd rfl h,fun _=>rfl,((HB0.out.trans (HBV.out.mono HB0.out.size)).setCell (Nat.le_succ _) _).setCell (Nat.le_succ _) _⟩
 ·
  have e0:(c != 0)=true:=by simpa using hc
  go_wp2;go_region
  all_goals
   go_wp2;rw[HV.out];refine bodyPost_ret (results_two_cell rfl _ _ (w.heap.size+1) 57 #[.int .i64 c,.int .i64 at_] (0,0) _ rfl ((HS4.out.set 0 _).set 1 _) Tryz.underlying57 rfl Tryz.faultInfo) rfl ?_;exact⟨c,at_,0,rfl,HFF.out,fun _=>rfl,fun h=>absurd h hc,(((HB0.out.trans (HBV.out.mono HB0.out.size)).setCell (p:=⟨w.heap.size+1,0,none⟩) (Nat.le_succ _) _).setCell (p:=⟨w.heap.size+1,1,none⟩) (Nat.le_succ _) _).drew⟩
theorem SB.arow{α:Type}{c:α→List Value}{w:World}{g cap:Nat}{t:TypeId}{C:Array Value}{es:List α}(h:SB w g t C)(hc:C.toList=es.flatMap c)(hl:es.length≤cap):ARow c w (some ⟨g,0,none⟩) cap es:=by
 refine⟨hl,⟨fun j u hj=>⟨g,0,rfl,h.lt,?_⟩⟩⟩;rw[Nat.zero_add,h.cell j,←Array.getElem?_toList,hc];exact hj
abbrev tx0:ByteArray:=⟨#[48]⟩
abbrev tx1:ByteArray:=⟨#[49]⟩
def cornerJ:List S2:=[⟨tx0,tx0⟩,⟨tx1,tx0⟩,⟨tx0,tx1⟩]
def cornerBar(a b:Int):B6:=⟨a,b,tx1,⟨#[]⟩,⟨#[45,49]⟩,⟨#[50]⟩⟩
def cornerB:List B6:=[cornerBar 0 1,cornerBar 1 2,cornerBar 2 0]
def cornerH:List H3:=[⟨0,1,⟨#[]⟩⟩,⟨0,2,⟨#[]⟩⟩,⟨1,2,⟨#[]⟩⟩]
theorem Tryz.barInfo:(Tryz.prog.info? 68).map (·.size)=some 6:=by kernel_rfl
theorem Qdd(a b:Int)(w:World):Calls Tryz.prog 120 #[.int .i64 a,.int .i64 b] w fun e w'=>e=.returned (.agg #[.int .i64 a,.int .i64 b,.string ⟨#[49]⟩,.string ⟨#[]⟩,.string ⟨#[45,49]⟩,.string ⟨#[50]⟩])∧Below w.heap.size w w':=by
 go_enter Tryz.func120,Tryz.ntmps120;go_wp2;refine bodyPost_ret (results_cell_row rfl _ _ w.heap.size 68 #[.int .i64 a,.int .i64 b,.string ⟨#[49]⟩,.string ⟨#[]⟩,.string ⟨#[45,49]⟩,.string ⟨#[50]⟩] (0,0) _ rfl (SB.new w _ _) Tryz.underlying68 rfl Tryz.barInfo) rfl ?_;exact⟨rfl,(Below.refl _ _).alloc (Nat.le_refl _) _⟩
set_option maxRecDepth 100000 in
set_option maxHeartbeats 4000000 in
theorem Qde(w:World):Calls Tryz.prog 59 #[] w fun e w'=>∃g1 g2 g3,e=.returned (.agg #[.slice (some ⟨g1,0,none⟩) 3 3,.slice (some ⟨g2,0,none⟩) 3 3,.slice (some ⟨g3,0,none⟩) 3 3])∧FrRow w' (some ⟨g1,0,none⟩) (some ⟨g2,0,none⟩) (some ⟨g3,0,none⟩) 3 3 3 cornerJ cornerB cornerH∧Below w.heap.size w w':=by
 go_enter Tryz.func59,Tryz.ntmps59;go_wp2_with fail;obtain⟨W,hW⟩:∃W,w.alloc (.cells #[.slice none 0 0,.slice none 0 0,.slice none 0 0] 54)=W:=⟨_,rfl⟩;have HP:Hid (PBag w W [fun v=>SB v w.heap.size 54 #[.slice none 0 0,.slice none 0 0,.slice none 0 0]]):=Hi (by rw[←hW];exact((PBag.start w).below ((Below.refl _ _).alloc (Nat.le_refl _) _)).put (P:=fun v=>SB v w.heap.size 54 #[.slice none 0 0,.slice none 0 0,.slice none 0 0]) (SB.new w _ _) (SB.stay _ _ _));rw[hW];clear hW;go_fit (Qcz ⟨#[48]⟩ ⟨#[48]⟩ W);rintro e w1 ⟨rfl,hb⟩;have HQ:=Hi (HP.out.below hb);clear HP hb;have HP:=HQ;clear HQ;go_wp2_with fail;go_fit (Qcz ⟨#[49]⟩ ⟨#[48]⟩ w1);rintro e w2 ⟨rfl,hb⟩;have HQ:=Hi (HP.out.below hb);clear HP hb;have HP:=HQ;clear HQ;go_wp2_with fail;go_fit (Qcz ⟨#[48]⟩ ⟨#[49]⟩ w2);rintro e w3 ⟨rfl,hb⟩;have HQ:=Hi (HP.out.below hb);clear HP hb;have HP:=HQ;clear HQ;obtain⟨g1,hg1⟩:∃g1,w3.heap.size=g1:=⟨_,rfl⟩
 obtain⟨v3,hv3⟩:∃v3,w3.alloc (.cells #[.string ⟨#[48]⟩,.string ⟨#[48]⟩,.string ⟨#[49]⟩,.string ⟨#[48]⟩,.string ⟨#[48]⟩,.string ⟨#[49]⟩] 25)=v3:=⟨_,rfl⟩;have HQ:=Hi ((HP.out.below (w':=v3) (by rw[←hv3];exact(Below.refl _ _).alloc (Nat.le_refl _) _)).put (P:=fun v=>SB v g1 25 #[.string ⟨#[48]⟩,.string ⟨#[48]⟩,.string ⟨#[49]⟩,.string ⟨#[48]⟩,.string ⟨#[48]⟩,.string ⟨#[49]⟩]) (by rw[←hv3,←hg1];exact SB.new w3 _ _) (SB.stay _ _ _));have ne1:w.heap.size≠g1:=by have:=HP.out.base.size;have:=(HP.out.get (fun v=>SB v w.heap.size 54 #[.slice none 0 0,.slice none 0 0,.slice none 0 0]) (List.Mem.head _)).lt;omega
 clear HP;have HP:=HQ;have HV3:=Hi hv3;have HG1:=Hi hg1;clear HQ hv3 hg1;go_wp2_with fail;rw[HV3.out,HG1.out];go_fit (Qdd 0 1 v3);rintro e w4 ⟨rfl,hb⟩;have HQ:=Hi (HP.out.below hb);clear HP hb;have HP:=HQ;clear HQ;go_wp2_with fail;go_fit (Qdd 1 2 w4);rintro e w5 ⟨rfl,hb⟩;have HQ:=Hi (HP.out.below hb);clear HP hb;have HP:=HQ;clear HQ;go_wp2_with fail;go_fit (Qdd 2 0 w5);rintro e w6 ⟨rfl,hb⟩;have HQ:=Hi (HP.out.below hb);clear HP hb;have HP:=HQ;clear HQ;obtain⟨g2,hg2⟩:∃g2,w6.heap.size=g2:=⟨_,rfl⟩
 obtain⟨v7,hv7⟩:∃v7,(w6.alloc (.cells #[.int .i64 0,.int .i64 1,.string ⟨#[49]⟩,.string ⟨#[]⟩,.string ⟨#[45,49]⟩,.string ⟨#[50]⟩,.int .i64 1,.int .i64 2,.string ⟨#[49]⟩,.string ⟨#[]⟩,.string ⟨#[45,49]⟩,.string ⟨#[50]⟩,.int .i64 2,.int .i64 0,.string ⟨#[49]⟩,.string ⟨#[]⟩,.string ⟨#[45,49]⟩,.string ⟨#[50]⟩] 68)).alloc (.cells #[.int .i64 0,.int .i64 1,.string ⟨#[]⟩,.int .i64 0,.int .i64 2,.string ⟨#[]⟩,.int .i64 1,.int .i64 2,.string ⟨#[]⟩] 122)=v7:=⟨_,rfl⟩
 have HQ:=Hi (((HP.out.below (w':=v7) (by rw[←hv7];exact Below.new2 w6 _ _)).put (P:=fun v=>SB v g2 68 #[.int .i64 0,.int .i64 1,.string ⟨#[49]⟩,.string ⟨#[]⟩,.string ⟨#[45,49]⟩,.string ⟨#[50]⟩,.int .i64 1,.int .i64 2,.string ⟨#[49]⟩,.string ⟨#[]⟩,.string ⟨#[45,49]⟩,.string ⟨#[50]⟩,.int .i64 2,.int .i64 0,.string ⟨#[49]⟩,.string ⟨#[]⟩,.string ⟨#[45,49]⟩,.string ⟨#[50]⟩]) (by rw[←hv7,←hg2];exact(SB.new w6 _ _).alloc _) (SB.stay _ _ _)).put (P:=fun v=>SB v (g2+1) 122 #[.int .i64 0,.int .i64 1,.string ⟨#[]⟩,.int .i64 0,.int .i64 2,.string ⟨#[]⟩,.int .i64 1,.int .i64 2,.string ⟨#[]⟩]) (by rw[←hv7,←hg2];exact SB.new2 w6 _ _ _ _) (SB.stay _ _ _));have hres:=HP.out.get (fun v=>SB v w.heap.size 54 #[.slice none 0 0,.slice none 0 0,.slice none 0 0]) (by
  (focus(repeat(first|exact List.Mem.head _|apply List.Mem.tail)))
  skip)
 have ne2:w.heap.size≠g2:=by have:=hres.lt;omega
 have ne3:w.heap.size≠g2+1:=by have:=hres.lt;omega
 clear HP hres;have HP:=HQ;have hres:=HP.out.get (fun v=>SB v w.heap.size 54 #[.slice none 0 0,.slice none 0 0,.slice none 0 0]) (by
  (focus(repeat(first|exact List.Mem.head _|apply List.Mem.tail)))
  skip)
 have z0:v7.cell? ⟨w.heap.size,0,none⟩=some (.slice none 0 0):=hres.cell 0;have z1:v7.cell? ⟨w.heap.size,1,none⟩=some (.slice none 0 0):=hres.cell 1;have z2:v7.cell? ⟨w.heap.size,2,none⟩=some (.slice none 0 0):=hres.cell 2;have f0:=hres.free 0;have f1:=hres.free 1;have f2:=hres.free 2;rw[←hv7] at z0 z1 z2 f0 f1 f2;have HRES:=Hi hres;have HV7:=Hi hv7;have HG2:=Hi hg2;clear HQ hv7 hg2 hres;go_wp2;rw[HV7.out,HG2.out];have s1:=HP.out.get (fun v=>SB v g1 25 #[.string ⟨#[48]⟩,.string ⟨#[48]⟩,.string ⟨#[49]⟩,.string ⟨#[48]⟩,.string ⟨#[48]⟩,.string ⟨#[49]⟩]) (by
  (focus(repeat(first|exact List.Mem.head _|apply List.Mem.tail)))
  skip)
 have s2:=HP.out.get (fun v=>SB v g2 68 #[.int .i64 0,.int .i64 1,.string ⟨#[49]⟩,.string ⟨#[]⟩,.string ⟨#[45,49]⟩,.string ⟨#[50]⟩,.int .i64 1,.int .i64 2,.string ⟨#[49]⟩,.string ⟨#[]⟩,.string ⟨#[45,49]⟩,.string ⟨#[50]⟩,.int .i64 2,.int .i64 0,.string ⟨#[49]⟩,.string ⟨#[]⟩,.string ⟨#[45,49]⟩,.string ⟨#[50]⟩]) (by
  (focus(repeat(first|exact List.Mem.head _|apply List.Mem.tail)))
  skip)
 have s3:=HP.out.get (fun v=>SB v (g2+1) 122 #[.int .i64 0,.int .i64 1,.string ⟨#[]⟩,.int .i64 0,.int .i64 2,.string ⟨#[]⟩,.int .i64 1,.int .i64 2,.string ⟨#[]⟩]) (by
  (focus(repeat(first|exact List.Mem.head _|apply List.Mem.tail)))
  skip)
 have r1:ARow S2.cells v7 (some ⟨g1,0,none⟩) 3 cornerJ:=s1.arow rfl (by decide);have r2:ARow B6.cells v7 (some ⟨g2,0,none⟩) 3 cornerB:=s2.arow rfl (by decide);have r3:ARow H3.cells v7 (some ⟨g2+1,0,none⟩) 3 cornerH:=s3.arow rfl (by decide);refine bodyPost_ret (results_cell_row rfl _ _ w.heap.size 54 #[.slice (some ⟨g1,0,none⟩) 3 3,.slice (some ⟨g2,0,none⟩) 3 3,.slice (some ⟨g2+1,0,none⟩) 3 3] (0,0) _ rfl (((HRES.out.set 0 _).set 1 _).set 2 _) Tryz.underlying54 rfl Tryz.frameInfo) rfl ?_;exact⟨g1,g2,g2+1,rfl,⟨((r1.far ne1).far ne1).far ne1,((r2.far ne2).far ne2).far ne2,((r3.far ne3).far ne3).far ne3⟩,((HP.out.base.setCell (Nat.le_refl _) _).setCell (Nat.le_refl _) _).setCell (Nat.le_refl _) _⟩
theorem Qem(a1 a2 a3:Option Addr)(c1 c2 c3 n m k:Nat)(w:World)(hm:m≤24)(hk:k≤20):
 Calls Tryz.prog 76 #[.agg #[.slice a1 n c1,.slice a2 m c2,.slice a3 k c3]] w fun e w'=>e=.returned (.int .i64 ((m:Int)+(k:Int)))∧Below w.heap.size w w':=by
 go_enter Tryz.func76,Tryz.ntmps76;go_wp2;go_ret;exact⟨rfl,(Below.refl _ _).alloc (Nat.le_refl _) _⟩
theorem Qen(a1 a2 a3:Option Addr)(c1 c2 c3 n m k:Nat)(w:World)(hn:n≤10):
 Calls Tryz.prog 77 #[.agg #[.slice a1 n c1,.slice a2 m c2,.slice a3 k c3]] w fun e w'=>e=.returned (.int .i64 (2*(n:Int)))∧Below w.heap.size w w':=by
 go_enter Tryz.func77,Tryz.ntmps77;go_wp2;go_ret;exact⟨rfl,(Below.refl _ _).alloc (Nat.le_refl _) _⟩
theorem Qc0(j:Nat)(w:World)(hj:j≤10):Calls Tryz.prog 136 #[.int .i64 j] w fun e w'=>e=.returned (.int .i64 (2*(j:Int)))∧w'=w:=by
 go_enter Tryz.func136,Tryz.ntmps136;go_wp2;go_ret;exact⟨rfl,rfl⟩
theorem Qc1(j:Nat)(w:World)(hj:j≤10):Calls Tryz.prog 137 #[.int .i64 j] w fun e w'=>e=.returned (.int .i64 (2*(j:Int)+1))∧w'=w:=by
 go_enter Tryz.func137,Tryz.ntmps137;go_wp2;go_ret;exact⟨rfl,rfl⟩
set_option maxRecDepth 100000 in
theorem Qpu(j:Nat)(wy:Int)(q:ByteArray)(w:World)(hj:j≤10):Calls Tryz.prog 138 #[.agg #[.int .i64 j,.int .i64 wy,.string q]] w fun e w'=>e=.returned (.int .i64 (if wy=1 then 2*(j:Int) else 2*(j:Int)+1))∧Below w.heap.size w w':=by
 have HB:=Hi ((Below.refl w.heap.size w).alloc (Nat.le_refl _) (.cells #[.int .i64 j,.int .i64 wy,.string q] 122));by_cases h:wy=1
 ·
  subst h;rw[if_pos rfl];go_enter Tryz.func138,Tryz.ntmps138;go_wp2_with fail;go_fit (Qc0 j _ hj);rintro e w1 ⟨rfl,rfl⟩;go_wp2;go_ret;exact⟨rfl,HB.out⟩
 ·
  rw[if_neg h];have e0:(wy == 1)=false:=by rw[beq_eq_false_iff_ne];exact h
  clear h;go_enter Tryz.func138,Tryz.ntmps138;go_wp2_with fail;go_fit (Qc1 j _ hj);rintro e w1 ⟨rfl,rfl⟩;go_wp2;go_ret;exact⟨rfl,HB.out⟩
def FE.cells(t:FE):List Value:=[t.x,t.y,t.z]
structure QRow (w:World) (a:Option Addr) (cap:Nat) (ts:List FE):Prop where
 row:ARow FE.cells w a cap ts
 ts:∀t,t∈ ts→FracV w (.agg #[t.x,t.y,t.z]) t.q∧Fits t.q t.k∧0<t.k
theorem QRow.below{w w':World}{a:Option Addr}{cap:Nat}{ts:List FE}(h:QRow w a cap ts)(hb:Below w.heap.size w w'):QRow w' a cap ts:=
 ⟨h.row.below hb,fun t ht=>⟨(h.ts t ht).1.below hb,(h.ts t ht).2⟩⟩
theorem QRow.at{w:World}{a:Option Addr}{cap:Nat}{ts:List FE}(h:QRow w a cap ts){i:Nat}{e:FE}(hi:ts[i]?=some e):
 ∃b off,a=some ⟨b,off,none⟩∧b<w.heap.size∧w.cell? ⟨b,off+i*3,none⟩=some e.x∧w.cell? ⟨b,off+i*3+1,none⟩=some e.y∧w.cell? ⟨b,off+i*3+2,none⟩=some e.z:=by
 obtain⟨b,off,h1,h2,h3⟩:=h.row.at (sz:=3) (fun _=>rfl) (by decide) hi;exact⟨b,off,h1,h2,h3 0 _ rfl,h3 1 _ rfl,h3 2 _ rfl⟩
theorem QRow.get{w:World}{a:Option Addr}{cap:Nat}{ts:List FE}(h:QRow w a cap ts){i:Nat}{e:FE}(hi:ts[i]?=some e):FracV w (.agg #[e.x,e.y,e.z]) e.q∧Fits e.q e.k∧0<e.k:=h.ts e (List.mem_of_getElem? hi)
def filledOf(ts:List FE):Nat:=ts.countP fun t=>!decide (t.q=0)
theorem Qor{ts:List FE}{k:Nat}{e:FE}(h:ts[k]?=some e):filledOf (ts.take (k+1))=filledOf (ts.take k)+if e.q=0 then 0 else 1:=by
 unfold filledOf;rw[List.take_add_one,h,List.countP_append];by_cases h0:e.q=0<;>simp[h0]
theorem Qh2(ts:List FE):filledOf ts≤ts.length:=List.countP_le_length
set_option maxRecDepth 100000 in
set_option maxHeartbeats 4000000 in
theorem Qos(a:Option Addr)(cap:Nat)(ts:List FE)(w:World)(h:QRow w a cap ts)(hl:ts.length≤1000):
 Calls Tryz.prog 216 #[.slice a ts.length cap] w fun e w'=>e=.returned (.int .i64 (filledOf ts:Nat))∧Below w.heap.size w w':=by
 have HH:=Hi h;clear h;go_enter Tryz.func216,Tryz.ntmps216;go_wp2_with fail;go_loopw [3,8] (fun n i wr=>∃k:Nat,k≤ts.length∧i=.int .i64 k∧n=.int .i64 (filledOf (ts.take k):Nat)∧Below w.heap.size w wr) (fun _ i _=>ts.length - (intOf i).toNat)
 case atStart=>exact⟨0,by omega,rfl,rfl,Below.refl _ _⟩
 case round=>
  obtain⟨k,hk,rfl,rfl,hb⟩:=hrel;have HB:=Hi hb;clear hb;by_cases hlt:k<ts.length
  ·
   obtain⟨f,hf⟩:∃f,ts[k]?=some f:=⟨ts[k],List.getElem?_eq_getElem hlt⟩;obtain⟨fb,off,rfl,hfb,d0,d1,d2⟩:=(HH.out.below HB.out).at hf;obtain⟨hv,_,_⟩:=(HH.out.below HB.out).get hf;have HFK:=Hi (Qor hf);have hn:filledOf (ts.take k)≤1000:=by
    have h1:=Qh2 (ts.take k);have h2:=List.length_take_le k ts;omega
   obtain⟨o1,o2,o3⟩:=hv.one;obtain⟨m,hm⟩:∃m,filledOf (ts.take k)=m:=⟨_,rfl⟩;rw[hm] at hn HFK ⊢;have HV:=Hi hv;have q1:((k:Int)<(ts.length:Int)):=by omega
   obtain⟨V,hV⟩:∃V,wr.alloc (.cells #[f.x,f.y,f.z] 77)=V:=⟨_,rfl⟩;have HBV:Hid (Below wr.heap.size wr V):=Hi (by rw[←hV];exact(Below.refl _ _).alloc (Nat.le_refl _) _);have HW:=Hi hV;have s0:=Qao Tryz.prog o1;have s1:=Qao Tryz.prog o2;have s2:=Qao Tryz.prog o3;clear hf hv hm hV o1 o2 o3;go_wp2_with fail;rw[HW.out];go_fit (Qbf (HV.out.below HBV.out));rintro e w4 ⟨rfl,hb4⟩;have HB4:=Hi (HB.out.trans ((HBV.out.trans (hb4.mono HBV.out.size)).mono HB.out.size));clear hb4 d0 d1 d2 s0 s1 s2;by_cases h0:f.q=0
   ·
    rw[decide_eq_true h0];rw[if_pos h0] at HFK;clear h0;go_wp2;go_roundw
    case rel=>exact⟨k+1,by omega,by go_num,by rw[HFK.out];rfl,HB4.out⟩
    case measure=>simp[intOf];omega
   ·
    rw[decide_eq_false h0];rw[if_neg h0] at HFK;clear h0;go_wp2;go_roundw
    case rel=>exact⟨k+1,by omega,by go_num,by rw[HFK.out];go_num,HB4.out⟩
    case measure=>simp[intOf];omega
  ·
   have hk':k=ts.length:=by omega
   subst hk';have HT:Hid (filledOf (ts.take ts.length)=filledOf ts):=Hi (by rw[List.take_length]);rw[HT.out];go_wp2;go_ret;exact⟨rfl,HB.out⟩
structure MR where
 a:Option Addr
 cap:Nat
 ts:List FE
def MR.cells(r:MR):List Value:=[.slice r.a r.ts.length r.cap]
def MR.q(r:MR)(c:Nat):Rat:=(r.ts.map (·.q)).getD c 0
theorem MR.q_at{r:MR}{c:Nat}{e:FE}(h:r.ts[c]?=some e):r.q c=e.q:=by
 unfold MR.q;simp[List.getD,h]
structure QMat (w:World) (a:Option Addr) (cap wide:Nat) (rs:List MR):Prop where
 row:ARow MR.cells w a cap rs
 rs:∀r,r∈ rs→QRow w r.a r.cap r.ts∧r.ts.length=wide
theorem QMat.below{w w':World}{a:Option Addr}{cap wide:Nat}{rs:List MR}(h:QMat w a cap wide rs)(hb:Below w.heap.size w w'):QMat w' a cap wide rs:=
 ⟨h.row.below hb,fun t ht=>⟨(h.rs t ht).1.below hb,(h.rs t ht).2⟩⟩
theorem QMat.at{w:World}{a:Option Addr}{cap wide:Nat}{rs:List MR}(h:QMat w a cap wide rs){i:Nat}{r:MR}(hi:rs[i]?=some r):
 ∃b off,a=some ⟨b,off,none⟩∧b<w.heap.size∧w.cell? ⟨b,off+i,none⟩=some (.slice r.a r.ts.length r.cap):=by
 obtain⟨b,off,h1,h2,h3⟩:=h.row.at (sz:=1) (fun _=>rfl) (by decide) hi;refine⟨b,off,h1,h2,?_⟩;have:=h3 0 _ rfl;rw[Nat.mul_one] at this;exact this
theorem QMat.get{w:World}{a:Option Addr}{cap wide:Nat}{rs:List MR}(h:QMat w a cap wide rs){i:Nat}{r:MR}(hi:rs[i]?=some r):QRow w r.a r.cap r.ts∧r.ts.length=wide:=h.rs r (List.mem_of_getElem? hi)
def Picks(rs:List MR)(c:Nat)(v:Int):Prop:=
 (v= -1∧∀r∈ rs,r.q c=0)∨∃j r,rs[j]?=some r∧v=(j:Nat)∧r.q c≠0
theorem Picks.skip{rs:List MR}{c k:Nat}{v:Int}{r:MR}(h:Picks (rs.take k) c v)(hr:rs[k]?=some r)(h0:r.q c=0):Picks (rs.take (k+1)) c v:=by
 rw[List.take_add_one,hr];rcases h with ⟨h1,h2⟩|⟨j,s,h1,h2,h3⟩
 ·
  refine .inl ⟨h1,fun x hx=>?_⟩;rcases List.mem_append.1 hx with hx|hx
  · exact h2 x hx
  · obtain rfl:x=r:=by simpa using hx
    exact h0
 · exact .inr ⟨j,s,by rw[List.getElem?_append_left (List.getElem?_eq_some_iff.1 h1).1];exact h1,h2,h3⟩
theorem Picks.keep{rs:List MR}{c k j:Nat}{r:MR}(h:Picks (rs.take k) c (j:Nat))(hr:rs[k]?=some r):Picks (rs.take (k+1)) c (j:Nat):=by
 rw[List.take_add_one,hr];rcases h with ⟨h1,h2⟩|⟨i,s,h1,h2,h3⟩
 · omega
 · exact .inr ⟨i,s,by rw[List.getElem?_append_left (List.getElem?_eq_some_iff.1 h1).1];exact h1,h2,h3⟩
theorem Picks.this{rs:List MR}{c k:Nat}{r:MR}(hr:rs[k]?=some r)(h0:r.q c≠0):Picks (rs.take (k+1)) c (k:Nat):=
 .inr ⟨k,r,by rw[List.getElem?_take_of_lt (Nat.lt_succ_self k)];exact hr,rfl,h0⟩
set_option maxRecDepth 100000 in
set_option maxHeartbeats 4000000 in
theorem Qot(a:Option Addr)(cap wide c:Nat)(rs:List MR)(w:World)(h:QMat w a cap wide rs)(hl:rs.length≤1000)(hw:wide≤1000)(hc:c<wide):
 Calls Tryz.prog 178 #[.slice a rs.length cap,.int .i64 c] w fun e w'=>(∃v,e=.returned (.int .i64 v)∧Picks rs c v)∧Below w.heap.size w w':=by
 have HH:=Hi h;clear h;go_enter Tryz.func178,Tryz.ntmps178;go_wp2_with fail;go_loopw [5,6,12] (fun u f i wr=>∃(k m:Nat) (v:Int),k≤rs.length∧i=.int .i64 k∧u=.int .i64 v∧f=.int .i64 m∧m≤1000∧Picks (rs.take k) c v∧Below w.heap.size w wr) (fun _ _ i _=>rs.length - (intOf i).toNat)
 case atStart=>exact⟨0,0,-1,by omega,rfl,rfl,rfl,by omega,.inl ⟨rfl,fun r hr=>by simp at hr⟩,Below.refl _ _⟩
 case round=>
  obtain⟨k,m,v,hk,rfl,rfl,rfl,hm,hp,hb⟩:=hrel;have HB:=Hi hb;have HP:=Hi hp;clear hb hp;by_cases hlt:k<rs.length
  ·
   obtain⟨r,hr⟩:∃r,rs[k]?=some r:=⟨rs[k],List.getElem?_eq_getElem hlt⟩;obtain⟨fb,off,rfl,hfb,d⟩:=(HH.out.below HB.out).at hr;obtain⟨hq,hrw⟩:=(HH.out.below HB.out).get hr;obtain⟨e,he⟩:∃e,r.ts[c]?=some e:=⟨r.ts[c],List.getElem?_eq_getElem (by omega)⟩;obtain⟨rb,ro,hra,hrb,d0,d1,d2⟩:=hq.at he;obtain⟨hv,_,_⟩:=hq.get he;have HQ:=Hi hq;have HR:=Hi hr;have HE:=Hi (MR.q_at he);have HV:=Hi hv;have q1:((k:Int)<(rs.length:Int)):=by omega
   have q2:((c:Int)<(r.ts.length:Int)):=by omega
   rw[hra] at d;have HRA:=Hi hra;clear hr hq he hv hra;go_wp2_with fail;go_fit (Qbf HV.out);rintro e' w4 ⟨rfl,hb4⟩;have HB4:=Hi (HB.out.trans (hb4.mono HB.out.size));have HQ4:=Hi (HQ.out.below hb4);clear hb4 d0 d1 d2 d;by_cases h0:e.q=0
   ·
    rw[decide_eq_true h0];have HZ:Hid (r.q c=0):=Hi (HE.out.trans h0);clear h0;go_wp2;go_roundw
    case measure=>simp[intOf];omega
    case rel=>exact⟨k+1,m,v,by omega,by go_num,rfl,rfl,hm,HP.out.skip HR.out HZ.out,HB4.out⟩
   ·
    rw[decide_eq_false h0];have HZ:Hid (r.q c≠0):=Hi (fun hc=>h0 (HE.out.symm.trans hc));have hf:=Qh2 r.ts;clear h0;go_wp2_with fail;have HF:=Hi (Qos r.a r.cap r.ts w4 HQ4.out (by omega));rw[HRA.out,hrw] at HF;obtain⟨g,hg⟩:∃g,filledOf r.ts=g:=⟨_,rfl⟩;rw[hg] at HF hf;clear hg;go_fit HF.out;rintro e' w5 ⟨rfl,hb5⟩;have HB5:=Hi (HB4.out.trans (hb5.mono HB4.out.size));clear hb5;have hg:g≤1000:=by omega
    by_cases hv:v<0
    ·
     clear HP;go_wp2;go_roundw
     case measure=>simp[intOf];omega
     case rel=>exact⟨k+1,g,k,by omega,by go_num,rfl,rfl,hg,Picks.this HR.out HZ.out,HB5.out⟩
    ·
     obtain⟨j,rfl⟩:∃j:Nat,v=j:=⟨v.toNat,by omega⟩;clear hv;by_cases hgm:(g:Int)<(m:Int)
     ·
      go_wp2;go_roundw
      case measure=>simp[intOf];omega
      case rel=>exact⟨k+1,g,k,by omega,by go_num,rfl,rfl,hg,Picks.this HR.out HZ.out,HB5.out⟩
     ·
      go_wp2;go_roundw
      case measure=>simp[intOf];omega
      case rel=>exact⟨k+1,m,j,by omega,by go_num,rfl,rfl,hm,HP.out.keep HR.out,HB5.out⟩
  ·
   have hk':k=rs.length:=by omega
   subst hk';have HP':Hid (Picks rs c v):=Hi (by have:=HP.out;rw[List.take_length] at this;exact this);go_wp2;go_ret;exact⟨⟨v,rfl,HP'.out⟩,HB.out⟩
def FE.zero:FE:=⟨.bool false,.slice none 0 0,.slice none 0 0,0,1⟩
structure QBlk (w:World) (g:Nat) (ts:List FE):Prop where
 blk:SB w g 77 (ts.flatMap FE.cells).toArray
 ts:∀t,t∈ ts→FracV w (.agg #[t.x,t.y,t.z]) t.q∧Fits t.q t.k∧0<t.k
theorem QBlk.row{w:World}{g:Nat}{ts:List FE}(h:QBlk w g ts):QRow w (some ⟨g,0,none⟩) ts.length ts:=⟨h.blk.arow rfl (Nat.le_refl _),h.ts⟩
theorem QBlk.below{w w':World}{g:Nat}{ts:List FE}(h:QBlk w g ts)(hb:Below w.heap.size w w'):QBlk w' g ts:=⟨h.blk.below hb h.blk.lt,fun t ht=>⟨(h.ts t ht).1.below hb,(h.ts t ht).2⟩⟩
theorem QBlk.no64{w:World}{g:Nat}{ts:List FE}(h:QBlk w g ts):NoU64 (ts.flatMap FE.cells).toArray:=by
 refine Qfl fun v hv n=>?_
 obtain⟨t,ht,hv⟩:=List.mem_flatMap.1 hv;obtain⟨h1,h2,h3⟩:=(h.ts t ht).1.no64 n;simp[FE.cells] at hv;rcases hv with rfl|rfl|rfl
 · exact h1
 · exact h2
 · exact h3
theorem Qh3:∀(ts:List FE) (k:Nat) (e:FE),k<ts.length→(ts.set k e).flatMap FE.cells=(((ts.flatMap FE.cells).set (k*3) e.x).set (k*3+1) e.y).set (k*3+2) e.z
 | [],k,e,h=>by simp at h
 |t :: l,0,e,_=>by simp[FE.cells]
 |t :: l,k+1,e,h=>by
  have ih:=Qh3 l k e (by simpa using h);rw[List.set_cons_succ,List.flatMap_cons,ih,List.flatMap_cons];simp only[FE.cells,List.cons_append,List.nil_append];rw[show (k+1)*3=k*3+1+1+1 by omega];simp only[List.set_cons_succ,Nat.add_assoc]
theorem QBlk.set{w:World}{g:Nat}{ts:List FE}(h:QBlk w g ts){k:Nat}{e:FE}(hk:k<ts.length)(he:FracV w (.agg #[e.x,e.y,e.z]) e.q∧Fits e.q e.k∧0<e.k):
 QBlk (((w.setCell ⟨g,k*3,none⟩ e.x).setCell ⟨g,k*3+1,none⟩ e.y).setCell ⟨g,k*3+2,none⟩ e.z) g (ts.set k e):=by
 have ho:Only g w (((w.setCell ⟨g,k*3,none⟩ e.x).setCell ⟨g,k*3+1,none⟩ e.y).setCell ⟨g,k*3+2,none⟩ e.z):=(((Only.refl g w).setCell _ _).setCell _ _).setCell _ _;refine⟨?_,fun t ht=>?_⟩
 ·
  have:=((h.blk.set (k*3) e.x).set (k*3+1) e.y).set (k*3+2) e.z;rw[Qh3 ts k e hk]
  simpa using this
 ·
  rcases List.mem_or_eq_of_mem_set ht with ht|rfl
  · exact⟨(h.ts t ht).1.only ho h.blk h.no64,(h.ts t ht).2⟩
  · exact⟨he.1.only ho h.blk h.no64,he.2⟩
theorem QBlk.new(w:World)(n:Nat)(C:Array Value)(hC:C=((List.replicate n FE.zero).flatMap FE.cells).toArray):QBlk (w.alloc (.cells C 77)) w.heap.size (List.replicate n FE.zero):=by
 subst hC;refine⟨SB.new _ _ _,fun t ht=>?_⟩;obtain⟨_,rfl⟩:=List.mem_replicate.1 ht;exact⟨FracV.zero _,Fits.zero,by decide⟩
theorem Qou(n:Nat):madeCells (Value.cells (.agg #[.bool false,.slice none 0 0,.slice none 0 0])) (n*3)=((List.replicate n FE.zero).flatMap FE.cells).toArray:=by
 apply Array.ext';apply List.ext_getElem?;intro i;by_cases hi:i<n*3
 ·
  have h1:(List.replicate n FE.zero)[i / 3]?=some FE.zero:=by rw[List.getElem?_replicate,if_pos (by omega)]
  have h3:i % 3=0∨i % 3=1∨i % 3=2:=by omega
  have e0:Value.cells (.agg #[.bool false,.slice none 0 0,.slice none 0 0])=#[.bool false,.slice none 0 0,.slice none 0 0]:=by rfl
  have h4:i / 3*3+i % 3=i:=by omega
  have hm:(madeCells (Value.cells (.agg #[.bool false,.slice none 0 0,.slice none 0 0])) (n*3)).toList[i]?=some ((#[Value.bool false,.slice none 0 0,.slice none 0 0]:Array Value)[i % 3]!):=by
   rw[e0];simp[madeCells,hi]
  rw[hm];have hf:∀u,(FE.cells FE.zero)[i % 3]?=some u→((List.replicate n FE.zero).flatMap FE.cells)[i]?=some u:=fun u hu=>by
   have:=Qbp (sz:=3) (fun _=>rfl) _ _ _ _ _ h1 hu;rw[h4] at this;exact this
  simp only[List.toList_toArray];rcases h3 with h3|h3|h3
  all_goals
   rw[h3] at hf ⊢;exact(hf _ rfl).symm
 ·
  have h1:((List.replicate n FE.zero).flatMap FE.cells).length=n*3:=by rw[Qbo (sz:=3) (fun _=>rfl)];simp
  have h2:=size_madeCells (Value.cells (.agg #[.bool false,.slice none 0 0,.slice none 0 0])) (n*3);rw[List.getElem?_eq_none (by rw[Array.length_toList,h2];omega),List.getElem?_eq_none (by simp only[List.toList_toArray];rw[h1];omega)]
theorem Qcw:(Tryz.prog.info? 77).map (fun i=>(i.zero,i.size,i.bytes))=some (some (.agg #[.bool false,.slice none 0 0,.slice none 0 0]),3,56):=by kernel_rfl
theorem Qb2(n:Nat)(hn:n≤1048576)(w:World):(Instr.makeSlice 167 (.int .i64 n) (.int .i64 n)).run Tryz.prog w=.ok (.slice (some ⟨w.heap.size,0,none⟩) n n) (w.alloc (.cells ((List.replicate n FE.zero).flatMap FE.cells).toArray 77)):=by
 obtain⟨i,hi,h⟩:=Option.map_eq_some_iff.1 Qcw;simp only[Prod.mk.injEq] at h;obtain⟨hz,hs,hb⟩:=h;have:=run_make w 167 77 i _ Tryz.underlying167 hi hz .i64 .i64 n n (by omega) (by omega) (by rw[hb];omega) (by omega);rw[Int.toNat_natCast,hs,Qou] at this;exact this
end Go.Proofs.YtbbkamnfjejceaaGreatDoor
