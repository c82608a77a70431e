/- package rows: where a row of fractions lies; how many of it aren't 0. -/
import Derived.Test.YtbbkamnfjejceaaGreatDoorR31RefC
namespace Go.Proofs.YtbbkamnfjejceaaGreatDoor
open Go.RowKit
set_option linter.unusedVariables false
set_option linter.unusedSimpArgs false
theorem SB.arow{α:Type}{c:α→List Value}{w:World}{g cap:Nat}{t:TypeId}{C:Array Value}{es:List α}(h:SB w g t C)(hc:C.toList=es.flatMap c)(hl:es.length≤cap):ARow c w (some ⟨g,0,none⟩) cap es:=by
 refine⟨hl,⟨fun j u hj=>⟨g,0,rfl,h.lt,?_⟩⟩⟩;rw[Nat.zero_add,h.cell j,←Array.getElem?_toList,hc];exact hj
abbrev tx0:ByteArray:=⟨#[48]⟩
abbrev tx1:ByteArray:=⟨#[49]⟩
def cornerJ:List S2:=[⟨tx0,tx0⟩,⟨tx1,tx0⟩,⟨tx0,tx1⟩]
def cornerBar(a b:Int):B6:=⟨a,b,tx1,⟨#[]⟩,⟨#[45,49]⟩,⟨#[50]⟩⟩
def cornerB:List B6:=[cornerBar 0 1,cornerBar 1 2,cornerBar 2 0]
def cornerH:List H3:=[⟨0,1,⟨#[]⟩⟩,⟨0,2,⟨#[]⟩⟩,⟨1,2,⟨#[]⟩⟩]
theorem Tryz.barInfo:(Tryz.prog.info? 68).map (·.size)=some 6:=by kernel_rfl
theorem Qed(a b:Int)(w:World):Calls Tryz.prog 120 #[.int .i64 a,.int .i64 b] w fun e w'=>e=.returned (.agg #[.int .i64 a,.int .i64 b,.string ⟨#[49]⟩,.string ⟨#[]⟩,.string ⟨#[45,49]⟩,.string ⟨#[50]⟩])∧Below w.heap.size w w':=by
 go_enter Tryz.func120,Tryz.ntmps120;go_wp2;refine bodyPost_ret (results_cell_row rfl _ _ w.heap.size 68 #[.int .i64 a,.int .i64 b,.string ⟨#[49]⟩,.string ⟨#[]⟩,.string ⟨#[45,49]⟩,.string ⟨#[50]⟩] (0,0) _ rfl (SB.new w _ _) Tryz.underlying68 rfl Tryz.barInfo) rfl ?_;exact⟨rfl,(Below.refl _ _).alloc (Nat.le_refl _) _⟩
set_option maxRecDepth 100000 in
set_option maxHeartbeats 4000000 in
theorem Qee(w:World):Calls Tryz.prog 59 #[] w fun e w'=>∃g1 g2 g3,e=.returned (.agg #[.slice (some ⟨g1,0,none⟩) 3 3,.slice (some ⟨g2,0,none⟩) 3 3,.slice (some ⟨g3,0,none⟩) 3 3])∧FrRow w' (some ⟨g1,0,none⟩) (some ⟨g2,0,none⟩) (some ⟨g3,0,none⟩) 3 3 3 cornerJ cornerB cornerH∧Below w.heap.size w w':=by
 go_enter Tryz.func59,Tryz.ntmps59;go_wp2_with fail;obtain⟨W,hW⟩:∃W,w.alloc (.cells #[.slice none 0 0,.slice none 0 0,.slice none 0 0] 54)=W:=⟨_,rfl⟩;have HP:Hid (PBag w W [fun v=>SB v w.heap.size 54 #[.slice none 0 0,.slice none 0 0,.slice none 0 0]]):=Hi (by rw[←hW];exact((PBag.start w).below ((Below.refl _ _).alloc (Nat.le_refl _) _)).put (P:=fun v=>SB v w.heap.size 54 #[.slice none 0 0,.slice none 0 0,.slice none 0 0]) (SB.new w _ _) (SB.stay _ _ _));rw[hW];clear hW;go_fit (Qdz ⟨#[48]⟩ ⟨#[48]⟩ W);rintro e w1 ⟨rfl,hb⟩;have HQ:=Hi (HP.out.below hb);clear HP hb;have HP:=HQ;clear HQ;go_wp2_with fail;go_fit (Qdz ⟨#[49]⟩ ⟨#[48]⟩ w1);rintro e w2 ⟨rfl,hb⟩;have HQ:=Hi (HP.out.below hb);clear HP hb;have HP:=HQ;clear HQ;go_wp2_with fail;go_fit (Qdz ⟨#[48]⟩ ⟨#[49]⟩ w2);rintro e w3 ⟨rfl,hb⟩;have HQ:=Hi (HP.out.below hb);clear HP hb;have HP:=HQ;clear HQ;obtain⟨g1,hg1⟩:∃g1,w3.heap.size=g1:=⟨_,rfl⟩
 obtain⟨v3,hv3⟩:∃v3,w3.alloc (.cells #[.string ⟨#[48]⟩,.string ⟨#[48]⟩,.string ⟨#[49]⟩,.string ⟨#[48]⟩,.string ⟨#[48]⟩,.string ⟨#[49]⟩] 25)=v3:=⟨_,rfl⟩;have HQ:=Hi ((HP.out.below (w':=v3) (by rw[←hv3];exact(Below.refl _ _).alloc (Nat.le_refl _) _)).put (P:=fun v=>SB v g1 25 #[.string ⟨#[48]⟩,.string ⟨#[48]⟩,.string ⟨#[49]⟩,.string ⟨#[48]⟩,.string ⟨#[48]⟩,.string ⟨#[49]⟩]) (by rw[←hv3,←hg1];exact SB.new w3 _ _) (SB.stay _ _ _));have ne1:w.heap.size≠g1:=by have:=HP.out.base.size;have:=(HP.out.get (fun v=>SB v w.heap.size 54 #[.slice none 0 0,.slice none 0 0,.slice none 0 0]) (List.Mem.head _)).lt;omega
 clear HP;have HP:=HQ;have HV3:=Hi hv3;have HG1:=Hi hg1;clear HQ hv3 hg1;go_wp2_with fail;rw[HV3.out,HG1.out];go_fit (Qed 0 1 v3);rintro e w4 ⟨rfl,hb⟩;have HQ:=Hi (HP.out.below hb);clear HP hb;have HP:=HQ;clear HQ;go_wp2_with fail;go_fit (Qed 1 2 w4);rintro e w5 ⟨rfl,hb⟩;have HQ:=Hi (HP.out.below hb);clear HP hb;have HP:=HQ;clear HQ;go_wp2_with fail;go_fit (Qed 2 0 w5);rintro e w6 ⟨rfl,hb⟩;have HQ:=Hi (HP.out.below hb);clear HP hb;have HP:=HQ;clear HQ;obtain⟨g2,hg2⟩:∃g2,w6.heap.size=g2:=⟨_,rfl⟩
 obtain⟨v7,hv7⟩:∃v7,(w6.alloc (.cells #[.int .i64 0,.int .i64 1,.string ⟨#[49]⟩,.string ⟨#[]⟩,.string ⟨#[45,49]⟩,.string ⟨#[50]⟩,.int .i64 1,.int .i64 2,.string ⟨#[49]⟩,.string ⟨#[]⟩,.string ⟨#[45,49]⟩,.string ⟨#[50]⟩,.int .i64 2,.int .i64 0,.string ⟨#[49]⟩,.string ⟨#[]⟩,.string ⟨#[45,49]⟩,.string ⟨#[50]⟩] 68)).alloc (.cells #[.int .i64 0,.int .i64 1,.string ⟨#[]⟩,.int .i64 0,.int .i64 2,.string ⟨#[]⟩,.int .i64 1,.int .i64 2,.string ⟨#[]⟩] 122)=v7:=⟨_,rfl⟩
 have HQ:=Hi (((HP.out.below (w':=v7) (by rw[←hv7];exact Below.new2 w6 _ _)).put (P:=fun v=>SB v g2 68 #[.int .i64 0,.int .i64 1,.string ⟨#[49]⟩,.string ⟨#[]⟩,.string ⟨#[45,49]⟩,.string ⟨#[50]⟩,.int .i64 1,.int .i64 2,.string ⟨#[49]⟩,.string ⟨#[]⟩,.string ⟨#[45,49]⟩,.string ⟨#[50]⟩,.int .i64 2,.int .i64 0,.string ⟨#[49]⟩,.string ⟨#[]⟩,.string ⟨#[45,49]⟩,.string ⟨#[50]⟩]) (by rw[←hv7,←hg2];exact(SB.new w6 _ _).alloc _) (SB.stay _ _ _)).put (P:=fun v=>SB v (g2+1) 122 #[.int .i64 0,.int .i64 1,.string ⟨#[]⟩,.int .i64 0,.int .i64 2,.string ⟨#[]⟩,.int .i64 1,.int .i64 2,.string ⟨#[]⟩]) (by rw[←hv7,←hg2];exact SB.new2 w6 _ _ _ _) (SB.stay _ _ _));have hres:=HP.out.get (fun v=>SB v w.heap.size 54 #[.slice none 0 0,.slice none 0 0,.slice none 0 0]) (by
  (focus(repeat(first|exact List.Mem.head _|apply List.Mem.tail)))
  skip)
 have ne2:w.heap.size≠g2:=by have:=hres.lt;omega
 have ne3:w.heap.size≠g2+1:=by have:=hres.lt;omega
 clear HP hres;have HP:=HQ;have hres:=HP.out.get (fun v=>SB v w.heap.size 54 #[.slice none 0 0,.slice none 0 0,.slice none 0 0]) (by
  (focus(repeat(first|exact List.Mem.head _|apply List.Mem.tail)))
  skip)
 have z0:v7.cell? ⟨w.heap.size,0,none⟩=some (.slice none 0 0):=hres.cell 0;have z1:v7.cell? ⟨w.heap.size,1,none⟩=some (.slice none 0 0):=hres.cell 1;have z2:v7.cell? ⟨w.heap.size,2,none⟩=some (.slice none 0 0):=hres.cell 2;have f0:=hres.free 0;have f1:=hres.free 1;have f2:=hres.free 2;rw[←hv7] at z0 z1 z2 f0 f1 f2;have HRES:=Hi hres;have HV7:=Hi hv7;have HG2:=Hi hg2;clear HQ hv7 hg2 hres;go_wp2;rw[HV7.out,HG2.out];have s1:=HP.out.get (fun v=>SB v g1 25 #[.string ⟨#[48]⟩,.string ⟨#[48]⟩,.string ⟨#[49]⟩,.string ⟨#[48]⟩,.string ⟨#[48]⟩,.string ⟨#[49]⟩]) (by
  (focus(repeat(first|exact List.Mem.head _|apply List.Mem.tail)))
  skip)
 have s2:=HP.out.get (fun v=>SB v g2 68 #[.int .i64 0,.int .i64 1,.string ⟨#[49]⟩,.string ⟨#[]⟩,.string ⟨#[45,49]⟩,.string ⟨#[50]⟩,.int .i64 1,.int .i64 2,.string ⟨#[49]⟩,.string ⟨#[]⟩,.string ⟨#[45,49]⟩,.string ⟨#[50]⟩,.int .i64 2,.int .i64 0,.string ⟨#[49]⟩,.string ⟨#[]⟩,.string ⟨#[45,49]⟩,.string ⟨#[50]⟩]) (by
  (focus(repeat(first|exact List.Mem.head _|apply List.Mem.tail)))
  skip)
 have s3:=HP.out.get (fun v=>SB v (g2+1) 122 #[.int .i64 0,.int .i64 1,.string ⟨#[]⟩,.int .i64 0,.int .i64 2,.string ⟨#[]⟩,.int .i64 1,.int .i64 2,.string ⟨#[]⟩]) (by
  (focus(repeat(first|exact List.Mem.head _|apply List.Mem.tail)))
  skip)
 have r1:ARow S2.cells v7 (some ⟨g1,0,none⟩) 3 cornerJ:=s1.arow rfl (by decide);have r2:ARow B6.cells v7 (some ⟨g2,0,none⟩) 3 cornerB:=s2.arow rfl (by decide);have r3:ARow H3.cells v7 (some ⟨g2+1,0,none⟩) 3 cornerH:=s3.arow rfl (by decide);refine bodyPost_ret (results_cell_row rfl _ _ w.heap.size 54 #[.slice (some ⟨g1,0,none⟩) 3 3,.slice (some ⟨g2,0,none⟩) 3 3,.slice (some ⟨g2+1,0,none⟩) 3 3] (0,0) _ rfl (((HRES.out.set 0 _).set 1 _).set 2 _) Tryz.underlying54 rfl Tryz.frameInfo) rfl ?_;exact⟨g1,g2,g2+1,rfl,⟨((r1.far ne1).far ne1).far ne1,((r2.far ne2).far ne2).far ne2,((r3.far ne3).far ne3).far ne3⟩,((HP.out.base.setCell (Nat.le_refl _) _).setCell (Nat.le_refl _) _).setCell (Nat.le_refl _) _⟩
theorem Qfr(a1 a2 a3:Option Addr)(c1 c2 c3 n m k:Nat)(w:World)(hm:m≤24)(hk:k≤20):
 Calls Tryz.prog 76 #[.agg #[.slice a1 n c1,.slice a2 m c2,.slice a3 k c3]] w fun e w'=>e=.returned (.int .i64 ((m:Int)+(k:Int)))∧Below w.heap.size w w':=by
 go_enter Tryz.func76,Tryz.ntmps76;go_wp2;go_ret;exact⟨rfl,(Below.refl _ _).alloc (Nat.le_refl _) _⟩
theorem Qfs(a1 a2 a3:Option Addr)(c1 c2 c3 n m k:Nat)(w:World)(hn:n≤10):
 Calls Tryz.prog 77 #[.agg #[.slice a1 n c1,.slice a2 m c2,.slice a3 k c3]] w fun e w'=>e=.returned (.int .i64 (2*(n:Int)))∧Below w.heap.size w w':=by
 go_enter Tryz.func77,Tryz.ntmps77;go_wp2;go_ret;exact⟨rfl,(Below.refl _ _).alloc (Nat.le_refl _) _⟩
theorem Qd0(j:Nat)(w:World)(hj:j≤10):Calls Tryz.prog 136 #[.int .i64 j] w fun e w'=>e=.returned (.int .i64 (2*(j:Int)))∧w'=w:=by
 go_enter Tryz.func136,Tryz.ntmps136;go_wp2;go_ret;exact⟨rfl,rfl⟩
theorem Qd1(j:Nat)(w:World)(hj:j≤10):Calls Tryz.prog 137 #[.int .i64 j] w fun e w'=>e=.returned (.int .i64 (2*(j:Int)+1))∧w'=w:=by
 go_enter Tryz.func137,Tryz.ntmps137;go_wp2;go_ret;exact⟨rfl,rfl⟩
set_option maxRecDepth 100000 in
theorem Qrh(j:Nat)(wy:Int)(q:ByteArray)(w:World)(hj:j≤10):Calls Tryz.prog 138 #[.agg #[.int .i64 j,.int .i64 wy,.string q]] w fun e w'=>e=.returned (.int .i64 (if wy=1 then 2*(j:Int) else 2*(j:Int)+1))∧Below w.heap.size w w':=by
 have HB:=Hi ((Below.refl w.heap.size w).alloc (Nat.le_refl _) (.cells #[.int .i64 j,.int .i64 wy,.string q] 122));by_cases h:wy=1
 ·
  subst h;rw[if_pos rfl];go_enter Tryz.func138,Tryz.ntmps138;go_wp2_with fail;go_fit (Qd0 j _ hj);rintro e w1 ⟨rfl,rfl⟩;go_wp2;go_ret;exact⟨rfl,HB.out⟩
 ·
  rw[if_neg h];have e0:(wy == 1)=false:=by rw[beq_eq_false_iff_ne];exact h
  clear h;go_enter Tryz.func138,Tryz.ntmps138;go_wp2_with fail;go_fit (Qd1 j _ hj);rintro e w1 ⟨rfl,rfl⟩;go_wp2;go_ret;exact⟨rfl,HB.out⟩
def FE.cells(t:FE):List Value:=[t.x,t.y,t.z]
structure QRow (w:World) (a:Option Addr) (cap:Nat) (ts:List FE):Prop where
 row:ARow FE.cells w a cap ts
 ts:∀t,t∈ ts→FracV w (.agg #[t.x,t.y,t.z]) t.q∧Fits t.q t.k∧0<t.k
theorem QRow.below{w w':World}{a:Option Addr}{cap:Nat}{ts:List FE}(h:QRow w a cap ts)(hb:Below w.heap.size w w'):QRow w' a cap ts:=
 ⟨h.row.below hb,fun t ht=>⟨(h.ts t ht).1.below hb,(h.ts t ht).2⟩⟩
theorem QRow.at{w:World}{a:Option Addr}{cap:Nat}{ts:List FE}(h:QRow w a cap ts){i:Nat}{e:FE}(hi:ts[i]?=some e):
 ∃b off,a=some ⟨b,off,none⟩∧b<w.heap.size∧w.cell? ⟨b,off+i*3,none⟩=some e.x∧w.cell? ⟨b,off+i*3+1,none⟩=some e.y∧w.cell? ⟨b,off+i*3+2,none⟩=some e.z:=by
 obtain⟨b,off,h1,h2,h3⟩:=h.row.at (sz:=3) (fun _=>rfl) (by decide) hi;exact⟨b,off,h1,h2,h3 0 _ rfl,h3 1 _ rfl,h3 2 _ rfl⟩
theorem QRow.get{w:World}{a:Option Addr}{cap:Nat}{ts:List FE}(h:QRow w a cap ts){i:Nat}{e:FE}(hi:ts[i]?=some e):FracV w (.agg #[e.x,e.y,e.z]) e.q∧Fits e.q e.k∧0<e.k:=h.ts e (List.mem_of_getElem? hi)
def filledOf(ts:List FE):Nat:=ts.countP fun t=>!decide (t.q=0)
theorem Qqe{ts:List FE}{k:Nat}{e:FE}(h:ts[k]?=some e):filledOf (ts.take (k+1))=filledOf (ts.take k)+if e.q=0 then 0 else 1:=by
 unfold filledOf;rw[List.take_add_one,h,List.countP_append];by_cases h0:e.q=0<;>simp[h0]
theorem Qi0(ts:List FE):filledOf ts≤ts.length:=List.countP_le_length
set_option maxRecDepth 100000 in
set_option maxHeartbeats 4000000 in
theorem Qqf(a:Option Addr)(cap:Nat)(ts:List FE)(w:World)(h:QRow w a cap ts)(hl:ts.length≤1000):
 Calls Tryz.prog 216 #[.slice a ts.length cap] w fun e w'=>e=.returned (.int .i64 (filledOf ts:Nat))∧Below w.heap.size w w':=by
 have HH:=Hi h;clear h;go_enter Tryz.func216,Tryz.ntmps216;go_wp2_with fail;go_loopw [3,8] (fun n i wr=>∃k:Nat,k≤ts.length∧i=.int .i64 k∧n=.int .i64 (filledOf (ts.take k):Nat)∧Below w.heap.size w wr) (fun _ i _=>ts.length - (intOf i).toNat)
 case atStart=>exact⟨0,by omega,rfl,rfl,Below.refl _ _⟩
 case round=>
  obtain⟨k,hk,rfl,rfl,hb⟩:=hrel;have HB:=Hi hb;clear hb;by_cases hlt:k<ts.length
  ·
   obtain⟨f,hf⟩:∃f,ts[k]?=some f:=⟨ts[k],List.getElem?_eq_getElem hlt⟩;obtain⟨fb,off,rfl,hfb,d0,d1,d2⟩:=(HH.out.below HB.out).at hf;obtain⟨hv,_,_⟩:=(HH.out.below HB.out).get hf;have HFK:=Hi (Qqe hf);have hn:filledOf (ts.take k)≤1000:=by
    have h1:=Qi0 (ts.take k);have h2:=List.length_take_le k ts;omega
   obtain⟨o1,o2,o3⟩:=hv.one;obtain⟨m,hm⟩:∃m,filledOf (ts.take k)=m:=⟨_,rfl⟩;rw[hm] at hn HFK ⊢;have HV:=Hi hv;have q1:((k:Int)<(ts.length:Int)):=by omega
   obtain⟨V,hV⟩:∃V,wr.alloc (.cells #[f.x,f.y,f.z] 77)=V:=⟨_,rfl⟩;have HBV:Hid (Below wr.heap.size wr V):=Hi (by rw[←hV];exact(Below.refl _ _).alloc (Nat.le_refl _) _);have HW:=Hi hV;have s0:=Qap Tryz.prog o1;have s1:=Qap Tryz.prog o2;have s2:=Qap Tryz.prog o3;clear hf hv hm hV o1 o2 o3;go_wp2_with fail;rw[HW.out];go_fit (Qby (HV.out.below HBV.out));rintro e w4 ⟨rfl,hb4⟩;have HB4:=Hi (HB.out.trans ((HBV.out.trans (hb4.mono HBV.out.size)).mono HB.out.size));clear hb4 d0 d1 d2 s0 s1 s2;by_cases h0:f.q=0
   ·
    rw[decide_eq_true h0];rw[if_pos h0] at HFK;clear h0;go_wp2;go_roundw
    case rel=>exact⟨k+1,by omega,by go_num,by rw[HFK.out];rfl,HB4.out⟩
    case measure=>simp[intOf];omega
   ·
    rw[decide_eq_false h0];rw[if_neg h0] at HFK;clear h0;go_wp2;go_roundw
    case rel=>exact⟨k+1,by omega,by go_num,by rw[HFK.out];go_num,HB4.out⟩
    case measure=>simp[intOf];omega
  ·
   have hk':k=ts.length:=by omega
   subst hk';have HT:Hid (filledOf (ts.take ts.length)=filledOf ts):=Hi (by rw[List.take_length]);rw[HT.out];go_wp2;go_ret;exact⟨rfl,HB.out⟩
end Go.Proofs.YtbbkamnfjejceaaGreatDoor
