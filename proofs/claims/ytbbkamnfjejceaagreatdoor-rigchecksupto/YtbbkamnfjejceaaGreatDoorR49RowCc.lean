/- For every world that holds the tables, and every frame of bulk at most 1048576: RigChecks answers true: the statement and its card. -/
import Derived.Test.YtbbkamnfjejceaaGreatDoorR39Minors
import Derived.BigRegion
import Derived.Test.YtbbkamnfjejceaaGreatDoorR48RowF
import Derived.Test.YtbbkamnfjejceaaGreatDoorR33LawRC
import Derived.Test.YtbbkamnfjejceaaGreatDoorCards
import Derived.Test.YtbbkamnfjejceaaGreatDoorTie
import Derived.Deep.DeepHandedRow
namespace Go.Proofs.YtbbkamnfjejceaaGreatDoor
set_option linter.unusedVariables false
set_option linter.unusedSimpArgs false
def Wh(P b:Nat)(q:Rat):Prop:=∃z:Int,q*(P:Rat)=(z:Rat)∧z.natAbs≤2 ^ b
theorem Wh.zero(P b:Nat):Wh P b 0:=⟨0,by rw[Rat.zero_mul];rfl,by simp⟩
theorem Wh.neg{P b:Nat}{q:Rat}(h:Wh P b q):Wh P b (-q):=by
 obtain⟨z,e,hz⟩:=h;refine⟨-z,?_,by rw[Int.natAbs_neg];exact hz⟩;rw[Rat.intCast_neg,←e];grind
theorem Wh.one{P b:Nat}(h:P≤2 ^ b):Wh P b 1:=⟨(P:Int),by rw[Rat.one_mul,Rat.intCast_natCast],by simpa using h⟩
theorem Qk7{a b:Nat}(ha:a=2 ^ b):(20+1)*(a*(2*((20+1)*a)) ^ 20)≤2 ^ (5+(b+(6+b)*20)):=by
 have h0:2 ^ 6=64:=by decide
 have h1:2*((20+1)*a)≤2 ^ (6+b):=by rw[Nat.pow_add,ha];omega
 have h2:(2*((20+1)*a)) ^ 20≤(2 ^ (6+b)) ^ 20:=Nat.pow_le_pow_left h1 20;rw[←Nat.pow_mul] at h2;rw[Nat.pow_add 2 5,Nat.pow_add 2 b,←ha];exact Nat.mul_le_mul (by decide) (Nat.mul_le_mul_left _ h2)
abbrev kE(b:Nat):Nat:=21*b+126
abbrev kC(b:Nat):Nat:=22*b+126
abbrev kW(b:Nat):Nat:=41*kC b+20
theorem Qgd{b W P:Nat}{M:List Vec}(hP:0<P)(hPb:P≤2 ^ b)(hM:∀r,r∈ M→∀j,Wh P b (r j))(hz:∀r,r∈ M→∀i,W≤i→r i=0)(hl:M.length≤20∨W≤20):
 Going (kE b) (MJ W 20 (kC b) M)∧MJ W 20 (kC b) M 0 M [] []∧∀L S hs,MJ W 20 (kC b) M W L S hs→(Ech 0 W S hs∧∀x,Null W M x↔Null W S x)∧clnFits (kW b) S hs∧∀v,v∈ cln S hs→∀i,Fits (v i) (kC b):=by
 have hD:∀j:Nat,0<(fun _=>P) j∧(fun _=>P) j≤2 ^ b:=fun _=>⟨hP,hPb⟩
 have h1:=Qk7 (a:=2 ^ b) (b:=b) rfl;have ha:0<2 ^ b:=Nat.pow_pos (by decide);have hK:(20+1)*(2 ^ b*(2*((20+1)*2 ^ b)) ^ 20)<2 ^ kE b:=Nat.lt_of_le_of_lt h1 (Nat.pow_lt_pow_right (by decide) (by simp only[kE];omega));have hK2:(20+1)*(2 ^ b*(2*((20+1)*2 ^ b)) ^ 20)*2 ^ b<2 ^ kC b:=by
  refine Nat.lt_of_le_of_lt (Nat.mul_le_mul_right _ h1) ?_;rw[←Nat.pow_add];exact Nat.pow_lt_pow_right (by decide) (by simp only[kC];omega)
 refine⟨MJ.going (D:=fun _=>P) ha hD hM hK (by simp only[kE];omega) hK2 (by simp only[kC];omega),MJ.start W 20 _ M hz hl,fun L S hs h=>⟨h.1.done,?_⟩⟩;exact MJ.clean (D:=fun _=>P) ha hD hM hK2 (by simp only[kC];omega) (by simp only[kW,kC];omega) h
theorem Going.mono{K K':Nat}{I:Nat→List Vec→List Vec→List Nat→Prop}(h:Going K I)(hK:K≤K'):Going K' I:=⟨fun hi r hr i=>(h.fit hi r hr i).mono hK,h.skip,h.step⟩
structure FrP (P b:Nat) (vb:List (Nat × Nat × Rat × Rat)):Prop where
 pos:0<P
 le:P≤2 ^ b
 wh:∀p,p∈ vb→Wh P b p.2.2.1∧Wh P b p.2.2.2
theorem FrP.at{P b nb:Nat}{vb:List (Nat × Nat × Rat × Rat)}{vh:List Nat}(h:FrP P b vb)(r c:Nat):Wh P b (balM vb nb vh r c):=by
 unfold balM;cases hp:vb[c]? with
 |none=>
  simp only;cases vh[c - nb]? with
  |none=>exact Wh.zero _ _
  |some x=>
   simp only
   split
   · exact Wh.one h.le
   · exact Wh.zero _ _
 |some p=>
  obtain⟨w1,w2⟩:=h.wh p (List.mem_of_getElem? hp);simp only[barAt]
  split
  · exact w1
  ·
   split
   · exact w1.neg
   ·
    split
    · exact w2
    ·
     split
     · exact w2.neg
     · exact Wh.zero _ _
section
variable {n P b:Nat} {js:List S2} {bs:List B6} {hs:List H3} {vb:List (Nat × Nat × Rat × Rat)} {vh:List Nat}
theorem FrP.rows(h:FrP P b vb)(hv:FrV n js bs hs vb vh):
 Going (kE b) (MJ (bs.length+hs.length) 20 (kC b) (balRows js.length vb bs.length vh))∧MJ (bs.length+hs.length) 20 (kC b) (balRows js.length vb bs.length vh) 0 (balRows js.length vb bs.length vh) [] []∧
 ∀L S hh,MJ (bs.length+hs.length) 20 (kC b) (balRows js.length vb bs.length vh) (bs.length+hs.length) L S hh→(Ech 0 (bs.length+hs.length) S hh∧∀x,Null (bs.length+hs.length) (balRows js.length vb bs.length vh) x↔Null (bs.length+hs.length) S x)∧clnFits (kW b) S hh∧∀v,v∈ cln S hh→∀i,Fits (v i) (kC b):=by
 refine Qgd h.pos h.le (fun r hr j=>?_) (fun r hr i hi=>?_) (.inl ?_)
 · obtain⟨k,_,rfl⟩:=List.mem_map.1 hr
   exact h.at k j
 · obtain⟨k,_,rfl⟩:=List.mem_map.1 hr
   exact Qcw hv.lb hv.lh k i hi
 ·
  have:=hv.j;simp only[balRows,List.length_map,List.length_range];omega
end
open Go.RowKit
theorem Wh.fits{P b:Nat}{q:Rat}(h:Wh P b q)(hP:0<P)(hPb:P≤2 ^ b):Fits q (b+1):=by
 obtain⟨z,e,hz⟩:=h;have h2:2 ^ b<2 ^ (b+1):=Nat.pow_lt_pow_right (by decide) (by omega);refine Qe5 (Z:=z) (y:=1) (d:=P) (by decide) hP ?_ (by omega) (by simp;omega) (by omega);rw[←e]
 show q*(((1:Int):Rat)*(P:Rat))=q*(P:Rat)
 rw[show ((1:Int):Rat)=1 from rfl,Rat.one_mul]
structure FrLP (P b:Nat) (vb:List (Nat × Nat × Rat × Rat)) (vs:List (Nat × Rat × Rat)):Prop extends FrP P b vb where
 agn:∀k i,Wh P b (agn (vs.take k) i)
theorem Qd9{α β γ:Type}{f:α→β→γ}:∀{l:List α} {m:List β} {r:γ},r∈ List.zipWith f l m→∃a,a∈ l∧∃b,b∈ m∧r=f a b
 |a :: l,b :: m,r,h=>by
  rw[List.zipWith_cons_cons] at h;rcases List.mem_cons.1 h with rfl|h
  · exact⟨a,by simp,b,by simp,rfl⟩
  · obtain⟨a',ha,b',hb,e⟩:=Qd9 h
    exact⟨a',by simp[ha],b',by simp[hb],e⟩
 | [],m,r,h=>by simp at h
 |a :: l,[],r,h=>by simp at h
theorem Qj8(a1 a2 a3 al:Option Addr)(c1 c2 c3 cl P b:Nat)(js:List S2)(bs:List B6)(hs:List H3)(vb:List (Nat × Nat × Rat × Rat))(vh:List Nat)(ls:List L3)(vs:List (Nat × Rat × Rat))(w:World)(hg:Glob w)(hf:FrRow w a1 a2 a3 c1 c2 c3 js bs hs)(hz:FrSized js bs hs)(hok:FrameFault js bs hs 0 0)(hv:FrV 1048576 js bs hs vb vh)
 (hl:ARow L3.cells w al cl ls) (hll:ls.length≤20) (hvl:vs.length=ls.length) (hlv:∀(i:Nat) (l:L3) (p:Nat × Rat × Rat),ls[i]?=some l→vs[i]?=some p→LoadV js.length l p) (hp:FrLP P b vb vs) (hb1:1000000≤b) (hb2:b≤16000000):
 Calls Tryz.prog 60 #[.agg #[.slice a1 js.length c1,.slice a2 bs.length c2,.slice a3 hs.length c3],.slice al ls.length cl] w (CarrySays bs.length hs.length (balRows js.length vb bs.length vh) ((List.range (2*js.length)).map (agn vs)) w):=by
 have hag:∀i,Wh P b (agn vs i):=fun i=>by
  have:=hp.agn vs.length i;rw[List.take_length] at this;exact this
 obtain⟨hgo,hst,hen⟩:=Qgd (W:=bs.length+hs.length+1) (M:=List.zipWith (wider (bs.length+hs.length)) (balRows js.length vb bs.length vh) ((List.range (2*js.length)).map (agn vs))) hp.pos hp.le (fun r hr j=>by
  obtain⟨m,hm,v,hv',rfl⟩:=Qd9 hr;obtain⟨k,_,rfl⟩:=List.mem_map.1 hm;obtain⟨i,_,rfl⟩:=List.mem_map.1 hv';unfold wider
  split
  · exact hag _
  · exact hp.at _ _) (fun r hr i hi=>by
  obtain⟨m,hm,v,hv',rfl⟩:=Qd9 hr;obtain⟨k,_,rfl⟩:=List.mem_map.1 hm;unfold wider;rw[if_neg (by omega)]
  exact Qcw hv.lb hv.lh _ i (by omega)) (.inl (by
  have:=hv.j;simp only[List.length_zipWith,balRows,List.length_map,List.length_range]
  omega))
 refine Qjz a1 a2 a3 al c1 c2 c3 cl 1048576 (kW b) js bs hs vb vh ls vs w hg hf hz hok hv hl hll hvl hlv (fun k i=>((hp.agn k i).fits hp.pos hp.le).mono (by simp only[kW,kC];omega)) (by simp only[kW,kC];omega) (by simp only[kW,kC];omega) _ (hgo.mono (by simp only[kE,kW,kC];omega)) hst (fun L S hh hi=>?_);obtain⟨⟨e1,e2⟩,e3,_⟩:=hen L S hh hi;exact⟨e1,e2,e3⟩
theorem Qj4(g1 g2 g3:Nat)(w:World)(hg:Glob w)(hf:FrRow w (some ⟨g1,0,none⟩) (some ⟨g2,0,none⟩) (some ⟨g3,0,none⟩) 3 3 3 cornerJ cornerB cornerH):
 Calls Tryz.prog 24 #[.agg #[.slice (some ⟨g1,0,none⟩) 3 3,.slice (some ⟨g2,0,none⟩) 3 3,.slice (some ⟨g3,0,none⟩) 3 3]] w fun e w'=>e=.returned (.tuple #[.int .i64 0,.agg #[.int .i64 0,.int .i64 0]])∧Below w.heap.size w w':=by
 refine Calls.mono (Qiv (some ⟨g1,0,none⟩) (some ⟨g2,0,none⟩) (some ⟨g3,0,none⟩) 3 3 3 cornerJ cornerB cornerH w hg hf Qd6) ?_;rintro e w' ⟨c,at_,k,rfl,hff,_,hk,hb⟩;obtain⟨rfl,rfl⟩:=hff.inj Qd8;obtain rfl:=hk rfl;exact⟨rfl,hb⟩
theorem Qcx{b:Nat}{q:Rat}(h:q=0∨q=1∨q= -1):Wh 1 b q:=by
 rcases h with rfl|rfl|rfl
 · exact Wh.zero _ _
 · exact Wh.one Nat.one_le_two_pow
 · exact(Wh.one Nat.one_le_two_pow).neg
theorem Qf5(b:Nat):FrLP 1 b cornerVB cornerVS:=by
 refine⟨⟨by decide,Nat.one_le_two_pow,fun p hp=>?_⟩,fun k i=>?_⟩
 · simp only[cornerVB,List.mem_cons,List.not_mem_nil,or_false] at hp
   rcases hp with rfl|rfl|rfl<;>exact⟨Qcx (by decide +kernel),Qcx (by decide +kernel)⟩
 ·
  match k with
  |0=>exact Wh.zero _ _
  |k+1=>
   have e:agn (cornerVS.take (k+1))=agnStep (fun _=>0) (2,1,0):=by simp[cornerVS];rfl
   rw[e];by_cases h4:i=4
   · subst h4
     exact Qcx (by decide +kernel)
   ·
    by_cases h5:i=5
    · subst h5
      exact Qcx (by decide +kernel)
    · rw[Qje (by simpa using h4) (by simpa using h5)]
      exact Wh.zero _ _
theorem Qj5(g1 g2 g3:Nat)(w:World)(hg:Glob w)(hf:FrRow w (some ⟨g1,0,none⟩) (some ⟨g2,0,none⟩) (some ⟨g3,0,none⟩) 3 3 3 cornerJ cornerB cornerH):
 Calls Tryz.prog 29 #[.agg #[.slice (some ⟨g1,0,none⟩) 3 3,.slice (some ⟨g2,0,none⟩) 3 3,.slice (some ⟨g3,0,none⟩) 3 3]] w fun e w'=>e=.returned (.tuple #[.int .i64 6,.int .i64 0,.int .i64 0,.agg #[.int .i64 0,.int .i64 0]])∧Below w.heap.size w w':=by
 obtain⟨hgo,hst,hen⟩:=(Qf5 1000000).toFrP.rows Qd7;refine Calls.mono (Qjw (some ⟨g1,0,none⟩) (some ⟨g2,0,none⟩) (some ⟨g3,0,none⟩) 3 3 3 1048576 (kW 1000000) cornerJ cornerB cornerH cornerVB cornerVH w hg hf Qd6 Qd8 Qd7 (by simp only[kW,kC];omega) (by simp only[kW,kC];omega) _ (hgo.mono (by simp only[kE,kW,kC];omega)) hst) ?_;rintro e w' ⟨⟨L,S,hh,rfl,_,hI⟩,hb⟩;obtain⟨⟨h1,h2⟩,_⟩:=hen L S hh hI;have e1:balRows cornerJ.length cornerVB cornerB.length cornerVH=cornerM:=Qf3;rw[e1] at h2;have h6:S.length=6:=by
  rw[h1.len];exact h1.full (fun x hx c hc=>Qk8 x ((h2 x).2 hx) c hc)
 rw[h6];exact⟨rfl,hb⟩
theorem Qj6(g1 g2 g3 cl:Nat)(al:Option Addr)(w:World)(hg:Glob w)(hf:FrRow w (some ⟨g1,0,none⟩) (some ⟨g2,0,none⟩) (some ⟨g3,0,none⟩) 3 3 3 cornerJ cornerB cornerH)(hl:ARow L3.cells w al cl cornerL):
 Calls Tryz.prog 60 #[.agg #[.slice (some ⟨g1,0,none⟩) 3 3,.slice (some ⟨g2,0,none⟩) 3 3,.slice (some ⟨g3,0,none⟩) 3 3],.slice al 1 cl] w fun e w'=>∃g1 g2,e=.returned (.tuple #[.agg #[.slice (some ⟨g1,0,none⟩) 3 3,.slice (some ⟨g2,0,none⟩) 3 3],.agg #[.int .i64 0,.int .i64 0]])∧TLst w' (some ⟨g1,0,none⟩) [⟨#[49]⟩,⟨#[45,49]⟩,⟨#[49]⟩]∧TLst w' (some ⟨g2,0,none⟩) [⟨#[45,49]⟩,⟨#[45,49]⟩,⟨#[49]⟩]∧Below w.heap.size w w':=by
 have e1:balRows cornerJ.length cornerVB cornerB.length cornerVH=cornerM:=Qf3;have e2:(List.range (2*cornerJ.length)).map (agn cornerVS)= [0,0,0,0,-1,0]:=Qj1;have h:=Qj8 (some ⟨g1,0,none⟩) (some ⟨g2,0,none⟩) (some ⟨g3,0,none⟩) al 3 3 3 cl 1 1000000 cornerJ cornerB cornerH cornerVB cornerVH cornerL cornerVS w hg hf Qd6 Qd8 Qd7 hl (by decide) rfl Qj0 (Qf5 _) (by decide) (by decide);rw[e1,e2] at h;exact h.mono fun e w' hc=>Qj3 hc
set_option maxRecDepth 100000 in
set_option maxHeartbeats 4000000 in
theorem Qj7(w:World)(hg:Glob w):Calls Tryz.prog 21 #[] w fun e w'=>e=.returned (.bool true)∧Below w.heap.size w w':=by
 have HG:=Hi hg;clear hg;go_enter Tryz.func21,Tryz.ntmps21;go_wp2_with fail;go_fit (Qee w);rintro e w1 ⟨g1,g2,g3,rfl,hf1,hb1⟩;have HC1:=Hi (Qj4 g1 g2 g3 w1 (HG.out.below hb1) hf1);have HB1:=Hi hb1;clear hf1 hb1;go_wp2_with fail;go_fit HC1.out;rintro e w2 ⟨rfl,hb2⟩;obtain⟨V2,hV2⟩:∃V2,w2.alloc (.cells #[.int .i64 0,.int .i64 0] 57)=V2:=⟨_,rfl⟩;obtain⟨p2,hp2⟩:∃p2,w2.heap.size=p2:=⟨_,rfl⟩;have HB2:Hid (Below w.heap.size w V2):=Hi ((HB1.out.trans (hb2.mono HB1.out.size)).trans ((show Below w2.heap.size w2 V2 by rw[←hV2];exact(Below.refl _ _).alloc (Nat.le_refl _) _).mono (HB1.out.trans (hb2.mono HB1.out.size)).size));have HS2:Hid (SB V2 p2 57 #[.int .i64 0,.int .i64 0]):=Hi (by rw[←hV2,←hp2];exact SB.new w2 _ _);have HV2:=Hi hV2;have HP2:=Hi hp2;clear hb2 hV2 hp2 HC1;go_wp2_with fail;rw[HV2.out,HP2.out];go_fit (Qee V2);rintro e w3 ⟨g4,g5,g6,rfl,hf3,hb3⟩
 have HB3:=Hi (HB2.out.trans (hb3.mono HB2.out.size));have HS3:=Hi (HS2.out.below hb3 HS2.out.lt);have HC3:=Hi (Qj5 g4 g5 g6 w3 (HG.out.below HB3.out) hf3);clear hf3 hb3 HS2;go_wp2_with fail;go_fit HC3.out;rintro e w4 ⟨rfl,hb4⟩;obtain⟨V4,hV4⟩:∃V4,w4.alloc (.cells #[.int .i64 0,.int .i64 0] 57)=V4:=⟨_,rfl⟩;obtain⟨p4,hp4⟩:∃p4,w4.heap.size=p4:=⟨_,rfl⟩;have hb4V:Below w3.heap.size w3 V4:=by rw[←hV4];exact hb4.alloc hb4.size _
 have HB4:Hid (Below w.heap.size w V4):=Hi (HB3.out.trans (hb4V.mono HB3.out.size));have HS4:Hid (SB V4 p4 57 #[.int .i64 0,.int .i64 0]):=Hi (by rw[←hV4,←hp4];exact SB.new w4 _ _);have HS3b:=Hi (HS3.out.below hb4V HS3.out.lt);have HV4:=Hi hV4;have HP4:=Hi hp4;clear hb4 hV4 hp4 hb4V HC3 HS3;go_wp2_with fail;rw[HV4.out,HP4.out];go_fit (Qee V4);rintro e w5 ⟨g7,g8,g9,rfl,hf5,hb5⟩;have HF5:=Hi hf5;have HB5:=Hi (HB4.out.trans (hb5.mono HB4.out.size));have HS4b:=Hi (HS4.out.below hb5 HS4.out.lt);have HS3c:=Hi (HS3b.out.below hb5 HS3b.out.lt);clear hf5 hb5 HS4 HS3b;go_wp2_with fail;go_fit (Qdz ⟨#[49]⟩ ⟨#[48]⟩ w5);rintro e w6 ⟨rfl,hb6⟩;obtain⟨V6,hV6⟩:∃V6,w6.alloc (.cells #[.int .i64 2,.string ⟨#[49]⟩,.string ⟨#[48]⟩] 115)=V6:=⟨_,rfl⟩;have hb6V:Below w5.heap.size w5 V6:=by rw[←hV6];exact hb6.alloc hb6.size _
 have HB6:=Hi (HB5.out.trans (hb6V.mono HB5.out.size));have HS4c:=Hi (HS4b.out.below hb6V HS4b.out.lt);have HS3d:=Hi (HS3c.out.below hb6V HS3c.out.lt);have hsl:SB V6 w6.heap.size 115 #[.int .i64 2,.string ⟨#[49]⟩,.string ⟨#[48]⟩]:=by rw[←hV6];exact SB.new w6 _ _
 have HCY:=Hi (Qj6 g7 g8 g9 1 (some ⟨w6.heap.size,0,none⟩) V6 (HG.out.below HB6.out) (HF5.out.below hb6V) (hsl.arow rfl (by decide)));have HV6:=Hi hV6;clear hb6 hV6 hb6V hsl HF5 HS4b HS3c;go_wp2_with fail;rw[HV6.out];go_fit HCY.out;rintro e w7 ⟨h1,h2,rfl,ht1,ht2,hb7⟩;obtain⟨V7,hV7⟩:∃V7,(w7.alloc (.cells #[.slice (some ⟨h1,0,none⟩) 3 3,.slice (some ⟨h2,0,none⟩) 3 3] 111)).alloc (.cells #[.int .i64 0,.int .i64 0] 57)=V7:=⟨_,rfl⟩;obtain⟨q7,hq7⟩:∃q7,w7.heap.size=q7:=⟨_,rfl⟩;have hb7V:Below w7.heap.size w7 V7:=by rw[←hV7];exact Below.new2 w7 _ _
 have hb67:Below V6.heap.size V6 V7:=hb7.trans (hb7V.mono hb7.size);have hss:SB V7 q7 111 #[.slice (some ⟨h1,0,none⟩) 3 3,.slice (some ⟨h2,0,none⟩) 3 3]:=by rw[←hV7,←hq7];exact(SB.new w7 _ _).alloc _
 have hsf:SB V7 (q7+1) 57 #[.int .i64 0,.int .i64 0]:=by rw[←hV7,←hq7];exact Qax w7 _ _ _
 have s3:=HS3d.out.below hb67 HS3d.out.lt;have s4:=HS4c.out.below hb67 HS4c.out.lt;have k0:V7.cell? ⟨p2,0,none⟩=some (.int .i64 0):=s3.cell 0;have k1:V7.cell? ⟨p4,0,none⟩=some (.int .i64 0):=s4.cell 0;have k2:V7.cell? ⟨q7+1,0,none⟩=some (.int .i64 0):=hsf.cell 0;have k3:V7.cell? ⟨q7,0,none⟩=some (.slice (some ⟨h1,0,none⟩) 3 3):=hss.cell 0;have k4:V7.cell? ⟨q7,1,none⟩=some (.slice (some ⟨h2,0,none⟩) 3 3):=hss.cell 1;have HB7:=Hi (HB6.out.trans (hb67.mono HB6.out.size));obtain⟨V8,hV8⟩:∃V8,(V7.alloc (.cells #[.string ⟨#[49]⟩,.string ⟨#[45,49]⟩,.string ⟨#[49]⟩] 23)).alloc (.cells #[.string ⟨#[45,49]⟩,.string ⟨#[45,49]⟩,.string ⟨#[49]⟩] 23)=V8:=⟨_,rfl⟩;have hb78:Below V7.heap.size V7 V8:=by rw[←hV8];exact Below.new2 V7 _ _
 have t1:TLst V8 (some ⟨V7.heap.size,0,none⟩) [⟨#[49]⟩,⟨#[45,49]⟩,⟨#[49]⟩]:=by
  rw[←hV8];exact SB.texts (l:=[⟨#[49]⟩,⟨#[45,49]⟩,⟨#[49]⟩]) ((SB.new V7 23 _).alloc _)
 have t2:TLst V8 (some ⟨V7.heap.size+1,0,none⟩) [⟨#[45,49]⟩,⟨#[45,49]⟩,⟨#[49]⟩]:=by
  rw[←hV8];exact SB.texts (l:=[⟨#[45,49]⟩,⟨#[45,49]⟩,⟨#[49]⟩]) (Qax V7 _ 23 _)
 have HST:=Hi (Qj2 (some ⟨h1,0,none⟩) (some ⟨h2,0,none⟩) (some ⟨V7.heap.size,0,none⟩) (some ⟨V7.heap.size+1,0,none⟩) 3 3 3 3 [⟨#[49]⟩,⟨#[45,49]⟩,⟨#[49]⟩] [⟨#[45,49]⟩,⟨#[45,49]⟩,⟨#[49]⟩] V8 ((ht1.below hb7V).below hb78) ((ht2.below hb7V).below hb78) t1 t2 (by decide) (by decide));have HB8:=Hi (HB7.out.trans (hb78.mono HB7.out.size));rw[←hV7] at k0 k1;rw[←hV7,←hq7] at k2 k3 k4;have hz7:V7.heap.size=w7.heap.size+1+1:=by rw[←hV7];simp
 rw[hz7] at HST;have HV7:=Hi hV7;have HQ7:=Hi hq7;have HV8:=Hi hV8;clear ht1 ht2 hb7 hb7V hb67 hss hsf s3 s4 hb78 t1 t2 hV7 hq7 hV8 HCY hz7;go_wp2_with fail;rw[HV7.out,HV8.out];go_fit HST.out;rintro e w9 ⟨rfl,hb9⟩;have HB9:=Hi (HB8.out.trans (hb9.mono HB8.out.size));clear hb9 k0 k1 k2 k3 k4;go_wp2;go_ret;exact⟨rfl,HB9.out⟩
end Go.Proofs.YtbbkamnfjejceaaGreatDoor
namespace Go.Proofs.YtbbkamnfjejceaaGreatDoor
open Go.ChangeShapes Go.WideShapes Go.ChangeAt Go.RowKit
set_option linter.unusedVariables false
set_option linter.unusedSimpArgs false
theorem Qbm{s:ByteArray}{l:List UInt8}(h:s.data.toList=l):s=⟨l.toArray⟩:=by
 obtain⟨⟨m⟩⟩:=s;simp at h;subst h;rfl
theorem gSpot:Tryz.prog.globalNamed "rafter/raftersame.Spot" =some 1:=by kernel_rfl
theorem gSpotType:(Tryz.prog.globals[1]?).map (·.type)=some 25:=by kernel_rfl
theorem gBar:Tryz.prog.globalNamed "rafter/raftersame.Bar" =some 2:=by kernel_rfl
theorem gBarType:(Tryz.prog.globals[2]?).map (·.type)=some 68:=by kernel_rfl
theorem gHold:Tryz.prog.globalNamed "rafter/raftersame.Hold" =some 3:=by kernel_rfl
theorem gHoldType:(Tryz.prog.globals[3]?).map (·.type)=some 122:=by kernel_rfl
theorem Qpz{W:World}{rest:List (String × DataW Unit)}(h:laidMet Tryz.prog (("rafter/raftersame.Spot",Rows.laid_rafter_raftersame_Spot) :: rest) W):W.cell? ⟨1,0,none⟩=some (.string ⟨#[109,97,114,107]⟩)∧W.cell? ⟨1,1,none⟩=some (.string ⟨#[]⟩):=by
 obtain⟨ps,⟨g,t,cs,fuel,p,q,hg,ht,hvar,hd,_,_⟩,_⟩:=h;obtain rfl:=Option.some.inj (gSpot.symm.trans hg);obtain rfl:=Option.some.inj (gSpotType.symm.trans ht);obtain⟨x,y,hcs,hx,_⟩:=Qik Tryz.underlying25 Tryz.underlying23 Qfh Qb4 rfl rfl rfl rfl hd;simp only[Rows.laid_rafter_raftersame_Spot,DataW.agg.injEq,List.cons.injEq,DataW.lit.injEq,Lit.string.injEq,and_true] at hx;obtain⟨h0,h1⟩:=hx;have c:∀i,W.cell? ⟨1,i,none⟩=cs.toList[i]?:=fun i=>by rw[World.var?_cell gSpot hvar i];simp
 rw[hcs] at c;refine⟨?_,?_⟩
 · rw[c 0,←Qbm h0.symm];rfl
 · rw[c 1,←Qbm h1.symm];rfl
theorem Qp0{W:World}{rest:List (String × DataW Unit)}(h:laidMet Tryz.prog (("rafter/raftersame.Bar",Rows.laid_rafter_raftersame_Bar) :: rest) W):
 W.cell? ⟨2,0,none⟩=some (.int .i64 (-9))∧W.cell? ⟨2,1,none⟩=some (.int .i64 0)∧W.cell? ⟨2,2,none⟩=some (.string ⟨#[]⟩)∧W.cell? ⟨2,3,none⟩=some (.string ⟨#[]⟩)∧W.cell? ⟨2,4,none⟩=some (.string ⟨#[]⟩)∧W.cell? ⟨2,5,none⟩=some (.string ⟨#[]⟩):=by
 obtain⟨ps,⟨g,t,cs,fuel,p,q,hg,ht,hvar,hd,_,_⟩,_⟩:=h;obtain rfl:=Option.some.inj (gBar.symm.trans hg);obtain rfl:=Option.some.inj (gBarType.symm.trans ht);obtain⟨b,hcs,hx⟩:=Qii Tryz.underlying68 Tryz.underlying23 Tryz.underlying3 Qfj Qb4 cellsInt rfl rfl rfl rfl rfl rfl rfl rfl rfl rfl rfl rfl hd;simp only[Rows.laid_rafter_raftersame_Bar,barD,textD,DataW.agg.injEq,List.cons.injEq,DataW.lit.injEq,Lit.string.injEq,Lit.int.injEq,true_and,and_true] at hx;obtain⟨h0,h1,h2,h3,h4,h5⟩:=hx;have c:∀i,W.cell? ⟨2,i,none⟩=cs.toList[i]?:=fun i=>by rw[World.var?_cell gBar hvar i];simp
 rw[hcs] at c;refine⟨?_,?_,?_,?_,?_,?_⟩
 · rw[c 0,h0];rfl
 · rw[c 1,h1];rfl
 · rw[c 2,←Qbm h2.symm];rfl
 · rw[c 3,←Qbm h3.symm];rfl
 · rw[c 4,←Qbm h4.symm];rfl
 · rw[c 5,←Qbm h5.symm];rfl
theorem Qp1{W:World}{rest:List (String × DataW Unit)}(h:laidMet Tryz.prog (("rafter/raftersame.Hold",Rows.laid_rafter_raftersame_Hold) :: rest) W):W.cell? ⟨3,0,none⟩=some (.int .i64 (-9))∧W.cell? ⟨3,1,none⟩=some (.int .i64 0)∧W.cell? ⟨3,2,none⟩=some (.string ⟨#[]⟩):=by
 obtain⟨ps,⟨g,t,cs,fuel,p,q,hg,ht,hvar,hd,_,_⟩,_⟩:=h;obtain rfl:=Option.some.inj (gHold.symm.trans hg);obtain rfl:=Option.some.inj (gHoldType.symm.trans ht);obtain⟨b,hcs,hx⟩:=Qij Tryz.underlying122 Tryz.underlying23 Tryz.underlying3 Tryz.underlying3 Qfk Qb4 cellsInt cellsInt rfl rfl rfl rfl rfl rfl hd;simp only[Rows.laid_rafter_raftersame_Hold,holdD,textD,DataW.agg.injEq,List.cons.injEq,DataW.lit.injEq,Lit.string.injEq,Lit.int.injEq,true_and,and_true] at hx;obtain⟨h0,h1,h2⟩:=hx;have c:∀i,W.cell? ⟨3,i,none⟩=cs.toList[i]?:=fun i=>by rw[World.var?_cell gHold hvar i];simp
 rw[hcs] at c;refine⟨?_,?_,?_⟩
 · rw[c 0,h0];rfl
 · rw[c 1,h1];rfl
 · rw[c 2,←Qbm h2.symm];rfl
theorem Qp2{W:World}{rest:List (String × DataW Unit)}(h:laidMet Tryz.prog (("rafter/raftersame.Spot",Rows.laid_rafter_raftersame_Spot) :: ("rafter/raftersame.Bar",Rows.laid_rafter_raftersame_Bar) :: ("rafter/raftersame.Hold",Rows.laid_rafter_raftersame_Hold) :: rest) W):Marks3 W:=by
 obtain⟨s0,s1⟩:=Qpz h;obtain⟨b0,b1,b2,b3,b4,b5⟩:=Qp0 (Qa3 h);obtain⟨h0,h1,h2⟩:=Qp1 (Qa3 (Qa3 h));exact⟨s0,s1,b0,b1,b2,b3,b4,b5,h0,h1,h2⟩
namespace rigChecks
set_option maxRecDepth 100000 in
set_option maxHeartbeats 1000000 in
theorem Qp3(H:Type)(enc:TypeId × Value→H)(W:World)(base:Nat)(args:Array Value)(ds gs:List (DataW H))(before:List MemPlace)
 (hval:∀(j:Nat) t v,Tryz.f5.params[j]?=some t→args[j]?=some v→Value.okWide Tryz.prog W .any base t v)
 (hW:DataW.Whole enc Tryz.prog Tryz.f5.params.toList Rows.rigChecksSpec.vars false W args.toList ds gs before) (hk:Rows.uptoSmall H (ds++gs)=true) (hG:Glob W) (hM:Marks3 W):
 Calls Tryz.prog 5 args W fun e W'=>∃v,e=.returned v∧Rows.rigChecksSpec.post enc Tryz.prog Tryz.f5 false true false false W args v W':=by
 have hW':=hW;obtain⟨p,q,hA0,hV,rfl,hfz,hnd⟩:=hW;have hA:DataW.TrodAll enc Tryz.prog W 0 (fun _=>true) true Tryz.f5.params.toList args.toList ds p:=hA0;rw[Tryz.params5] at hA hval;obtain⟨v0,d0,rfl,rfl,h0⟩:=trodAll_one hA;obtain⟨rfl,rfl⟩:=trodVars_none hV;clear hA0;obtain⟨cs,rfl,hcs⟩:=okWide_struct Tryz.underlying54 (hval 0 54 v0 rfl rfl);unfold Rows.uptoSmall at hk;have hb:=of_decide_eq_true hk;rw[List.append_nil] at hb;obtain⟨a1,a2,a3,c1,c2,c3,js,bs,hs,rfl,hf,hz,n1,n2,n3,_⟩:=Qqd (Nat.le_trans (Qiw (by simp)) hb) h0;have hlt:∀x∈ p++ [],x.block<W.heap.size:=fun x hx=>hW'.lt x hx
 refine(Qmk (fun v hv=>Qj7 v hv) a1 a2 a3 c1 c2 c3 js bs hs W hG hM hf hz n1 n2 n3).mono ?_;rintro e W' ⟨rfl,hbel⟩;refine⟨_,rfl,[d0],[],p++ [],[],p++ [],[],hW',trodAll_cons_mk (shut_bool Tryz.underlying4 _) trodAll_mk0,?_,rfl,hbel.frame _,fun h=>by cases h⟩
 show DataW.TrodAll enc Tryz.prog W' 0 (fun b=>decide (b<W.heap.size)) true Tryz.f5.params.toList _ [d0] _
 rw[Tryz.params5];exact trodAll_cons_mk (Below.trod Qpr Qqb Qqc h0 hbel (fun x hx=>hlt x (by simp[hx]))) trodAll_mk0
theorem glob{W:World}(hL:laidMetH Tryz.prog Rows.rigChecksUptoRow.laid W)(hsh:W.ShapedOpen Tryz.prog):Glob W:=
 ⟨Qpy hsh,Qpx (Qa3 (Qa3 (show laidMet Tryz.prog Rows.rigChecksUptoRow.laid W from hL)))⟩
theorem mark{W:World}(hL:laidMetH Tryz.prog Rows.rigChecksUptoRow.laid W):Marks3 W:=
 Qp2 (Qa3 (Qa3 (Qa3 (Qa3 (show laidMet Tryz.prog Rows.rigChecksUptoRow.laid W from hL)))))
end rigChecks
def tabledF(w:World):World:=
 put 10 Rows.laid_math_bits_deBruijn32tab (put 11 Rows.laid_math_bits_deBruijn64tab (put 9 Rows.laid_internal_strconv_uint64pow10
  (put 6 Rows.laid_unicode_utf8_acceptRanges (put 5 Rows.laid_unicode_utf8_first (put 1 Rows.laid_rafter_raftersame_Spot (put 2 Rows.laid_rafter_raftersame_Bar (put 3 Rows.laid_rafter_raftersame_Hold w)))))))
end Go.Proofs.YtbbkamnfjejceaaGreatDoor
namespace Go.Proofs.YtbbkamnfjejceaaGreatDoor
namespace rigChecks
open Go.ChangeShapes Go.WideShapes Go.ChangeAt Go.RowKit
set_option linter.unusedVariables false
set_option linter.unusedSimpArgs false
theorem Qp5(os:Os):laidMet Tryz.prog Rows.rigChecksUptoRow.laid ((tabledF (World.holding Tryz.prog os ⟨#[],#[],[]⟩)).forCall (fun _ _=>0) ⟨#[],#[.agg #[.slice none 0 0,.slice none 0 0,.slice none 0 0]],[]⟩).memory:=
 laidMet_of_run' 8 (by kernel_rfl) (by kernel_rfl)
theorem reads(os:Os){H:Type}(enc:TypeId × Value→H):∃places,DataW.whole enc Tryz.prog ((tabledF (World.holding Tryz.prog os ⟨#[],#[],[]⟩)).forCall (fun _ _=>0) ⟨#[],#[.agg #[.slice none 0 0,.slice none 0 0,.slice none 0 0]],[]⟩).memory Tryz.f5.params.toList Rows.rigChecksSpec.vars false #[Value.agg #[.slice none 0 0,.slice none 0 0,.slice none 0 0]].toList 8=some ([.agg [.nil,.nil,.nil]],[],places):=
 ⟨[],by kernel_rfl⟩
set_option maxRecDepth 100000 in
theorem Qp6(os:Os)(started:os.Started)(H:Type)(enc:TypeId × Value→H)(F:Stop.Interp):
 ReturnsInHanded {} Tryz.checked os 5 .any ((Rows.OpenSpec.upto Rows.rigChecksSpec).preRow enc Tryz.prog Tryz.f5 Rows.rigChecksUptoRow.domain false Rows.rigChecksUptoRow.laid) (((Rows.OpenSpec.upto Rows.rigChecksSpec).at F).post enc Tryz.prog Tryz.f5 false true false false):=by
 obtain⟨places,hx⟩:=reads os enc;refine returnsInHanded_of_row (C:=Tryz.checked) (s:=Rows.OpenSpec.upto Rows.rigChecksSpec) own started (by kernel_rfl) Tryz.func5
  (witness_row_at (enc:=enc) (C:=Tryz.checked) false (tabledF (World.holding Tryz.prog os ⟨#[],#[],[]⟩)) #[.agg #[.slice none 0 0,.slice none 0 0,.slice none 0 0]] rfl (by kernel_rfl) (by kernel_rfl) (by kernel_rfl)
    (OpenSpec.preRow_of_cond 8 hx (by kernel_rfl) (fun k hk=>by cases hk;kernel_rfl) (by kernel_rfl) (Qp5 os))) ?_
 intro W base args ds gs before hval hW _ hcond _ hL hsh _;exact Qp3 H enc W base args ds gs before hval hW (hcond _ rfl) (glob hL hsh) (mark hL)
end rigChecks
namespace rigChecks
open Go.ChangeShapes Go.WideShapes Go.ChangeAt Go.RowKit
set_option linter.unusedVariables false
set_option linter.unusedSimpArgs false
set_option maxRecDepth 100000 in
set_option maxHeartbeats 4000000 in
theorem Qp4:joinedFacts Tryz.prog 5 Tryz.f5 (Rows.OpenSpec.upto Rows.rigChecksSpec).bare Rows.rigChecksUptoRow=true:=by
 unfold joinedFacts;simp only[Bool.and_eq_true]
 repeat' with_reducible apply And.intro
 all_goals (as_aux_lemma=>kernel_rfl)
theorem named:Tryz.prog.funcNamed Rows.rigChecksUptoRow.func=some 5:=by kernel_rfl
theorem said:Rows.RigChecksUptoSaid:=
 OpenClaim.holds_of_cond 5 Tryz.f5 rfl rfl rfl rfl rfl rfl rfl ⟨rfl,rfl,rfl,rfl,rfl⟩ rfl rfl rfl rfl rfl named Tryz.func5 Qp4
  (of_decide_eq_true (by kernel_rfl)) (by unfold Func.isWrapper;first|(rw [if_pos (by decide +kernel)];kernel_rfl)|(rw [if_neg (by decide +kernel)];exact⟨rfl,rfl⟩))
  (fun os started H enc _ F=>by rw[OpenClaim.pre_eq_preRow];exact Qp6 os started H enc F)
theorem plain(f:FuncId)(fn:Func)(hf:Tryz.pinned.checked.prog.funcNamed "rafter/rafterlaw.RigChecks" =some f)(hfn:Tryz.pinned.checked.prog.funcs[f]?=some fn):
 false=Tryz.pinned.checked.prog.looks []∧∀(j:Nat) t,fn.params[j]?=some t→Tryz.pinned.checked.prog.wantsStandIn t=false:=by
 obtain rfl:f=5:=Option.some.inj ((show Tryz.prog.funcNamed "rafter/rafterlaw.RigChecks" =some 5 by kernel_rfl).symm.trans hf) |>.symm;obtain rfl:fn=Tryz.f5:=(Option.some.inj (Tryz.func5.symm.trans hfn)).symm;refine⟨by kernel_rfl,fun j t ht=>?_⟩;rw[Tryz.params5] at ht;have:=Array.mem_of_getElem? ht;simp only[List.mem_toArray,List.mem_cons,List.not_mem_nil,or_false] at this;subst this;exact(show Tryz.prog.wantsStandIn 54=false by kernel_rfl)
end rigChecks
theorem rigChecks_upto:Rows.RigChecksUptoCardSaid:=
 Claim7.holds_tied_plain_at .later [] _ _ _ _ rigChecks.said (fun _ h=>by cases h) (by kernel_rfl) (fun _ h=>by cases h) rigChecksUpto_row_tie rfl ⟨rfl,rfl⟩ (by kernel_rfl) rfl rigChecks.plain (by kernel_rfl)
end Go.Proofs.YtbbkamnfjejceaaGreatDoor
