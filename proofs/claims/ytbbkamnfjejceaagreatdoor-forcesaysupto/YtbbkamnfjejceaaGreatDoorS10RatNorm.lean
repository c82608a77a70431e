/- rafterbig's Rat: norm, where what is below the bar is above 0. -/
import Derived.Test.YtbbkamnfjejceaaGreatDoorS09IntSet
namespace Go.Proofs.YtbbkamnfjejceaaGreatDoor
open Go.RowKit
set_option linter.unusedVariables false
structure RatAt (w:World) (b:Nat) (P D:Int) (a1:Option Addr) (c1:Nat) (l1:List Nat) (a2:Option Addr) (c2:Nat) (l2:List Nat):Prop where
 sb:SB w b 98 #[.bool (decide (P<0)),.slice a1 l1.length c1,.bool (decide (D<0)),.slice a2 l2.length c2]
 num:U32 w a1 c1 l1 P.natAbs
 den:U32 w a2 c2 l2 D.natAbs
theorem Qal(n1 n2:Bool)(a1 a2:Option Addr)(m1 m2 c1 c2:Nat):NoInt #[Value.bool n1,Value.slice a1 m1 c1,Value.bool n2,Value.slice a2 m2 c2]:=by
 intro i k n
 match i with
 |0=>simp
 |1=>simp
 |2=>simp
 |3=>simp
 |i+4=>simp
theorem RatAt.below{w w':World}{b:Nat}{P D:Int}{a1 a2:Option Addr}{c1 c2:Nat}{l1 l2:List Nat}(h:RatAt w b P D a1 c1 l1 a2 c2 l2)(hb:Below w.heap.size w w'):RatAt w' b P D a1 c1 l1 a2 c2 l2:=
 ⟨h.sb.below hb h.sb.lt,h.num.below hb,h.den.below hb⟩
theorem RatAt.drew{w:World}{b:Nat}{P D:Int}{a1 a2:Option Addr}{c1 c2:Nat}{l1 l2:List Nat}(h:RatAt w b P D a1 c1 l1 a2 c2 l2):RatAt w.drew b P D a1 c1 l1 a2 c2 l2:=h.below (Below.refl _ _).drew
theorem RatAt.c0{w:World}{b:Nat}{P D:Int}{a1 a2:Option Addr}{c1 c2:Nat}{l1 l2:List Nat}(h:RatAt w b P D a1 c1 l1 a2 c2 l2):w.cell? ⟨b,0,none⟩=some (.bool (decide (P<0))):=by rw[h.sb.cell];rfl
theorem RatAt.c1{w:World}{b:Nat}{P D:Int}{a1 a2:Option Addr}{c1 c2:Nat}{l1 l2:List Nat}(h:RatAt w b P D a1 c1 l1 a2 c2 l2):w.cell? ⟨b,1,none⟩=some (.slice a1 l1.length c1):=by rw[h.sb.cell];rfl
theorem RatAt.c2{w:World}{b:Nat}{P D:Int}{a1 a2:Option Addr}{c1 c2:Nat}{l1 l2:List Nat}(h:RatAt w b P D a1 c1 l1 a2 c2 l2):w.cell? ⟨b,2,none⟩=some (.bool (decide (D<0))):=by rw[h.sb.cell];rfl
theorem RatAt.c3{w:World}{b:Nat}{P D:Int}{a1 a2:Option Addr}{c1 c2:Nat}{l1 l2:List Nat}(h:RatAt w b P D a1 c1 l1 a2 c2 l2):w.cell? ⟨b,3,none⟩=some (.slice a2 l2.length c2):=by rw[h.sb.cell];rfl
theorem RatAt.upper{w:World}{b:Nat}{P D:Int}{a1 a2:Option Addr}{c1 c2:Nat}{l1 l2:List Nat}(h:RatAt w b P D a1 c1 l1 a2 c2 l2):IntAt w b 0 P a1 c1 l1:=⟨h.c0,h.c1,h.num,h.sb.lt⟩
theorem RatAt.lower{w:World}{b:Nat}{P D:Int}{a1 a2:Option Addr}{c1 c2:Nat}{l1 l2:List Nat}(h:RatAt w b P D a1 c1 l1 a2 c2 l2):IntAt w b 2 D a2 c2 l2:=⟨h.c2,h.c3,h.den,h.sb.lt⟩
def RatOk(w:World)(b:Nat)(q:Rat)(e:Ending)(w':World):Prop:=
 e=.returned (.pointer (some ⟨b,0,none⟩))∧Only b w w'∧∃a1 c1 l1 a2 c2 l2,RatAt w' b q.num q.den a1 c1 l1 a2 c2 l2
theorem RatOk.of{w w1 w':World}{b:Nat}{q:Rat}{e:Ending}(h:Only b w w1)(k:RatOk w1 b q e w'):RatOk w b q e w':=⟨k.1,h.trans k.2.1,k.2.2⟩
theorem Qc2{l:List Nat}(h:Num 4294967296 l 1):l= [1]:=h.inj (by decide) ⟨fun d hd=>by simp at hd;omega,.inr (by simp),by simp[val]⟩
set_option maxRecDepth 100000 in
set_option maxHeartbeats 1000000 in
theorem Qnd(b:Nat)(D:Int)(a1 a2:Option Addr)(c1 c2:Nat)(l1 l2:List Nat)(w:World)(h:RatAt w b 0 D a1 c1 l1 a2 c2 l2)(hD:0<D):
 Calls Tryz.prog 117 #[.pointer (some ⟨b,0,none⟩)] w (RatOk w b 0):=by
 have k0:=h.c0;have k1:=h.c1;have k2:=h.c2;have k3:=h.c3;have hD0:decide (D<0)=false:=by simp;omega
 have hP0:decide ((0:Int)<0)=false:=by simp
 rw[hD0] at k2;have q1:((l2.length:Int) == 0)=false:=by
  rw[beq_eq_false_iff_ne];have:=(h.den.num.len_zero (by decide)).2;omega
 have q2:((l1.length:Int) == 0)=true:=by
  have:=(h.num.num.len_zero (by decide)).1 rfl;simp[this]
 have H:=Hi h;clear h hD0;go_enter Tryz.func117,Tryz.ntmps117;go_wp2_with fail;refine(Qft b 2 98 _ 1 _ H.out.sb (Qal _ _ _ _ _ _ _ _) (by simp) (by decide) (by decide)).mono ?_;rintro e w1 ⟨rfl,a,cap,l,hl⟩;go_wp2;go_ret;refine⟨rfl,hl.only,a1,c1,l1,a,cap,l,?_,?_,hl.num⟩
 · have:=hl.sb
   simpa [putInt] using this
 · exact H.out.num.only hl.only H.out.sb (Qal _ _ _ _ _ _ _ _)
set_option maxRecDepth 100000 in
set_option maxHeartbeats 1000000 in
theorem Qne(b:Nat)(P:Int)(a1 a2:Option Addr)(c1 c2:Nat)(l1 l2:List Nat)(w:World)(h:RatAt w b P 1 a1 c1 l1 a2 c2 l2)(hP:P≠0):
 Calls Tryz.prog 117 #[.pointer (some ⟨b,0,none⟩)] w (RatOk w b (P:Rat)):=by
 have hl2:l2= [1]:=Qc2 h.den.num;subst hl2;have k0:=h.c0;have k1:=h.c1;have k2:=h.c2;have k3:=h.c3;obtain⟨b',o',rfl,hb',hc'⟩:=h.den.row.cell 0 (by simp);have hc':w.cell? ⟨b',o',none⟩=some (.int .u32 1):=by simpa using hc'
 have hD0:decide ((1:Int)<0)=false:=by simp
 rw[hD0] at k2;simp only[List.length_singleton] at k3;have q2:((l1.length:Int) == 0)=false:=by
  rw[beq_eq_false_iff_ne];have:=(h.num.num.len_zero (by decide)).2;omega
 have H:=Hi h;clear h hD0;go_enter Tryz.func117,Tryz.ntmps117;go_wp2;go_ret;exact⟨rfl,Only.refl _ _,_,_,_,_,_,_,H.out⟩
theorem Qhb{P D:Int}(hD:0<D)(hg:Nat.gcd P.natAbs D.natAbs=1):(mkRat P D.natAbs).num=P∧(((mkRat P D.natAbs).den:Nat):Int)=D:=by
 rw[Rat.num_mkRat,Rat.den_mkRat,if_neg (by omega),if_neg (by omega),Nat.gcd_comm,hg];constructor
 · simp
 · simp;omega
theorem Qc3(P:Int)(g:Nat)(hg:0<g)(hd:g ∣ P.natAbs):(P / (g:Int)).natAbs=P.natAbs / g:=by
 rw[Int.natAbs_ediv_of_dvd (Int.ofNat_dvd_left.2 hd),Int.natAbs_natCast]
theorem Qc4(P:Int)(g:Nat)(hg:0<g)(hd:g ∣ P.natAbs):decide (P / (g:Int)<0)=decide (P<0):=by
 apply decide_eq_decide.2;obtain⟨k,hk⟩:=Int.ofNat_dvd_left.2 hd;have hg':(0:Int)<(g:Int):=by omega
 rw[hk,Int.mul_ediv_cancel_left _ (by omega)];constructor
 · intro h
   exact Int.mul_neg_of_pos_of_neg hg' h
 ·
  intro h;apply Classical.byContradiction;intro hc;have:=Int.mul_nonneg (Int.le_of_lt hg') (show 0≤k by omega);omega
theorem Qc5{P D:Int}{g:Nat}(hD:0<D)(hg:Nat.gcd P.natAbs D.natAbs=g):(mkRat P D.natAbs).num=P / (g:Int)∧(mkRat P D.natAbs).den=D.natAbs / g:=by
 rw[Rat.num_mkRat,Rat.den_mkRat,if_neg (by omega),if_neg (by omega),Nat.gcd_comm,hg];exact⟨rfl,rfl⟩
theorem Qhc{l:List Nat}{g:Nat}(h:Num 4294967296 l g)(hg:g≠1):((l.length:Int) == 1)=false∨∃d,l= [d]∧d≠1:=by
 by_cases hl:l.length=1
 ·
  right
  match l,hl,h with
  | [d],_,h=>
    refine⟨d,rfl,?_⟩;have:=h.eq;simp[val] at this;omega
 · left;rw[beq_eq_false_iff_ne];omega
set_option maxRecDepth 100000 in
set_option maxHeartbeats 4000000 in
theorem Qnf(b:Nat)(P D:Int)(a1 a2:Option Addr)(c1 c2:Nat)(l1 l2:List Nat)(w:World)(h:RatAt w b P D a1 c1 l1 a2 c2 l2)(hP:P≠0)(hD:0<D)(hD1:D≠1)(hb1:l1.length<1099511627770)(hb2:l2.length<1099511627770):
 Calls Tryz.prog 117 #[.pointer (some ⟨b,0,none⟩)] w (RatOk w b (mkRat P D.natAbs)):=by
 have k0:=h.c0;have k1:=h.c1;have k2:=h.c2;have k3:=h.c3;have hD0:decide (D<0)=false:=by simp;omega
 rw[hD0] at k2;have q1:((l2.length:Int) == 0)=false:=by
  rw[beq_eq_false_iff_ne];have:=(h.den.num.len_zero (by decide)).2;omega
 have q2:((l1.length:Int) == 0)=false:=by
  rw[beq_eq_false_iff_ne];have:=(h.num.num.len_zero (by decide)).2;omega
 by_cases hl:l2.length=1
 ·
  obtain⟨d,rfl⟩:∃d,l2= [d]:=by
   match l2,hl with
   | [d],_=>exact⟨d,rfl⟩
  have hd:d≠1:=by
   have:=h.den.num.eq;simp[val] at this;omega
  obtain⟨b',o',rfl,hb',hc'⟩:=h.den.row.cell 0 (by simp);have hc':w.cell? ⟨b',o',none⟩=some (.int .u32 (d:Int)):=by simpa using hc'
  have hq3:((d:Int) == 1)=false:=by rw[beq_eq_false_iff_ne];omega
  simp only[List.length_singleton] at k3 q1;have H:=Hi h;have HG:=Hi (Qes a1 (some ⟨b',o',none⟩) c1 c2 l1 ([d]) P.natAbs D.natAbs w.drew h.num.drew h.den.drew (by omega) (by omega));have hlt:=h.sb.lt;clear h hD0;go_enter Tryz.func117,Tryz.ntmps117;go_wp2;go_region_held3 (fun w'=>w'.cell? ⟨b,1,none⟩=some (.slice a1 l1.length c1)∧w'.cell? ⟨b,3,none⟩=some (.slice (some ⟨b',o',none⟩) (1) c2)) ((simp [*]))
   (first
     |(go_at_call 171;refine HG.out.mono ?_;rintro e w1 ⟨⟨ag,cg,rg,rfl,hug⟩,hb1⟩;have d1:=(hb1.cell (p:=⟨b,1,none⟩) hlt).trans k1;have d3:=(hb1.cell (p:=⟨b,3,none⟩) hlt).trans k3;have HU:=Hi hug;have HB:=Hi ((Below.refl w.heap.size w).drew.trans hb1);clear hug hb1))
  clear k0 k1 k2 k3 HG hc' hq3;obtain⟨g,hg⟩:∃g,Nat.gcd P.natAbs D.natAbs=g:=⟨_,rfl⟩;have hug:=HU.out;rw[hg] at hug;have HUG:=Hi hug;have HGE:=Hi hg;have hg0:0<g:=by rw[←hg];exact Nat.gcd_pos_of_pos_right _ (by omega)
  have H1:=H.out.below HB.out;have hgl:rg.length≤([d]).length:=hug.len_mono H.out.den (by rw[←hg];exact Nat.le_of_dvd (by omega) (Nat.gcd_dvd_right _ _));clear HU;by_cases hg1:g=1
  ·
   subst hg1;have hrg:rg= [1]:=Qc2 hug.num;subst hrg;obtain⟨bg,og,rfl,hbg,hcg⟩:=hug.row.cell 0 (by simp);have hcg:w1.cell? ⟨bg,og,none⟩=some (.int .u32 1):=by simpa using hcg
   clear hug hg H1;go_wp2;go_ret;obtain⟨e1,e2⟩:=Qhb (P:=P) hD HGE.out;refine RatOk.of (Only.of_below HB.out) ⟨rfl,Only.refl _ _,a1,c1,l1,some ⟨b',o',none⟩,c2,[d],?_⟩;rw[e1,e2];exact H.out.below HB.out
  ·
   have hdv1:g ∣ P.natAbs:=by rw[←hg];exact Nat.gcd_dvd_left _ _
   have HD1:=Hi (Qa5 a1 ag c1 cg l1 rg P.natAbs g w1 H1.num hug hg0 (by omega));rcases Qhc hug.num hg1 with hq5|⟨dd,rfl,hd1⟩
   ·
    clear hug hg H1;go_wp2_with fail;refine HD1.out.mono ?_;rintro e w2 ⟨⟨aq,cq,rq,ar,cr,rr,rfl,hq,hr⟩,hb2⟩;have H2:=(H.out.below HB.out).below hb2;have d3':=H2.c3;have HQ:=Hi hq;have HB2:=Hi hb2;have HD2:=Hi (Qa5 (some ⟨b',o',none⟩) _ c2 cg ([d]) _ D.natAbs g w2 H2.den (HUG.out.below hb2) hg0 (by omega));clear hq hr hb2 H2;go_wp2_with fail;refine HD2.out.mono ?_;rintro e w3 ⟨⟨as1,cs,rs,at',ct,rt,rfl,hs,ht⟩,hb3⟩;have H3:=((H.out.below HB.out).below HB2.out).below hb3;have f1:=H3.sb.free 1;have f3:=H3.sb.free 3;have f1':=H3.c1;have f3':=H3.c3;have HS:=Hi hs;have HB3:=Hi hb3;have HH3:=Hi H3;clear hs ht hb3 H3;go_wp2;go_ret;have ho:Only b w3 ((w3.setCell ⟨b,1,none⟩ (.slice aq rq.length cq)).setCell ⟨b,3,none⟩ (.slice as1 rs.length cs)):=((Only.refl b w3).setCell _ _).setCell _ _;have hdv2:g ∣ D.natAbs:=by rw[←HGE.out];exact Nat.gcd_dvd_right _ _
    obtain⟨e1,e2⟩:=Qc5 (P:=P) hD HGE.out;refine RatOk.of (Only.of_below (HB.out.trans ((HB2.out.mono HB.out.size).trans (HB3.out.mono (Nat.le_trans HB.out.size HB2.out.size))))) ⟨rfl,ho,aq,cq,rq,as1,cs,rs,?_,?_,?_⟩
    ·
     have:=(HH3.out.sb.set 1 (.slice aq rq.length cq)).set 3 (.slice as1 rs.length cs);have en:decide ((((mkRat P D.natAbs).den:Nat):Int)<0)=decide (D<0):=by
      apply decide_eq_decide.2;omega
     rw[e1,Qc4 P g hg0 hdv1,en]
     simpa using this
    · rw[e1,Qc3 P g hg0 hdv1]
      exact(HQ.out.below HB3.out).only ho HH3.out.sb (Qal _ _ _ _ _ _ _ _)
    · rw[e2,Int.natAbs_natCast]
      exact HS.out.only ho HH3.out.sb (Qal _ _ _ _ _ _ _ _)
   ·
    obtain⟨bg,og,rfl,hbg,hcg⟩:=hug.row.cell 0 (by simp);have hcg:w1.cell? ⟨bg,og,none⟩=some (.int .u32 (dd:Int)):=by simpa using hcg
    have hq6:((dd:Int) == 1)=false:=by rw[beq_eq_false_iff_ne];omega
    clear hug hg H1;go_wp2_with fail;refine HD1.out.mono ?_;rintro e w2 ⟨⟨aq,cq,rq,ar,cr,rr,rfl,hq,hr⟩,hb2⟩;have H2:=(H.out.below HB.out).below hb2;have d3':=H2.c3;have HQ:=Hi hq;have HB2:=Hi hb2;have HD2:=Hi (Qa5 (some ⟨b',o',none⟩) _ c2 cg ([d]) _ D.natAbs g w2 H2.den (HUG.out.below hb2) hg0 (by omega));clear hq hr hb2 H2;go_wp2_with fail;refine HD2.out.mono ?_;rintro e w3 ⟨⟨as1,cs,rs,at',ct,rt,rfl,hs,ht⟩,hb3⟩;have H3:=((H.out.below HB.out).below HB2.out).below hb3;have f1:=H3.sb.free 1;have f3:=H3.sb.free 3;have f1':=H3.c1;have f3':=H3.c3;have HS:=Hi hs;have HB3:=Hi hb3;have HH3:=Hi H3;clear hs ht hb3 H3;go_wp2;go_ret;have ho:Only b w3 ((w3.setCell ⟨b,1,none⟩ (.slice aq rq.length cq)).setCell ⟨b,3,none⟩ (.slice as1 rs.length cs)):=((Only.refl b w3).setCell _ _).setCell _ _;have hdv2:g ∣ D.natAbs:=by rw[←HGE.out];exact Nat.gcd_dvd_right _ _
    obtain⟨e1,e2⟩:=Qc5 (P:=P) hD HGE.out;refine RatOk.of (Only.of_below (HB.out.trans ((HB2.out.mono HB.out.size).trans (HB3.out.mono (Nat.le_trans HB.out.size HB2.out.size))))) ⟨rfl,ho,aq,cq,rq,as1,cs,rs,?_,?_,?_⟩
    ·
     have:=(HH3.out.sb.set 1 (.slice aq rq.length cq)).set 3 (.slice as1 rs.length cs);have en:decide ((((mkRat P D.natAbs).den:Nat):Int)<0)=decide (D<0):=by
      apply decide_eq_decide.2;omega
     rw[e1,Qc4 P g hg0 hdv1,en]
     simpa using this
    · rw[e1,Qc3 P g hg0 hdv1]
      exact(HQ.out.below HB3.out).only ho HH3.out.sb (Qal _ _ _ _ _ _ _ _)
    · rw[e2,Int.natAbs_natCast]
      exact HS.out.only ho HH3.out.sb (Qal _ _ _ _ _ _ _ _)
 ·
  have hq3:((l2.length:Int) == 1)=false:=by rw[beq_eq_false_iff_ne];omega
  have H:=Hi h;have HG:=Hi (Qes a1 (a2) c1 c2 l1 (l2) P.natAbs D.natAbs w.drew h.num.drew h.den.drew (by omega) (by omega));have hlt:=h.sb.lt;clear h hD0;go_enter Tryz.func117,Tryz.ntmps117;go_wp2;go_region_held3 (fun w'=>w'.cell? ⟨b,1,none⟩=some (.slice a1 l1.length c1)∧w'.cell? ⟨b,3,none⟩=some (.slice (a2) (l2.length) c2)) ((simp [*]))
   (first
     |(go_at_call 171;refine HG.out.mono ?_;rintro e w1 ⟨⟨ag,cg,rg,rfl,hug⟩,hb1⟩;have d1:=(hb1.cell (p:=⟨b,1,none⟩) hlt).trans k1;have d3:=(hb1.cell (p:=⟨b,3,none⟩) hlt).trans k3;have HU:=Hi hug;have HB:=Hi ((Below.refl w.heap.size w).drew.trans hb1);clear hug hb1))
  clear k0 k1 k2 k3 HG hq3;obtain⟨g,hg⟩:∃g,Nat.gcd P.natAbs D.natAbs=g:=⟨_,rfl⟩;have hug:=HU.out;rw[hg] at hug;have HUG:=Hi hug;have HGE:=Hi hg;have hg0:0<g:=by rw[←hg];exact Nat.gcd_pos_of_pos_right _ (by omega)
  have H1:=H.out.below HB.out;have hgl:rg.length≤(l2).length:=hug.len_mono H.out.den (by rw[←hg];exact Nat.le_of_dvd (by omega) (Nat.gcd_dvd_right _ _));clear HU;by_cases hg1:g=1
  ·
   subst hg1;have hrg:rg= [1]:=Qc2 hug.num;subst hrg;obtain⟨bg,og,rfl,hbg,hcg⟩:=hug.row.cell 0 (by simp);have hcg:w1.cell? ⟨bg,og,none⟩=some (.int .u32 1):=by simpa using hcg
   clear hug hg H1;go_wp2;go_ret;obtain⟨e1,e2⟩:=Qhb (P:=P) hD HGE.out;refine RatOk.of (Only.of_below HB.out) ⟨rfl,Only.refl _ _,a1,c1,l1,a2,c2,l2,?_⟩;rw[e1,e2];exact H.out.below HB.out
  ·
   have hdv1:g ∣ P.natAbs:=by rw[←hg];exact Nat.gcd_dvd_left _ _
   have HD1:=Hi (Qa5 a1 ag c1 cg l1 rg P.natAbs g w1 H1.num hug hg0 (by omega));rcases Qhc hug.num hg1 with hq5|⟨dd,rfl,hd1⟩
   ·
    clear hug hg H1;go_wp2_with fail;refine HD1.out.mono ?_;rintro e w2 ⟨⟨aq,cq,rq,ar,cr,rr,rfl,hq,hr⟩,hb2⟩;have H2:=(H.out.below HB.out).below hb2;have d3':=H2.c3;have HQ:=Hi hq;have HB2:=Hi hb2;have HD2:=Hi (Qa5 (a2) _ c2 cg (l2) _ D.natAbs g w2 H2.den (HUG.out.below hb2) hg0 (by omega));clear hq hr hb2 H2;go_wp2_with fail;refine HD2.out.mono ?_;rintro e w3 ⟨⟨as1,cs,rs,at',ct,rt,rfl,hs,ht⟩,hb3⟩;have H3:=((H.out.below HB.out).below HB2.out).below hb3;have f1:=H3.sb.free 1;have f3:=H3.sb.free 3;have f1':=H3.c1;have f3':=H3.c3;have HS:=Hi hs;have HB3:=Hi hb3;have HH3:=Hi H3;clear hs ht hb3 H3;go_wp2;go_ret;have ho:Only b w3 ((w3.setCell ⟨b,1,none⟩ (.slice aq rq.length cq)).setCell ⟨b,3,none⟩ (.slice as1 rs.length cs)):=((Only.refl b w3).setCell _ _).setCell _ _;have hdv2:g ∣ D.natAbs:=by rw[←HGE.out];exact Nat.gcd_dvd_right _ _
    obtain⟨e1,e2⟩:=Qc5 (P:=P) hD HGE.out;refine RatOk.of (Only.of_below (HB.out.trans ((HB2.out.mono HB.out.size).trans (HB3.out.mono (Nat.le_trans HB.out.size HB2.out.size))))) ⟨rfl,ho,aq,cq,rq,as1,cs,rs,?_,?_,?_⟩
    ·
     have:=(HH3.out.sb.set 1 (.slice aq rq.length cq)).set 3 (.slice as1 rs.length cs);have en:decide ((((mkRat P D.natAbs).den:Nat):Int)<0)=decide (D<0):=by
      apply decide_eq_decide.2;omega
     rw[e1,Qc4 P g hg0 hdv1,en]
     simpa using this
    · rw[e1,Qc3 P g hg0 hdv1]
      exact(HQ.out.below HB3.out).only ho HH3.out.sb (Qal _ _ _ _ _ _ _ _)
    · rw[e2,Int.natAbs_natCast]
      exact HS.out.only ho HH3.out.sb (Qal _ _ _ _ _ _ _ _)
   ·
    obtain⟨bg,og,rfl,hbg,hcg⟩:=hug.row.cell 0 (by simp);have hcg:w1.cell? ⟨bg,og,none⟩=some (.int .u32 (dd:Int)):=by simpa using hcg
    have hq6:((dd:Int) == 1)=false:=by rw[beq_eq_false_iff_ne];omega
    clear hug hg H1;go_wp2_with fail;refine HD1.out.mono ?_;rintro e w2 ⟨⟨aq,cq,rq,ar,cr,rr,rfl,hq,hr⟩,hb2⟩;have H2:=(H.out.below HB.out).below hb2;have d3':=H2.c3;have HQ:=Hi hq;have HB2:=Hi hb2;have HD2:=Hi (Qa5 (a2) _ c2 cg (l2) _ D.natAbs g w2 H2.den (HUG.out.below hb2) hg0 (by omega));clear hq hr hb2 H2;go_wp2_with fail;refine HD2.out.mono ?_;rintro e w3 ⟨⟨as1,cs,rs,at',ct,rt,rfl,hs,ht⟩,hb3⟩;have H3:=((H.out.below HB.out).below HB2.out).below hb3;have f1:=H3.sb.free 1;have f3:=H3.sb.free 3;have f1':=H3.c1;have f3':=H3.c3;have HS:=Hi hs;have HB3:=Hi hb3;have HH3:=Hi H3;clear hs ht hb3 H3;go_wp2;go_ret;have ho:Only b w3 ((w3.setCell ⟨b,1,none⟩ (.slice aq rq.length cq)).setCell ⟨b,3,none⟩ (.slice as1 rs.length cs)):=((Only.refl b w3).setCell _ _).setCell _ _;have hdv2:g ∣ D.natAbs:=by rw[←HGE.out];exact Nat.gcd_dvd_right _ _
    obtain⟨e1,e2⟩:=Qc5 (P:=P) hD HGE.out;refine RatOk.of (Only.of_below (HB.out.trans ((HB2.out.mono HB.out.size).trans (HB3.out.mono (Nat.le_trans HB.out.size HB2.out.size))))) ⟨rfl,ho,aq,cq,rq,as1,cs,rs,?_,?_,?_⟩
    ·
     have:=(HH3.out.sb.set 1 (.slice aq rq.length cq)).set 3 (.slice as1 rs.length cs);have en:decide ((((mkRat P D.natAbs).den:Nat):Int)<0)=decide (D<0):=by
      apply decide_eq_decide.2;omega
     rw[e1,Qc4 P g hg0 hdv1,en]
     simpa using this
    · rw[e1,Qc3 P g hg0 hdv1]
      exact(HQ.out.below HB3.out).only ho HH3.out.sb (Qal _ _ _ _ _ _ _ _)
    · rw[e2,Int.natAbs_natCast]
      exact HS.out.only ho HH3.out.sb (Qal _ _ _ _ _ _ _ _)
end Go.Proofs.YtbbkamnfjejceaaGreatDoor
