/- A bag of what is known of a world: new Ints that nothing was laid in yet, and Ints and Rats; each method of Int gives a bag again, in whatever order new Ints are made. -/
import Derived.Test.YtldjeecnapgakaaGreatDoorV06IntSet
namespace Go.Proofs.YtldjeecnapgakaaGreatDoor
open Go.RowKit
open Go.Proofs.Tryz
set_option linter.unusedSimpArgs false
set_option linter.unusedVariables false
set_option maxHeartbeats 8000000
set_option maxRecDepth 1000000
structure RatAt (w:World) (b:Nat) (P D:Int) (a1:Option Addr) (c1:Nat) (l1:List Nat) (a2:Option Addr) (c2:Nat) (l2:List Nat):Prop where
 sb:SB w b 101 #[.bool (decide (P<0)),.slice a1 l1.length c1,.bool (decide (D<0)),.slice a2 l2.length c2]
 num:U32 w a1 c1 l1 P.natAbs
 den:U32 w a2 c2 l2 D.natAbs
theorem Qad(n1 n2:Bool)(a1 a2:Option Addr)(m1 m2 c1 c2:Nat):NoInt #[Value.bool n1,Value.slice a1 m1 c1,Value.bool n2,Value.slice a2 m2 c2]:=by
 intro i k n
 match i with
 |0=>simp
 |1=>simp
 |2=>simp
 |3=>simp
 |i+4=>simp
theorem RatAt.below{w w':World}{b:Nat}{P D:Int}{a1 a2:Option Addr}{c1 c2:Nat}{l1 l2:List Nat}(h:RatAt w b P D a1 c1 l1 a2 c2 l2)(hb:Below w.heap.size w w'):RatAt w' b P D a1 c1 l1 a2 c2 l2:=
 ⟨h.sb.below hb h.sb.lt,h.num.below hb,h.den.below hb⟩
theorem RatAt.drew{w:World}{b:Nat}{P D:Int}{a1 a2:Option Addr}{c1 c2:Nat}{l1 l2:List Nat}(h:RatAt w b P D a1 c1 l1 a2 c2 l2):RatAt w.drew b P D a1 c1 l1 a2 c2 l2:=h.below bR.drew
theorem RatAt.c0{w:World}{b:Nat}{P D:Int}{a1 a2:Option Addr}{c1 c2:Nat}{l1 l2:List Nat}(h:RatAt w b P D a1 c1 l1 a2 c2 l2):w.cell? ⟨b,0,none⟩=some (.bool (decide (P<0))):=by rw[h.sb.cell];rfl
theorem RatAt.c1{w:World}{b:Nat}{P D:Int}{a1 a2:Option Addr}{c1 c2:Nat}{l1 l2:List Nat}(h:RatAt w b P D a1 c1 l1 a2 c2 l2):w.cell? ⟨b,1,none⟩=some (.slice a1 l1.length c1):=by rw[h.sb.cell];rfl
theorem RatAt.c2{w:World}{b:Nat}{P D:Int}{a1 a2:Option Addr}{c1 c2:Nat}{l1 l2:List Nat}(h:RatAt w b P D a1 c1 l1 a2 c2 l2):w.cell? ⟨b,2,none⟩=some (.bool (decide (D<0))):=by rw[h.sb.cell];rfl
theorem RatAt.c3{w:World}{b:Nat}{P D:Int}{a1 a2:Option Addr}{c1 c2:Nat}{l1 l2:List Nat}(h:RatAt w b P D a1 c1 l1 a2 c2 l2):w.cell? ⟨b,3,none⟩=some (.slice a2 l2.length c2):=by rw[h.sb.cell];rfl
theorem RatAt.upper{w:World}{b:Nat}{P D:Int}{a1 a2:Option Addr}{c1 c2:Nat}{l1 l2:List Nat}(h:RatAt w b P D a1 c1 l1 a2 c2 l2):IntAt w b 0 P a1 c1 l1:=⟨h.c0,h.c1,h.num,h.sb.lt⟩
theorem RatAt.lower{w:World}{b:Nat}{P D:Int}{a1 a2:Option Addr}{c1 c2:Nat}{l1 l2:List Nat}(h:RatAt w b P D a1 c1 l1 a2 c2 l2):IntAt w b 2 D a2 c2 l2:=⟨h.c2,h.c3,h.den,h.sb.lt⟩
def RatOk(w:World)(b:Nat)(q:Rat)(e:Ending)(w':World):Prop:=
 e=.returned (.pointer (some ⟨b,0,none⟩))/\Only b w w'/\∃a1 c1 l1 a2 c2 l2,RatAt w' b q.num q.den a1 c1 l1 a2 c2 l2
theorem RatOk.of{w w1 w':World}{b:Nat}{q:Rat}{e:Ending}(h:Only b w w1)(k:RatOk w1 b q e w'):RatOk w b q e w':=⟨k.1,h.trans k.2.1,k.2.2⟩
theorem Qbw{l:List Nat}(h:Num 4294967296 l 1):l= [1]:=h.inj (by decide) ⟨fun d hd=>by simp at hd;omega,.inr (by simp),by simp[val]⟩
theorem Qrh(b:Nat)(D:Int)(a1 a2:Option Addr)(c1 c2:Nat)(l1 l2:List Nat)(w:World)(h:RatAt w b 0 D a1 c1 l1 a2 c2 l2)(hD:0<D):
 Calls prog 108 #[.pointer (some ⟨b,0,none⟩)] w (RatOk w b 0):=by
 have k0:=h.c0;have k1:=h.c1;have k2:=h.c2;have k3:=h.c3;have hD0:decide (D<0)=false:=by simp;omega
 have hP0:decide ((0:Int)<0)=false:=by simp
 rw[hD0] at k2;have q1:((l2.length:Int) == 0)=false:=by
  rw[beq_eq_false_iff_ne];have:=(h.den.num.len_zero (by decide)).2;omega
 have q2:((l1.length:Int) == 0)=true:=by
  have:=(h.num.num.len_zero (by decide)).1 rfl;simp[this]
 have H:=Hi h;clear h hD0;go_enter func108,ntmps108;go_wp2_with fail;refine(Qew b 2 101 _ 1 _ H.o.sb (Qad _ _ _ _ _ _ _ _) (by simp) (by decide) (by decide)).mono ?_;rintro e w1 ⟨rfl,a,cap,l,hl⟩;go_wp2;go_ret;refine⟨rfl,hl.only,a1,c1,l1,a,cap,l,?_,?_,hl.num⟩
 . have:=hl.sb
   simpa [putInt] using this
 . exact H.o.num.only hl.only H.o.sb (Qad _ _ _ _ _ _ _ _)
theorem Qri(b:Nat)(P:Int)(a1 a2:Option Addr)(c1 c2:Nat)(l1 l2:List Nat)(w:World)(h:RatAt w b P 1 a1 c1 l1 a2 c2 l2)(hP:P≠0):
 Calls prog 108 #[.pointer (some ⟨b,0,none⟩)] w (RatOk w b (P:Rat)):=by
 have hl2:l2= [1]:=Qbw h.den.num;subst hl2;have k0:=h.c0;have k1:=h.c1;have k2:=h.c2;have k3:=h.c3;obtain⟨b',o',rfl,hb',hc'⟩:=h.den.row.cell 0 (by simp);have hc':w.cell? ⟨b',o',none⟩=some (.int .u32 1):=by simpa using hc'
 have hD0:decide ((1:Int)<0)=false:=by simp
 rw[hD0] at k2;simp only[List.length_singleton] at k3;have q2:((l1.length:Int) == 0)=false:=by
  rw[beq_eq_false_iff_ne];have:=(h.num.num.len_zero (by decide)).2;omega
 have H:=Hi h;clear h hD0;go_enter func108,ntmps108;go_wp2;go_ret;exact⟨rfl,Only.refl _ _,_,_,_,_,_,_,H.o⟩
theorem Qdx{P D:Int}(hD:0<D)(hg:Nat.gcd P.natAbs D.natAbs=1):(mkRat P D.natAbs).num=P/\(((mkRat P D.natAbs).den:Nat):Int)=D:=by
 rw[Rat.num_mkRat,Rat.den_mkRat,if_neg (by omega),if_neg (by omega),Nat.gcd_comm,hg];constructor
 . simp
 . simp;omega
theorem Qbi(P:Int)(g:Nat)(hg:0<g)(hd:g ∣ P.natAbs):(P / (g:Int)).natAbs=P.natAbs / g:=by
 rw[Int.natAbs_ediv_of_dvd (Int.ofNat_dvd_left.2 hd),Int.natAbs_natCast]
theorem Qbj(P:Int)(g:Nat)(hg:0<g)(hd:g ∣ P.natAbs):decide (P / (g:Int)<0)=decide (P<0):=by
 apply decide_eq_decide.2;obtain⟨k,hk⟩:=Int.ofNat_dvd_left.2 hd;have hg':(0:Int)<(g:Int):=by omega
 rw[hk,Int.mul_ediv_cancel_left _ (by omega)];constructor
 . intro h
   exact Int.mul_neg_of_pos_of_neg hg' h
 .
  intro h;apply bC;intro hc;have:=Int.mul_nonneg (Int.le_of_lt hg') (show 0<=k by omega);omega
theorem Qbk{P D:Int}{g:Nat}(hD:0<D)(hg:Nat.gcd P.natAbs D.natAbs=g):(mkRat P D.natAbs).num=P / (g:Int)/\(mkRat P D.natAbs).den=D.natAbs / g:=by
 rw[Rat.num_mkRat,Rat.den_mkRat,if_neg (by omega),if_neg (by omega),Nat.gcd_comm,hg];exact⟨rfl,rfl⟩
theorem Qdy{l:List Nat}{g:Nat}(h:Num 4294967296 l g)(hg:g≠1):((l.length:Int) == 1)=false∨∃d,l= [d]/\d≠1:=by
 by_cases hl:l.length=1
 .
  right
  match l,hl,h with
  | [d],_,h=>
    refine⟨d,rfl,?_⟩;have:=h.eq;simp[val] at this;omega
 . left;rw[beq_eq_false_iff_ne];omega
theorem Qrj(b:Nat)(P D:Int)(a1 a2:Option Addr)(c1 c2:Nat)(l1 l2:List Nat)(w:World)(h:RatAt w b P D a1 c1 l1 a2 c2 l2)(hP:P≠0)(hD:0<D)(hD1:D≠1)(hb1:l1.length<1099511627770)(hb2:l2.length<1099511627770):
 Calls prog 108 #[.pointer (some ⟨b,0,none⟩)] w (RatOk w b (mkRat P D.natAbs)):=by
 have k0:=h.c0;have k1:=h.c1;have k2:=h.c2;have k3:=h.c3;have hD0:decide (D<0)=false:=by simp;omega
 rw[hD0] at k2;have q1:((l2.length:Int) == 0)=false:=by
  rw[beq_eq_false_iff_ne];have:=(h.den.num.len_zero (by decide)).2;omega
 have q2:((l1.length:Int) == 0)=false:=by
  rw[beq_eq_false_iff_ne];have:=(h.num.num.len_zero (by decide)).2;omega
 by_cases hl:l2.length=1
 .
  obtain⟨d,rfl⟩:∃d,l2= [d]:=by
   match l2,hl with
   | [d],_=>exact⟨d,rfl⟩
  have hd:d≠1:=by
   have:=h.den.num.eq;simp[val] at this;omega
  obtain⟨b',o',rfl,hb',hc'⟩:=h.den.row.cell 0 (by simp);have hc':w.cell? ⟨b',o',none⟩=some (.int .u32 (d:Int)):=by simpa using hc'
  have hq3:((d:Int) == 1)=false:=by rw[beq_eq_false_iff_ne];omega
  simp only[List.length_singleton] at k3 q1;obtain⟨H,HG⟩:=Ia h (Qda a1 (some ⟨b',o',none⟩) c1 c2 l1 ([d]) P.natAbs D.natAbs w.drew h.num.drew h.den.drew (by omega) (by omega));have hlt:=h.sb.lt;clear h hD0;go_enter func108,ntmps108;go_wp2;go_region_held3 (fun w'=>w'.cell? ⟨b,1,none⟩=some (.slice a1 l1.length c1)/\w'.cell? ⟨b,3,none⟩=some (.slice (some ⟨b',o',none⟩) (1) c2)) ((simp [*]))
   (first
     |(go_at_call 142;refine HG.o.mono ?_;rintro e w1 ⟨⟨ag,cg,rg,rfl,hug⟩,hb1⟩;have d1:=ce hb1 hlt k1;have d3:=ce hb1 hlt k3;have HU:=Hi hug;have HB:=Hi ((Below.refl w.heap.size w).drew.trans hb1);clear hug hb1))
  clear k0 k1 k2 k3 HG hc' hq3;obtain⟨g,hg⟩:=nm (Nat.gcd P.natAbs D.natAbs);have hug:=HU.o;rw[hg] at hug;obtain⟨HUG,HGE⟩:=Ia hug hg;have hg0:0<g:=by rw[<-hg];exact Nat.gcd_pos_of_pos_right _ (by omega)
  have H1:=H.o.below HB.o;have hgl:rg.length<=([d]).length:=hug.len_mono H.o.den (by rw[<-hg];exact Nat.le_of_dvd (by omega) (Nat.gcd_dvd_right _ _));clear HU;by_cases hg1:g=1
  .
   subst hg1;have hrg:rg= [1]:=Qbw hug.num;subst hrg;obtain⟨bg,og,rfl,hbg,hcg⟩:=hug.row.cell 0 (by simp);have hcg:w1.cell? ⟨bg,og,none⟩=some (.int .u32 1):=by simpa using hcg
   clear hug hg H1;go_wp2;go_ret;obtain⟨e1,e2⟩:=Qdx (P:=P) hD HGE.o;refine RatOk.of (Only.of_below HB.o) ⟨rfl,Only.refl _ _,a1,c1,l1,some ⟨b',o',none⟩,c2,[d],?_⟩;rw[e1,e2];exact H.o.below HB.o
  .
   have hdv1:g ∣ P.natAbs:=by rw[<-hg];exact Nat.gcd_dvd_left _ _
   have HD1:=Hi (Qaq a1 ag c1 cg l1 rg P.natAbs g w1 H1.num hug hg0 (by omega));rcases Qdy hug.num hg1 with hq5|⟨dd,rfl,hd1⟩
   .
    clear hug hg H1;go_wp2_with fail;refine HD1.o.mono ?_;rintro e w2 ⟨⟨aq,cq,rq,ar,cr,rr,rfl,hq,hr⟩,hb2⟩;have H2:=(H.o.below HB.o).below hb2;have d3':=H2.c3;obtain⟨HQ,HB2,HD2⟩:=Ib hq hb2 (Qaq (some ⟨b',o',none⟩) _ c2 cg ([d]) _ D.natAbs g w2 H2.den (HUG.o.below hb2) hg0 (by omega));clear hq hr hb2 H2;go_wp2_with fail;refine HD2.o.mono ?_;rintro e w3 ⟨⟨as1,cs,rs,at',ct,rt,rfl,hs,ht⟩,hb3⟩;have H3:=((H.o.below HB.o).below HB2.o).below hb3;have f1:=H3.sb.free 1;have f3:=H3.sb.free 3;have f1':=H3.c1;have f3':=H3.c3;obtain⟨HS,HB3,HH3⟩:=Ib hs hb3 H3;clear hs ht hb3 H3;go_wp2;go_ret;have ho:Only b w3 ((w3.setCell ⟨b,1,none⟩ (.slice aq rq.length cq)).setCell ⟨b,3,none⟩ (.slice as1 rs.length cs)):=((Only.refl b w3).setCell _ _).setCell _ _;have hdv2:g ∣ D.natAbs:=by rw[<-HGE.o];exact Nat.gcd_dvd_right _ _
    obtain⟨e1,e2⟩:=Qbk (P:=P) hD HGE.o;refine RatOk.of (Only.of_below (HB.o.trans ((HB2.o.mono HB.o.size).trans (HB3.o.mono (Nat.le_trans HB.o.size HB2.o.size))))) ⟨rfl,ho,aq,cq,rq,as1,cs,rs,?_,?_,?_⟩
    .
     have:=(HH3.o.sb.set 1 (.slice aq rq.length cq)).set 3 (.slice as1 rs.length cs);have en:decide ((((mkRat P D.natAbs).den:Nat):Int)<0)=decide (D<0):=by
      apply decide_eq_decide.2;omega
     rw[e1,Qbj P g hg0 hdv1,en]
     simpa using this
    . rw[e1,Qbi P g hg0 hdv1]
      exact(HQ.o.below HB3.o).only ho HH3.o.sb (Qad _ _ _ _ _ _ _ _)
    . rw[e2,Int.natAbs_natCast]
      exact HS.o.only ho HH3.o.sb (Qad _ _ _ _ _ _ _ _)
   .
    obtain⟨bg,og,rfl,hbg,hcg⟩:=hug.row.cell 0 (by simp);have hcg:w1.cell? ⟨bg,og,none⟩=some (.int .u32 (dd:Int)):=by simpa using hcg
    have hq6:((dd:Int) == 1)=false:=by rw[beq_eq_false_iff_ne];omega
    clear hug hg H1;go_wp2_with fail;refine HD1.o.mono ?_;rintro e w2 ⟨⟨aq,cq,rq,ar,cr,rr,rfl,hq,hr⟩,hb2⟩;have H2:=(H.o.below HB.o).below hb2;have d3':=H2.c3;obtain⟨HQ,HB2,HD2⟩:=Ib hq hb2 (Qaq (some ⟨b',o',none⟩) _ c2 cg ([d]) _ D.natAbs g w2 H2.den (HUG.o.below hb2) hg0 (by omega));clear hq hr hb2 H2;go_wp2_with fail;refine HD2.o.mono ?_;rintro e w3 ⟨⟨as1,cs,rs,at',ct,rt,rfl,hs,ht⟩,hb3⟩;have H3:=((H.o.below HB.o).below HB2.o).below hb3;have f1:=H3.sb.free 1;have f3:=H3.sb.free 3;have f1':=H3.c1;have f3':=H3.c3;obtain⟨HS,HB3,HH3⟩:=Ib hs hb3 H3;clear hs ht hb3 H3;go_wp2;go_ret;have ho:Only b w3 ((w3.setCell ⟨b,1,none⟩ (.slice aq rq.length cq)).setCell ⟨b,3,none⟩ (.slice as1 rs.length cs)):=((Only.refl b w3).setCell _ _).setCell _ _;have hdv2:g ∣ D.natAbs:=by rw[<-HGE.o];exact Nat.gcd_dvd_right _ _
    obtain⟨e1,e2⟩:=Qbk (P:=P) hD HGE.o;refine RatOk.of (Only.of_below (HB.o.trans ((HB2.o.mono HB.o.size).trans (HB3.o.mono (Nat.le_trans HB.o.size HB2.o.size))))) ⟨rfl,ho,aq,cq,rq,as1,cs,rs,?_,?_,?_⟩
    .
     have:=(HH3.o.sb.set 1 (.slice aq rq.length cq)).set 3 (.slice as1 rs.length cs);have en:decide ((((mkRat P D.natAbs).den:Nat):Int)<0)=decide (D<0):=by
      apply decide_eq_decide.2;omega
     rw[e1,Qbj P g hg0 hdv1,en]
     simpa using this
    . rw[e1,Qbi P g hg0 hdv1]
      exact(HQ.o.below HB3.o).only ho HH3.o.sb (Qad _ _ _ _ _ _ _ _)
    . rw[e2,Int.natAbs_natCast]
      exact HS.o.only ho HH3.o.sb (Qad _ _ _ _ _ _ _ _)
 .
  have hq3:((l2.length:Int) == 1)=false:=by rw[beq_eq_false_iff_ne];omega
  obtain⟨H,HG⟩:=Ia h (Qda a1 (a2) c1 c2 l1 (l2) P.natAbs D.natAbs w.drew h.num.drew h.den.drew (by omega) (by omega));have hlt:=h.sb.lt;clear h hD0;go_enter func108,ntmps108;go_wp2;go_region_held3 (fun w'=>w'.cell? ⟨b,1,none⟩=some (.slice a1 l1.length c1)/\w'.cell? ⟨b,3,none⟩=some (.slice (a2) (l2.length) c2)) ((simp [*]))
   (first
     |(go_at_call 142;refine HG.o.mono ?_;rintro e w1 ⟨⟨ag,cg,rg,rfl,hug⟩,hb1⟩;have d1:=ce hb1 hlt k1;have d3:=ce hb1 hlt k3;have HU:=Hi hug;have HB:=Hi ((Below.refl w.heap.size w).drew.trans hb1);clear hug hb1))
  clear k0 k1 k2 k3 HG hq3;obtain⟨g,hg⟩:=nm (Nat.gcd P.natAbs D.natAbs);have hug:=HU.o;rw[hg] at hug;obtain⟨HUG,HGE⟩:=Ia hug hg;have hg0:0<g:=by rw[<-hg];exact Nat.gcd_pos_of_pos_right _ (by omega)
  have H1:=H.o.below HB.o;have hgl:rg.length<=(l2).length:=hug.len_mono H.o.den (by rw[<-hg];exact Nat.le_of_dvd (by omega) (Nat.gcd_dvd_right _ _));clear HU;by_cases hg1:g=1
  .
   subst hg1;have hrg:rg= [1]:=Qbw hug.num;subst hrg;obtain⟨bg,og,rfl,hbg,hcg⟩:=hug.row.cell 0 (by simp);have hcg:w1.cell? ⟨bg,og,none⟩=some (.int .u32 1):=by simpa using hcg
   clear hug hg H1;go_wp2;go_ret;obtain⟨e1,e2⟩:=Qdx (P:=P) hD HGE.o;refine RatOk.of (Only.of_below HB.o) ⟨rfl,Only.refl _ _,a1,c1,l1,a2,c2,l2,?_⟩;rw[e1,e2];exact H.o.below HB.o
  .
   have hdv1:g ∣ P.natAbs:=by rw[<-hg];exact Nat.gcd_dvd_left _ _
   have HD1:=Hi (Qaq a1 ag c1 cg l1 rg P.natAbs g w1 H1.num hug hg0 (by omega));rcases Qdy hug.num hg1 with hq5|⟨dd,rfl,hd1⟩
   .
    clear hug hg H1;go_wp2_with fail;refine HD1.o.mono ?_;rintro e w2 ⟨⟨aq,cq,rq,ar,cr,rr,rfl,hq,hr⟩,hb2⟩;have H2:=(H.o.below HB.o).below hb2;have d3':=H2.c3;obtain⟨HQ,HB2,HD2⟩:=Ib hq hb2 (Qaq (a2) _ c2 cg (l2) _ D.natAbs g w2 H2.den (HUG.o.below hb2) hg0 (by omega));clear hq hr hb2 H2;go_wp2_with fail;refine HD2.o.mono ?_;rintro e w3 ⟨⟨as1,cs,rs,at',ct,rt,rfl,hs,ht⟩,hb3⟩;have H3:=((H.o.below HB.o).below HB2.o).below hb3;have f1:=H3.sb.free 1;have f3:=H3.sb.free 3;have f1':=H3.c1;have f3':=H3.c3;obtain⟨HS,HB3,HH3⟩:=Ib hs hb3 H3;clear hs ht hb3 H3;go_wp2;go_ret;have ho:Only b w3 ((w3.setCell ⟨b,1,none⟩ (.slice aq rq.length cq)).setCell ⟨b,3,none⟩ (.slice as1 rs.length cs)):=((Only.refl b w3).setCell _ _).setCell _ _;have hdv2:g ∣ D.natAbs:=by rw[<-HGE.o];exact Nat.gcd_dvd_right _ _
    obtain⟨e1,e2⟩:=Qbk (P:=P) hD HGE.o;refine RatOk.of (Only.of_below (HB.o.trans ((HB2.o.mono HB.o.size).trans (HB3.o.mono (Nat.le_trans HB.o.size HB2.o.size))))) ⟨rfl,ho,aq,cq,rq,as1,cs,rs,?_,?_,?_⟩
    .
     have:=(HH3.o.sb.set 1 (.slice aq rq.length cq)).set 3 (.slice as1 rs.length cs);have en:decide ((((mkRat P D.natAbs).den:Nat):Int)<0)=decide (D<0):=by
      apply decide_eq_decide.2;omega
     rw[e1,Qbj P g hg0 hdv1,en]
     simpa using this
    . rw[e1,Qbi P g hg0 hdv1]
      exact(HQ.o.below HB3.o).only ho HH3.o.sb (Qad _ _ _ _ _ _ _ _)
    . rw[e2,Int.natAbs_natCast]
      exact HS.o.only ho HH3.o.sb (Qad _ _ _ _ _ _ _ _)
   .
    obtain⟨bg,og,rfl,hbg,hcg⟩:=hug.row.cell 0 (by simp);have hcg:w1.cell? ⟨bg,og,none⟩=some (.int .u32 (dd:Int)):=by simpa using hcg
    have hq6:((dd:Int) == 1)=false:=by rw[beq_eq_false_iff_ne];omega
    clear hug hg H1;go_wp2_with fail;refine HD1.o.mono ?_;rintro e w2 ⟨⟨aq,cq,rq,ar,cr,rr,rfl,hq,hr⟩,hb2⟩;have H2:=(H.o.below HB.o).below hb2;have d3':=H2.c3;obtain⟨HQ,HB2,HD2⟩:=Ib hq hb2 (Qaq (a2) _ c2 cg (l2) _ D.natAbs g w2 H2.den (HUG.o.below hb2) hg0 (by omega));clear hq hr hb2 H2;go_wp2_with fail;refine HD2.o.mono ?_;rintro e w3 ⟨⟨as1,cs,rs,at',ct,rt,rfl,hs,ht⟩,hb3⟩;have H3:=((H.o.below HB.o).below HB2.o).below hb3;have f1:=H3.sb.free 1;have f3:=H3.sb.free 3;have f1':=H3.c1;have f3':=H3.c3;obtain⟨HS,HB3,HH3⟩:=Ib hs hb3 H3;clear hs ht hb3 H3;go_wp2;go_ret;have ho:Only b w3 ((w3.setCell ⟨b,1,none⟩ (.slice aq rq.length cq)).setCell ⟨b,3,none⟩ (.slice as1 rs.length cs)):=((Only.refl b w3).setCell _ _).setCell _ _;have hdv2:g ∣ D.natAbs:=by rw[<-HGE.o];exact Nat.gcd_dvd_right _ _
    obtain⟨e1,e2⟩:=Qbk (P:=P) hD HGE.o;refine RatOk.of (Only.of_below (HB.o.trans ((HB2.o.mono HB.o.size).trans (HB3.o.mono (Nat.le_trans HB.o.size HB2.o.size))))) ⟨rfl,ho,aq,cq,rq,as1,cs,rs,?_,?_,?_⟩
    .
     have:=(HH3.o.sb.set 1 (.slice aq rq.length cq)).set 3 (.slice as1 rs.length cs);have en:decide ((((mkRat P D.natAbs).den:Nat):Int)<0)=decide (D<0):=by
      apply decide_eq_decide.2;omega
     rw[e1,Qbj P g hg0 hdv1,en]
     simpa using this
    . rw[e1,Qbi P g hg0 hdv1]
      exact(HQ.o.below HB3.o).only ho HH3.o.sb (Qad _ _ _ _ _ _ _ _)
    . rw[e2,Int.natAbs_natCast]
      exact HS.o.only ho HH3.o.sb (Qad _ _ _ _ _ _ _ _)
theorem Qrk(b:Nat)(P D:Int)(a1 a2:Option Addr)(c1 c2:Nat)(l1 l2:List Nat)(w:World)(h:RatAt w b P D a1 c1 l1 a2 c2 l2)(hD:0<D)(hb1:l1.length<1099511627770)(hb2:l2.length<1099511627770):
 Calls prog 108 #[.pointer (some ⟨b,0,none⟩)] w (RatOk w b (mkRat P D.natAbs)):=by
 by_cases hP:P=0
 .
  subst hP;rw[Rat.zero_mkRat];exact Qrh b D a1 a2 c1 c2 l1 l2 w h hD
 by_cases h1:D=1
 .
  subst h1;have e:mkRat P (1:Int).natAbs=(P:Rat):=by
   apply Rat.ext
   . rw[Rat.num_mkRat];simp
   . rw[Rat.den_mkRat];simp
  rw[e];exact Qri b P a1 a2 c1 c2 l1 l2 w h hP
 . exact Qrj b P D a1 a2 c1 c2 l1 l2 w h hP hD h1 hb1 hb2
theorem Qb7(bz:Nat)(s0 s1 s2 s3:Value)(ba oa:Nat)(A:Int)(a1:Option Addr)(c1:Nat)(l1:List Nat)(bb ob:Nat)(B:Int)(a2:Option Addr)(c2:Nat)(l2:List Nat)(w:World)
 (hs:SB w bz 101 #[s0,s1,s2,s3]) (hn:NoInt #[s0,s1,s2,s3]) (ha:IntAt w ba oa A a1 c1 l1) (hb:IntAt w bb ob B a2 c2 l2) (hB:0<B) (h1:l1.length<1099511627770) (h2:l2.length<1099511627770):
 Calls prog 54 #[.pointer (some ⟨bz,0,none⟩),.pointer (some ⟨ba,oa,none⟩),.pointer (some ⟨bb,ob,none⟩)] w (RatOk w bz (mkRat A B.natAbs)):=by
 have k1:=hb.abs;have q1:((l2.length:Int) == 0)=false:=by
  rw[beq_eq_false_iff_ne];have:=(hb.num.num.len_zero (by decide)).2;omega
 obtain⟨HS,HN,HA,HBB⟩:=Ic hs hn ha hb;have hlt:=hs.lt;have hla:=ha.lt;have hlb:=hb.lt;clear hs hn ha hb;go_enter func54,ntmps54;go_wp2_with fail;have hal:Below w.heap.size w (w.alloc (.cells #[.bool false,.slice none 0 0] 99)):=bR.alloc lZ _;refine(Qcm w.heap.size 0 99 _ ba oa A a1 c1 l1 _ (SB.new w 99 _) Tryz.int_zero (by simp) (HA.o.below hal) (by omega)).mono ?_;rintro e w1 ⟨rfl,ap,cp,lp,hp⟩;have hb1:Below w.heap.size w w1:=Only.fresh hal hp.only lZ;have hs1:w.heap.size<w1.heap.size:=by have:=hp.only.size;simp at this;omega
 have hal2:Below w1.heap.size w1 (w1.alloc (.cells #[.bool false,.slice none 0 0] 99)):=bR.alloc lZ _;obtain⟨HI2,HP,HB1,HAL2⟩:=Ic (Qcm w1.heap.size 0 99 _ bb ob B a2 c2 l2 _ (SB.new w1 99 _) Tryz.int_zero (by simp) ((HBB.o.below hb1).below hal2) (by omega)) hp hb1 hal2;clear hp hb1 hal hal2;go_wp2_with fail;refine HI2.o.mono ?_;rintro e w2 ⟨rfl,aq,cq,lq,hq⟩;have hb2:Below w1.heap.size w1 w2:=Only.fresh HAL2.o hq.only lZ;have hpat:=(HP.o.at (by simp)).below hb2;have hqat:=hq.at (by simp);have hsz:=((HS.o.below HB1.o HS.o.lt).below hb2 (by omega));have p0:=hpat.neg;have p1:=hpat.abs;have r0:=hqat.neg;have r1:=hqat.abs;have z0:w2.cell? ⟨bz,0,none⟩=some s0:=by rw[hsz.cell];rfl
 have z1:w2.cell? ⟨bz,1,none⟩=some s1:=by rw[hsz.cell];rfl
 have z2:w2.cell? ⟨bz,2,none⟩=some s2:=by rw[hsz.cell];rfl
 have z3:w2.cell? ⟨bz,3,none⟩=some s3:=by rw[hsz.cell];rfl
 have f0:=hsz.free 0;have f1:=hsz.free 1;have f2:=hsz.free 2;have f3:=hsz.free 3;obtain⟨HPA,HQA,HSZ,HB2⟩:=Ic hpat hqat hsz hb2;clear hq hpat hqat hsz hb2;simp only[Nat.zero_add] at p1 r1;go_wp2_with fail;have ho:Only bz w2 ((((w2.setCell ⟨bz,0,none⟩ (.bool (decide (A<0)))).setCell ⟨bz,1,none⟩ (.slice ap lp.length cp)).setCell ⟨bz,2,none⟩ (.bool (decide (B<0)))).setCell ⟨bz,3,none⟩ (.slice aq lq.length cq)):=
  ((((Only.refl bz w2).setCell _ _).setCell _ _).setCell _ _).setCell _ _
 have hrat:RatAt ((((w2.setCell ⟨bz,0,none⟩ (.bool (decide (A<0)))).setCell ⟨bz,1,none⟩ (.slice ap lp.length cp)).setCell ⟨bz,2,none⟩ (.bool (decide (B<0)))).setCell ⟨bz,3,none⟩ (.slice aq lq.length cq)) bz A B ap cp lp aq cq lq:=by
  refine⟨?_,HPA.o.num.only ho HSZ.o HN.o,HQA.o.num.only ho HSZ.o HN.o⟩;have:=(((HSZ.o.set 0 (.bool (decide (A<0)))).set 1 (.slice ap lp.length cp)).set 2 (.bool (decide (B<0)))).set 3 (.slice aq lq.length cq)
  simpa using this
 have hlp:lp.length<=l1.length:=HPA.o.num.len_mono HA.o.num lZ;have hlq:lq.length<=l2.length:=HQA.o.num.len_mono HBB.o.num lZ;refine(Qrk bz A B ap aq cp cq lp lq _ hrat hB (by omega) (by omega)).mono ?_;rintro e w3 hok;have hok':RatOk w bz (mkRat A B.natAbs) e w3:=RatOk.of ((Only.of_below (HB1.o.trans (HB2.o.mono (by omega)))).trans ho) hok;obtain⟨rfl,hon,hr⟩:=hok';clear hok ho hrat;go_wp2;go_ret;exact⟨rfl,hon,hr⟩
structure Step (b:Nat) (w w':World):Prop where
 only:Only b w w'
 noint:∀(i:Nat) (k:IntKind) (n:Int),w.cell? ⟨b,i,none⟩≠some (Value.int k n)
theorem Step.of_only{b:Nat}{w w':World}{t:TypeId}{C:Array Value}(h:Only b w w')(hs:SB w b t C)(hn:NoInt C):Step b w w':=⟨h,fun i k n=>by rw[hs.cell];exact hn i k n⟩
theorem Step.of_below{w w':World}(h:Below w.heap.size w w'):Step w.heap.size w w':=
 ⟨Only.of_below h,fun i k n e=>by have:=World.block_lt_of_cell? w _ e;simp at this⟩
theorem Step.alloc(w:World)(o:Obj):Step w.heap.size w (w.alloc o):=Step.of_below (bR.alloc lZ _)
theorem Step.drew(w:World):Step w.heap.size w w.drew:=Step.of_below bR.drew
theorem Step.size{b:Nat}{w w':World}(h:Step b w w'):w.heap.size<=w'.heap.size:=h.only.size
theorem SB.step{w w':World}{b c:Nat}{t:TypeId}{C:Array Value}(h:SB w b t C)(k:Step c w w')(hne:b≠c):SB w' b t C:=h.only k.only hne
theorem Row.step{k:IntKind}{w w':World}{a:Option Addr}{cap:Nat}{l:List Nat}{b:Nat}(h:Row k w a cap l)(ho:Step b w w'):Row k w' a cap l:=by
 refine⟨h.fit,?_,fun i hi=>?_⟩
 .
  rcases h.shape with h1|⟨b',off,rfl,h2⟩
  . exact .inl h1
  . exact .inr ⟨b',off,rfl,by have:=ho.size;omega⟩
 .
  obtain⟨b',off,h1,h2,h3⟩:=h.cell i hi;have hne:b'≠b:=by
   rintro rfl;exact ho.noint _ _ _ h3
  exact⟨b',off,h1,by have:=ho.size;omega,(World.cell?_of_block (w:=w) (ho.only.block b' h2 hne)).trans h3⟩
theorem U32.step{w w':World}{a:Option Addr}{cap:Nat}{l:List Nat}{n b:Nat}(h:U32 w a cap l n)(ho:Step b w w'):U32 w' a cap l n:=⟨h.row.step ho,h.num,h.short⟩
theorem IntAt.step{w w':World}{b o c:Nat}{z:Int}{a:Option Addr}{cap:Nat}{l:List Nat}(h:IntAt w b o z a cap l)(ho:Step c w w')(hne:b≠c):IntAt w' b o z a cap l:=
 ⟨(World.cell?_of_block (w:=w) (a:=⟨b,o,none⟩) (ho.only.block b h.lt hne)).trans h.neg,(World.cell?_of_block (w:=w) (a:=⟨b,o+1,none⟩) (ho.only.block b h.lt hne)).trans h.abs,h.num.step ho,by have:=h.lt;have:=ho.size;omega⟩
theorem RatAt.step{w w':World}{b c:Nat}{P D:Int}{a1 a2:Option Addr}{c1 c2:Nat}{l1 l2:List Nat}(h:RatAt w b P D a1 c1 l1 a2 c2 l2)(ho:Step c w w')(hne:b≠c):RatAt w' b P D a1 c1 l1 a2 c2 l2:=
 ⟨h.sb.step ho hne,h.num.step ho,h.den.step ho⟩
theorem SB.drew{w:World}{b:Nat}{t:TypeId}{C:Array Value}(h:SB w b t C):SB w.drew b t C:=h
theorem IntAt.alloc{w:World}{b o:Nat}{z:Int}{a:Option Addr}{cap:Nat}{l:List Nat}(h:IntAt w b o z a cap l)(x:Obj):IntAt (w.alloc x) b o z a cap l:=h.below (bR.alloc lZ _)
def DenOk(w:World)(b:Nat)(d:Int)(e:Ending)(w':World):Prop:=
 (∃b' o a cap l,e=.returned (.pointer (some ⟨b',o,none⟩))/\IntAt w' b' o d a cap l/\(b'=b∨w.heap.size<=b'))/\Below w.heap.size w w'
theorem Qja(b:Nat)(P D d:Int)(a1 a2:Option Addr)(c1 c2:Nat)(l1 l2:List Nat)(w:World)(h:RatAt w b P D a1 c1 l1 a2 c2 l2)(hd:D=d∨D=0/\d=1)(hd0:0<d):
 Calls prog 57 #[.pointer (some ⟨b,0,none⟩)] w (DenOk w b d):=by
 have k3:=h.c3;by_cases hD:D=0
 .
  have q1:((l2.length:Int) == 0)=true:=by
   have:=(h.den.num.len_zero (by decide)).1 (by omega);simp[this]
  have HD:=Hi (show d=1 by omega);clear h hd hD;go_enter func57,ntmps57;go_wp2_with fail;refine(Qbg 1 _ (by decide) (by decide)).mono ?_;rintro e w1 ⟨⟨b',a,cap,l,rfl,hb',hs,hu⟩,hb⟩;go_wp2;go_ret;refine⟨⟨b',0,a,cap,l,rfl,?_,.inr hb'⟩,hb⟩;rw[HD.o];exact⟨by rw[hs.cell];rfl,by rw[hs.cell];rfl,hu,hs.lt⟩
 .
  have q1:((l2.length:Int) == 0)=false:=by
   rw[beq_eq_false_iff_ne];have:=(h.den.num.len_zero (by decide)).2;omega
  obtain⟨HD,H⟩:=Ia (show D=d by omega) h;clear h hd hD;go_enter func57,ntmps57;go_wp2;go_ret;exact⟨⟨b,2,a2,c2,l2,rfl,by rw[<-HD.o];exact H.o.lower,.inl rfl⟩,Below.refl _ _⟩
def zeroInt:Array Value:=#[.bool false,.slice none 0 0]
structure Thing where
 kind:Nat
 b:Nat
 o:Nat
 X:Int
 L:Nat
abbrev Thing.int(b o:Nat)(X:Int)(L:Nat):Thing:=⟨0,b,o,X,L⟩
abbrev Thing.rat(b:Nat)(d:Int)(L:Nat):Thing:=⟨1,b,0,d,L⟩
abbrev Thing.room(b:Nat):Thing:=⟨2,b,0,0,0⟩
def Thing.block:Thing->Nat
 |⟨_,b,_,_,_⟩=>b
def Thing.holds(w:World):Thing->Prop
 |⟨0,b,o,X,L⟩=>∃a cap l,IntAt w b o X a cap l/\l.length<=L
 |⟨1,b,_,d,L⟩=>∃P D a1 c1 l1 a2 c2 l2,RatAt w b P D a1 c1 l1 a2 c2 l2/\(D=d∨D=0/\d=1)/\0<d/\l2.length<=L
 |⟨_+2,b,_,_,_⟩=>∃s0 s1 s2 s3,SB w b 101 #[s0,s1,s2,s3]/\NoInt #[s0,s1,s2,s3]
theorem Thing.lt{w:World}{t:Thing}(h:t.holds w):t.block<w.heap.size:=by
 obtain⟨kind,b,o,X,L⟩:=t
 match kind,h with
 |0,h=>obtain⟨a,cap,l,h,_⟩:=h;exact h.lt
 |1,h=>obtain⟨P,D,a1,c1,l1,a2,c2,l2,h,_⟩:=h;exact h.sb.lt
 |n+2,h=>obtain⟨s0,s1,s2,s3,h,_⟩:=h;exact SB.lt h
theorem Thing.step{w w':World}{t:Thing}{c:Nat}(h:t.holds w)(k:Step c w w')(hne:t.block≠c):t.holds w':=by
 obtain⟨kind,b,o,X,L⟩:=t
 match kind,h with
 |0,h=>obtain⟨a,cap,l,h,hl⟩:=h;exact⟨a,cap,l,h.step k hne,hl⟩
 |1,h=>obtain⟨P,D,a1,c1,l1,a2,c2,l2,h,h1⟩:=h;exact⟨P,D,a1,c1,l1,a2,c2,l2,h.step k hne,h1⟩
 |n+2,h=>obtain⟨s0,s1,s2,s3,h,h1⟩:=h;exact⟨s0,s1,s2,s3,SB.step h k hne,h1⟩
structure Bag (w0 w:World) (Z:List Nat) (L:List Thing):Prop where
 base:Below w0.heap.size w0 w
 zs:∀n,n∈ Z->w0.heap.size<=n/\SB w n 99 zeroInt
 ts:∀t,t∈ L->t.holds w/\t.block ∉ Z
theorem Bag.drew{w0 w:World}{Z:List Nat}{L:List Thing}(h:Bag w0 w Z L):Bag w0 w.drew Z L:=
 ⟨h.base.drew,fun n hn=>⟨(h.zs n hn).1,(h.zs n hn).2.drew⟩,fun t ht=>⟨Thing.step (h.ts t ht).1 (Step.drew w) (by have:=Thing.lt (h.ts t ht).1;omega),(h.ts t ht).2⟩⟩
theorem Bag.alloc{w0 w:World}{Z:List Nat}{L:List Thing}(h:Bag w0 w Z L):Bag w0 (w.alloc (.cells #[.bool false,.slice none 0 0] 99)) (w.heap.size :: Z) L:=by
 refine⟨h.base.alloc h.base.size _,fun n hn=>?_,fun t ht=>⟨Thing.step (h.ts t ht).1 (Step.alloc w _) (by have:=Thing.lt (h.ts t ht).1;omega),?_⟩⟩
 .
  rcases List.mem_cons.1 hn with rfl|hn
  . exact⟨h.base.size,SB.new w _ _⟩
  . exact⟨(h.zs n hn).1,(h.zs n hn).2.alloc _⟩
 .
  intro hc;rcases List.mem_cons.1 hc with hc|hc
  . have:=Thing.lt (h.ts t ht).1;omega
  . exact(h.ts t ht).2 hc
def less(Z:List Nat)(n:Nat):List Nat:=Z.filter fun m=>decide (m≠n)
theorem mem_less{Z:List Nat}{n m:Nat}:m∈ less Z n↔m∈ Z/\m≠n:=by simp[less]
theorem Bag.lay{w0 w w':World}{Z:List Nat}{L:List Thing}{n K:Nat}{X:Int}{e:Ending}(h:Bag w0 w Z L)(hn:n∈ Z)(k:LaidOk w n 0 99 zeroInt X e w')(hK:∀a cap l,U32 w' a cap l X.natAbs->l.length<=K):
 e=.returned (.pointer (some ⟨n,0,none⟩))/\Bag w0 w' (less Z n) (.int n 0 X K :: L):=by
 obtain⟨rfl,a,cap,l,hl⟩:=k;have hz:=h.zs n hn;have st:Step n w w':=Step.of_only hl.only hz.2 Tryz.int_zero;refine⟨rfl,h.base.trans (hl.only.below hz.1 h.base.size),fun m hm=>?_,fun t ht=>?_⟩
 . obtain⟨h1,h2⟩:=mem_less.1 hm
   exact⟨(h.zs m h1).1,(h.zs m h1).2.step st h2⟩
 .
  rcases List.mem_cons.1 ht with rfl|ht
  . exact⟨⟨a,cap,l,hl.at (by simp[zeroInt]),hK a cap l hl.num⟩,fun hc=>(mem_less.1 hc).2 rfl⟩
  . have:=h.ts t ht
    exact⟨Thing.step this.1 st (fun hc=>this.2 (hc ▸ hn)),fun hc=>this.2 (mem_less.1 hc).1⟩
theorem Bag.below{w0 w w':World}{Z:List Nat}{L:List Thing}(h:Bag w0 w Z L)(k:Below w.heap.size w w'):Bag w0 w' Z L:=by
 have st:=Step.of_below k;refine⟨h.base.trans (k.mono h.base.size),fun n hn=>⟨(h.zs n hn).1,(h.zs n hn).2.below k (h.zs n hn).2.lt⟩,fun t ht=>⟨Thing.step (h.ts t ht).1 st (by have:=Thing.lt (h.ts t ht).1;omega),(h.ts t ht).2⟩⟩
theorem Bag.put{w0 w:World}{Z:List Nat}{L:List Thing}{t:Thing}(h:Bag w0 w Z L)(ht:t.holds w)(hb:t.block ∉ Z):Bag w0 w Z (t :: L):=
 ⟨h.base,h.zs,fun s hs=>by
   rcases List.mem_cons.1 hs with rfl|hs
   . exact⟨ht,hb⟩
   . exact h.ts s hs⟩
theorem U32.len_of{w w1 w2:World}{a b c:Option Addr}{k1 k2 k3:Nat}{l m r:List Nat}{x y z:Nat}(h:U32 w1 a k1 l x)(k:U32 w2 b k2 m y)(hr:U32 w c k3 r z)(hz:z<=x*y∨z<=x+y):r.length<=l.length+m.length+1:=by
 apply hr.num.length_le_of_lt (by decide);have e1:=Qac (B:=4294967296) (by decide) h.num.small;have e2:=Qac (B:=4294967296) (by decide) k.num.small;rw[h.num.eq] at e1;rw[k.num.eq] at e2;have e3:x*y<4294967296 ^ (l.length+m.length):=by rw[Nat.pow_add];exact Nat.mul_lt_mul'' e1 e2
 have e4:4294967296 ^ l.length<=4294967296 ^ (l.length+m.length):=Nat.pow_le_pow_right (by decide) (by omega);have e5:4294967296 ^ m.length<=4294967296 ^ (l.length+m.length):=Nat.pow_le_pow_right (by decide) (by omega);have e6:4294967296 ^ (l.length+m.length+1)=4294967296 ^ (l.length+m.length)*4294967296:=Nat.pow_succ _ _;rw[e6];generalize 4294967296 ^ (l.length+m.length)=p at*;omega
def LayOk(w0 w:World)(Z:List Nat)(L:List Thing)(n:Nat)(X:Int)(K:Nat)(e:Ending)(w':World):Prop:=
 e=.returned (.pointer (some ⟨n,0,none⟩))/\Bag w0 w' (less Z n) (.int n 0 X K :: L)/\w.heap.size<=w'.heap.size/\n<w'.heap.size
theorem Bag.layOk{w0 w w':World}{Z:List Nat}{L:List Thing}{n K:Nat}{X:Int}{e:Ending}(h:Bag w0 w Z L)(hn:n∈ Z)(k:LaidOk w n 0 99 zeroInt X e w')(hK:∀a cap l,U32 w' a cap l X.natAbs->l.length<=K):LayOk w0 w Z L n X K e w':=by
 have h1:=h.lay hn k hK;refine⟨h1.1,h1.2,?_,?_⟩
 . obtain⟨_,a,cap,l,hl⟩:=k;exact hl.only.size
 . obtain⟨_,a,cap,l,hl⟩:=k;exact hl.sb.lt
theorem Bag.mul{w0 w:World}{Z:List Nat}{L:List Thing}{n bx ox bv ov K1 K2:Nat}{X Y:Int}(h:Bag w0 w Z L)(hn:n∈ Z)(hx:.int bx ox X K1∈ L)(hy:.int bv ov Y K2∈ L)(hl:K1+K2<1099511627770):
 Calls prog 59 #[.pointer (some ⟨n,0,none⟩),.pointer (some ⟨bx,ox,none⟩),.pointer (some ⟨bv,ov,none⟩)] w (LayOk w0 w Z L n (X*Y) (K1+K2+1)):=by
 obtain⟨⟨a,cap,l,ha,h1⟩,hna⟩:=h.ts _ hx;obtain⟨⟨b,cap',m,hb,h2⟩,hnb⟩:=h.ts _ hy;refine(Qor n 0 99 _ bx ox X a cap l bv ov Y b cap' m w (h.zs n hn).2 Tryz.int_zero (by simp[zeroInt]) ha hb (fun e=>hna (e ▸ hn)) (fun e=>hnb (e ▸ hn)) (by omega)).mono ?_;intro e w' hk;refine h.layOk hn hk fun a' c' r hr=>?_
 have:=ha.num.len_of hb.num hr (.inl (by rw[Int.natAbs_mul];exact Nat.le_refl _));omega
theorem Bag.add{w0 w:World}{Z:List Nat}{L:List Thing}{n bx ox bv ov K1 K2:Nat}{X Y:Int}(h:Bag w0 w Z L)(hn:n∈ Z)(hx:.int bx ox X K1∈ L)(hy:.int bv ov Y K2∈ L)(hl:K1+K2<1099511627770):
 Calls prog 113 #[.pointer (some ⟨n,0,none⟩),.pointer (some ⟨bx,ox,none⟩),.pointer (some ⟨bv,ov,none⟩)] w (LayOk w0 w Z L n (X+Y) (K1+K2+1)):=by
 obtain⟨⟨a,cap,l,ha,h1⟩,hna⟩:=h.ts _ hx;obtain⟨⟨b,cap',m,hb,h2⟩,hnb⟩:=h.ts _ hy;refine(Qop n 0 99 _ bx ox X a cap l bv ov Y b cap' m w (h.zs n hn).2 Tryz.int_zero (by simp[zeroInt]) ha hb (fun e=>hna (e ▸ hn)) (fun e=>hnb (e ▸ hn)) (by omega)).mono ?_;intro e w' hk;refine h.layOk hn hk fun a' c' r hr=>?_
 have:=ha.num.len_of hb.num hr (.inr (by omega));omega
theorem Bag.sub{w0 w:World}{Z:List Nat}{L:List Thing}{n bx ox bv ov K1 K2:Nat}{X Y:Int}(h:Bag w0 w Z L)(hn:n∈ Z)(hx:.int bx ox X K1∈ L)(hy:.int bv ov Y K2∈ L)(hl:K1+K2<1099511627770):
 Calls prog 112 #[.pointer (some ⟨n,0,none⟩),.pointer (some ⟨bx,ox,none⟩),.pointer (some ⟨bv,ov,none⟩)] w (LayOk w0 w Z L n (X - Y) (K1+K2+1)):=by
 obtain⟨⟨a,cap,l,ha,h1⟩,hna⟩:=h.ts _ hx;obtain⟨⟨b,cap',m,hb,h2⟩,hnb⟩:=h.ts _ hy;refine(Qoq n 0 99 _ bx ox X a cap l bv ov Y b cap' m w (h.zs n hn).2 Tryz.int_zero (by simp[zeroInt]) ha hb (fun e=>hna (e ▸ hn)) (fun e=>hnb (e ▸ hn)) (by omega)).mono ?_;intro e w' hk;refine h.layOk hn hk fun a' c' r hr=>?_
 have:=ha.num.len_of hb.num hr (.inr (by omega));omega
theorem Bag.set{w0 w:World}{Z:List Nat}{L:List Thing}{n bx ox K1:Nat}{X:Int}(h:Bag w0 w Z L)(hn:n∈ Z)(hx:.int bx ox X K1∈ L):
 Calls prog 93 #[.pointer (some ⟨n,0,none⟩),.pointer (some ⟨bx,ox,none⟩)] w (LayOk w0 w Z L n X K1):=by
 obtain⟨⟨a,cap,l,ha,h1⟩,hna⟩:=h.ts _ hx;refine(Qcm n 0 99 _ bx ox X a cap l w (h.zs n hn).2 Tryz.int_zero (by simp[zeroInt]) ha (fun e=>hna (e ▸ hn))).mono ?_;intro e w' hk;refine h.layOk hn hk fun a' c' r hr=>?_
 have:=hr.len_mono ha.num lZ;omega
def DenLeft(w0 w:World)(Z:List Nat)(L:List Thing)(d:Int)(K:Nat)(e:Ending)(w':World):Prop:=
 ∃b o,e=.returned (.pointer (some ⟨b,o,none⟩))/\Bag w0 w' Z (.int b o d K :: L)/\w.heap.size<=w'.heap.size
theorem Bag.den{w0 w:World}{Z:List Nat}{L:List Thing}{b K:Nat}{d:Int}(h:Bag w0 w Z L)(hx:.rat b d K∈ L):
 Calls prog 57 #[.pointer (some ⟨b,0,none⟩)] w (DenLeft w0 w Z L d (K+1)):=by
 obtain⟨⟨P,D,a1,c1,l1,a2,c2,l2,hr,hd,hd0,hl⟩,hnb⟩:=h.ts _ hx;refine(Qja b P D d a1 a2 c1 c2 l1 l2 w hr hd hd0).mono ?_;rintro e w' ⟨⟨b',o,a,cap,l,rfl,hi,hb⟩,hbl⟩;refine⟨b',o,rfl,(h.below hbl).put ⟨a,cap,l,hi,?_⟩ ?_,hbl.size⟩
 .
  have:=hi.num;rcases hd with hd|⟨_,hd⟩
  .
   subst hd;have:=this.len_mono hr.den lZ;omega
  .
   subst hd;have:=Qbw this.num;rw[this];simp
 .
  intro hc
  show False
  rcases hb with rfl|hb
  . exact hnb hc
  .
   have:=(h.zs _ hc).2.lt;have e:Thing.block (.int b' o d (K+1))=b':=rfl;rw[e] at this;omega
theorem Bag.setFrac{w0 w:World}{Z:List Nat}{L:List Thing}{bz ba oa bb ob K1 K2:Nat}{A B:Int}(h:Bag w0 w Z L)(hz:.room bz∈ L)(ha:.int ba oa A K1∈ L)(hb:.int bb ob B K2∈ L)(hB:0<B)(h1:K1<1099511627770)(h2:K2<1099511627770):
 Calls prog 54 #[.pointer (some ⟨bz,0,none⟩),.pointer (some ⟨ba,oa,none⟩),.pointer (some ⟨bb,ob,none⟩)] w (RatOk w0 bz (mkRat A B.natAbs)):=by
 obtain⟨⟨s0,s1,s2,s3,hs,hn⟩,_⟩:=h.ts _ hz;obtain⟨⟨a,cap,l,ha,h3⟩,_⟩:=h.ts _ ha;obtain⟨⟨b,cap',m,hb,h4⟩,_⟩:=h.ts _ hb;refine(Qb7 bz s0 s1 s2 s3 ba oa A a cap l bb ob B b cap' m w hs hn ha hb hB (by omega) (by omega)).mono ?_;intro e w' hk;exact RatOk.of (Only.of_below h.base) hk
def RatVal(w:World)(b:Nat)(q:Rat):Prop:=∃D a1 c1 l1 a2 c2 l2,RatAt w b q.num D a1 c1 l1 a2 c2 l2/\(D=(q.den:Int)∨D=0/\(q.den:Int)=1)
def Fits(q:Rat)(k:Nat):Prop:=q.num.natAbs<2 ^ k/\q.den<2 ^ k
theorem Qar(q:Rat):(0:Int)<(q.den:Int):=by have:=q.den_pos;omega
theorem RatVal.below{w w':World}{b:Nat}{q:Rat}(h:RatVal w b q)(hb:Below w.heap.size w w'):RatVal w' b q:=by
 obtain⟨D,a1,c1,l1,a2,c2,l2,h,h1⟩:=h;exact⟨D,a1,c1,l1,a2,c2,l2,h.below hb,h1⟩
theorem RatVal.room{w:World}{b:Nat}{q:Rat}(h:RatVal w b q):(Thing.room b).holds w:=by
 obtain⟨D,a1,c1,l1,a2,c2,l2,h,h1⟩:=h;exact⟨_,_,_,_,h.sb,Qad _ _ _ _ _ _ _ _⟩
theorem RatOk.val{w w':World}{b:Nat}{q:Rat}{e:Ending}(h:RatOk w b q e w'):RatVal w' b q:=by
 obtain⟨_,_,a1,c1,l1,a2,c2,l2,h⟩:=h;exact⟨_,a1,c1,l1,a2,c2,l2,h,.inl rfl⟩
theorem U32.len_bits{w:World}{a:Option Addr}{c:Nat}{l:List Nat}{n k:Nat}(h:U32 w a c l n)(hn:n<2 ^ k):l.length<=k:=by
 apply h.num.length_le_of_lt (by decide);refine Nat.lt_of_lt_of_le hn ?_;exact Nat.pow_le_pow_left (by decide) k
theorem RatVal.int{w:World}{b:Nat}{q:Rat}{k:Nat}(h:RatVal w b q)(hk:Fits q k):(Thing.int b 0 q.num k).holds w:=by
 obtain⟨D,a1,c1,l1,a2,c2,l2,h,h1⟩:=h;exact⟨a1,c1,l1,h.upper,h.num.len_bits hk.1⟩
theorem RatVal.rat{w:World}{b:Nat}{q:Rat}{k:Nat}(h:RatVal w b q)(hk:Fits q k):(Thing.rat b q.den k).holds w:=by
 obtain⟨D,a1,c1,l1,a2,c2,l2,h,h1⟩:=h;refine⟨_,D,a1,c1,l1,a2,c2,l2,h,h1,Qar q,h.den.len_bits ?_⟩;rcases h1 with h1|⟨h1,_⟩
 . rw[h1];exact hk.2
 . rw[h1];exact Nat.two_pow_pos k
theorem Bag.two{w:World}{bx bv bz j k:Nat}{p q:Rat}(hx:RatVal w bx p)(hy:RatVal w bv q)(hz:(Thing.room bz).holds w)(hp:Fits p j)(hq:Fits q k):
 Bag w w [] [.int bx 0 p.num j,.rat bx p.den j,.int bv 0 q.num k,.rat bv q.den k,.room bz]:=by
 refine⟨Below.refl _ _,fun n hn=>(by cases hn),fun t ht=>⟨?_,List.not_mem_nil⟩⟩;simp only[List.mem_cons,List.not_mem_nil,or_false] at ht;rcases ht with rfl|rfl|rfl|rfl|rfl
 . exact hx.int hp
 . exact hx.rat hp
 . exact hy.int hq
 . exact hy.rat hq
 . exact hz
theorem Bag.one{w:World}{bx bz j:Nat}{p:Rat}(hx:RatVal w bx p)(hz:(Thing.room bz).holds w)(hp:Fits p j):
 Bag w w [] [.int bx 0 p.num j,.rat bx p.den j,.room bz]:=by
 refine⟨Below.refl _ _,fun n hn=>(by cases hn),fun t ht=>⟨?_,List.not_mem_nil⟩⟩;simp only[List.mem_cons,List.not_mem_nil,or_false] at ht;rcases ht with rfl|rfl|rfl
 . exact hx.int hp
 . exact hx.rat hp
 . exact hz
theorem Qff(p q:Rat):mkRat (p.num*q.num) ((p.den:Int)*(q.den:Int)).natAbs=p*q:=by
 rw[Int.natAbs_mul,Int.natAbs_natCast,Int.natAbs_natCast,<-Rat.mkRat_mul_mkRat,Rat.mkRat_self,Rat.mkRat_self]
theorem Qdw(p q:Rat):mkRat (p.num*(q.den:Int)+q.num*(p.den:Int)) ((p.den:Int)*(q.den:Int)).natAbs=p+q:=by
 rw[Int.natAbs_mul,Int.natAbs_natCast,Int.natAbs_natCast,<-Rat.mkRat_add_mkRat _ _ p.den_nz q.den_nz,Rat.mkRat_self,Rat.mkRat_self]
theorem Qq2(p q:Rat):mkRat (p.num*(q.den:Int) - q.num*(p.den:Int)) ((p.den:Int)*(q.den:Int)).natAbs=p - q:=by
 have:=Qdw p (-q);rw[Rat.neg_num,Rat.neg_den,Int.neg_mul,<-Int.sub_eq_add_neg] at this;rw[this,Rat.sub_eq_add_neg]
theorem Qi2(p q:Rat)(hq:0<q.num):mkRat (p.num*(q.den:Int)) ((p.den:Int)*q.num).natAbs=p / q:=by
 have h:q⁻¹=mkRat q.den q.num.natAbs:=by
  rw[Rat.inv_def,<-Rat.divInt_ofNat]
  congr 1
  omega
 rw[Rat.div_def,h,Int.natAbs_mul,Int.natAbs_natCast,<-Rat.mkRat_mul_mkRat,Rat.mkRat_self]
end Go.Proofs.YtldjeecnapgakaaGreatDoor
