/- rafterbig's Rat: norm, SetFrac and Quo where what is below the bar, or what one divides by, is below 0. -/
import Derived.Test.YtodfmpjhcmapmaaGreatDoorN12RefOf
namespace Go.Proofs.YtodfmpjhcmapmaaGreatDoor
open Go.RowKit
set_option linter.unusedVariables false
set_option linter.unusedSimpArgs false
theorem RatOk.new{w w':World}{q:Rat}{e:Ending}(h:RatOk (w.alloc (.cells #[.bool false,.slice none 0 0,.bool false,.slice none 0 0] 79)) w.heap.size q e w'):NewRat w q e w':=
 ⟨⟨_,h.1,Nat.le_refl _,h.val⟩,Only.fresh ((Below.refl _ _).alloc (Nat.le_refl _) _) h.2.1 (Nat.le_refl _)⟩
theorem RatVal.alloc{w:World}{b:Nat}{q:Rat}(h:RatVal w b q)(o:Obj):RatVal (w.alloc o) b q:=h.below ((Below.refl _ _).alloc (Nat.le_refl _) _)
set_option maxHeartbeats 400000 in
theorem Qqw(bx bv j k:Nat)(p q:Rat)(w:World)(hx:RatVal w bx p)(hy:RatVal w bv q)(hp:Fits p j)(hq:Fits q k)(hj:j+k<274877906000):
 Calls Tryz.prog 16 #[.pointer (some ⟨bx,0,none⟩),.pointer (some ⟨bv,0,none⟩)] w (NewRat w (p+q)):=by
 have HC:=Hi (Qpv w.heap.size bx bv j k p q _ (Qb7 w) (hx.alloc _) (hy.alloc _) hp hq hj );clear hx hy hp hq hj;go_enter Tryz.func16,Tryz.ntmps16;go_wp2_with fail;refine HC.out.mono ?_;rintro e w1 hok;have HF:=Hi (RatOk.new hok);obtain⟨rfl,hon,hr⟩:=hok;clear hon hr HC;go_wp2;go_ret;exact HF.out
set_option maxHeartbeats 400000 in
theorem Qqx(bx bv j k:Nat)(p q:Rat)(w:World)(hx:RatVal w bx p)(hy:RatVal w bv q)(hp:Fits p j)(hq:Fits q k)(hj:j+k<274877906000):
 Calls Tryz.prog 34 #[.pointer (some ⟨bx,0,none⟩),.pointer (some ⟨bv,0,none⟩)] w (NewRat w (p - q)):=by
 have HC:=Hi (Qpw w.heap.size bx bv j k p q _ (Qb7 w) (hx.alloc _) (hy.alloc _) hp hq hj );clear hx hy hp hq hj;go_enter Tryz.func34,Tryz.ntmps34;go_wp2_with fail;refine HC.out.mono ?_;rintro e w1 hok;have HF:=Hi (RatOk.new hok);obtain⟨rfl,hon,hr⟩:=hok;clear hon hr HC;go_wp2;go_ret;exact HF.out
set_option maxHeartbeats 400000 in
theorem Qqy(bx bv j k:Nat)(p q:Rat)(w:World)(hx:RatVal w bx p)(hy:RatVal w bv q)(hp:Fits p j)(hq:Fits q k)(hj:j+k<274877906000):
 Calls Tryz.prog 17 #[.pointer (some ⟨bx,0,none⟩),.pointer (some ⟨bv,0,none⟩)] w (NewRat w (p*q)):=by
 have HC:=Hi (Qpz w.heap.size bx bv j k p q _ (Qb7 w) (hx.alloc _) (hy.alloc _) hp hq hj );clear hx hy hp hq hj;go_enter Tryz.func17,Tryz.ntmps17;go_wp2_with fail;refine HC.out.mono ?_;rintro e w1 hok;have HF:=Hi (RatOk.new hok);obtain⟨rfl,hon,hr⟩:=hok;clear hon hr HC;go_wp2;go_ret;exact HF.out
set_option maxHeartbeats 400000 in
theorem ref_N(x:Nat)(w:World)(hx:x<1000000):
 Calls Tryz.prog 45 #[.int .i64 x] w (NewRat w (x:Rat)):=by
 have HC:=Hi (Qqi w.heap.size x _ (Qb7 w) hx);go_enter Tryz.func45,Tryz.ntmps45;go_wp2_with fail;refine HC.out.mono ?_;rintro e w1 hok;have HF:=Hi (RatOk.new hok);obtain⟨rfl,hon,hr⟩:=hok;clear hon hr HC;go_wp2;go_ret;exact HF.out
theorem Qca{a b j k:Nat}(ha:a<2 ^ j)(hb:b<2 ^ k):a*b<2 ^ (j+k):=by rw[Nat.pow_add];exact Nat.mul_lt_mul'' ha hb
theorem Fits.mul{p q:Rat}{j k:Nat}(h:Fits p j)(h':Fits q k)(hj:0<j):Fits (p*q) (j+k):=by
 rw[←Qe5];refine Fits.mk ?_ ?_ (by omega)
 · rw[Int.natAbs_mul];exact Qca h.1 h'.1
 · rw[Int.natAbs_mul];exact Qca h.2 h'.2
theorem Fits.add{p q:Rat}{j k:Nat}(h:Fits p j)(h':Fits q k):Fits (p+q) (j+k+1):=by
 rw[←Qdq];have e1:=Qca h.1 h'.2;have e2:=Qca h'.1 h.2;have e3:(2:Nat) ^ (j+k+1)=2 ^ (j+k)*2:=Nat.pow_succ _ _;rw[Nat.add_comm k j] at e2;refine Fits.mk ?_ ?_ (by omega)
 ·
  have h1:=Int.natAbs_add_le (p.num*(q.den:Int)) (q.num*(p.den:Int));rw[Int.natAbs_mul,Int.natAbs_mul,Int.natAbs_natCast,Int.natAbs_natCast] at h1;omega
 ·
  rw[Int.natAbs_mul,Int.natAbs_natCast,Int.natAbs_natCast];have:=Qca h.2 h'.2;omega
theorem Fits.sub{p q:Rat}{j k:Nat}(h:Fits p j)(h':Fits q k):Fits (p - q) (j+k+1):=by
 rw[Rat.sub_eq_add_neg];exact h.add h'.neg
structure RBag (w0 w:World) (L:List (Nat × Rat × Nat)):Prop where
 base:Below w0.heap.size w0 w
 glob:∃m,w.cell? ⟨4,0,none⟩=some (.int .i64 m)
 ts:∀t,t∈ L→RatVal w t.1 t.2.1∧Fits t.2.1 t.2.2∧0<t.2.2
theorem RBag.start{w:World}(h:∃m,w.cell? ⟨4,0,none⟩=some (.int .i64 m)):RBag w w []:=⟨Below.refl _ _,h,fun t ht=>by cases ht⟩
theorem RBag.below{w0 w w':World}{L:List (Nat × Rat × Nat)}(h:RBag w0 w L)(hb:Below w.heap.size w w'):RBag w0 w' L:=by
 refine⟨h.base.trans (hb.mono h.base.size),?_,fun t ht=>⟨(h.ts t ht).1.below hb,(h.ts t ht).2⟩⟩;obtain⟨m,hm⟩:=h.glob;exact⟨m,(hb.cell (p:=⟨4,0,none⟩) (World.block_lt_of_cell? _ _ hm)).trans hm⟩
theorem RBag.drew{w0 w:World}{L:List (Nat × Rat × Nat)}(h:RBag w0 w L):RBag w0 w.drew L:=h.below (Below.refl _ _).drew
theorem RBag.put{w0 w:World}{L:List (Nat × Rat × Nat)}{b k:Nat}{q:Rat}(h:RBag w0 w L)(hv:RatVal w b q)(hf:Fits q k)(hk:0<k):RBag w0 w ((b,q,k) :: L):=
 ⟨h.base,h.glob,fun t ht=>by
   rcases List.mem_cons.1 ht with rfl|ht
   · exact⟨hv,hf,hk⟩
   · exact h.ts t ht⟩
theorem RBag.rebase{w0 w:World}{L:List (Nat × Rat × Nat)}(h:RBag w0 w L):RBag w w L:=⟨Below.refl _ _,h.glob,h.ts⟩
def RNew(w0:World)(L:List (Nat × Rat × Nat))(q:Rat)(k:Nat)(e:Ending)(w':World):Prop:=∃b,e=.returned (.pointer (some ⟨b,0,none⟩))∧RBag w0 w' ((b,q,k) :: L)
theorem RBag.new{w0 w w':World}{L:List (Nat × Rat × Nat)}{q:Rat}{k:Nat}{e:Ending}(h:RBag w0 w L)(hn:NewRat w q e w')(hf:Fits q k)(hk:0<k):RNew w0 L q k e w':=by
 obtain⟨⟨b,he,_,hv⟩,hb⟩:=hn;exact⟨b,he,(h.below hb).put hv hf hk⟩
theorem RBag.sub{w0 w:World}{L:List (Nat × Rat × Nat)}{bx bv j k:Nat}{p q:Rat}(h:RBag w0 w L)(hx:(bx,p,j)∈ L)(hy:(bv,q,k)∈ L)(hj:j+k<274877906000):
 Calls Tryz.prog 34 #[.pointer (some ⟨bx,0,none⟩),.pointer (some ⟨bv,0,none⟩)] w (RNew w0 L (p - q) (j+k+1)):=by
 have a:=h.ts _ hx;have b:=h.ts _ hy;exact(Qqx bx bv j k p q w a.1 b.1 a.2.1 b.2.1 hj).mono fun e w' hn=>h.new hn (a.2.1.sub b.2.1) (by omega)
theorem RBag.of{w0 w:World}{L:List (Nat × Rat × Nat)}{n:Nat}(s:ByteArray)(h:RBag w0 w L)(hs:s.size≤n)(hn:n≤1073741824):
 Calls Tryz.prog 19 #[.string s] w fun e w'=>∃q,QOf s.data.toList q∧RNew w0 L q (4*n+1) e w':=by
 obtain⟨m,hm⟩:=h.glob;refine(Qis s m w hm (by omega)).mono ?_;rintro e w' ⟨q,hq,hk⟩;exact⟨q,hq,h.new hk (hq.fits (by simpa using hs)) (by omega)⟩
theorem RBag.sign{w0 w:World}{L:List (Nat × Rat × Nat)}{bx j:Nat}{p:Rat}(h:RBag w0 w L)(hx:(bx,p,j)∈ L):
 Calls Tryz.prog 20 #[.pointer (some ⟨bx,0,none⟩)] w fun e w'=>e=.returned (.int .i64 (sgn3 p.num))∧w'=w:=
 Qie bx p w (h.ts _ hx).1
theorem RatAt.negA{w w':World}{b:Nat}{P D:Int}{a1 a2:Option Addr}{c1 c2:Nat}{l1 l2:List Nat}{e:Ending}(h:RatAt w b P D a1 c1 l1 a2 c2 l2)(k:LaidOk w b 0 79 #[.bool (decide (P<0)),.slice a1 l1.length c1,.bool (decide (D<0)),.slice a2 l2.length c2] (-P) e w'):
 e=.returned (.pointer (some ⟨b,0,none⟩))∧Only b w w'∧∃a c l,RatAt w' b (-P) D a c l a2 c2 l2∧l.length≤l1.length:=by
 obtain⟨rfl,a,c,l,hl⟩:=k;refine⟨rfl,hl.only,a,c,l,⟨?_,hl.num,h.den.only hl.only h.sb (Qab _ _ _ _ _ _ _ _)⟩,hl.num.len_mono h.num (by omega)⟩;have:=hl.sb
 simpa [putInt] using this
theorem RatAt.negB{w w':World}{b:Nat}{P D:Int}{a1 a2:Option Addr}{c1 c2:Nat}{l1 l2:List Nat}{e:Ending}(h:RatAt w b P D a1 c1 l1 a2 c2 l2)(k:LaidOk w b 2 79 #[.bool (decide (P<0)),.slice a1 l1.length c1,.bool (decide (D<0)),.slice a2 l2.length c2] (-D) e w'):
 e=.returned (.pointer (some ⟨b,2,none⟩))∧Only b w w'∧∃a c l,RatAt w' b P (-D) a1 c1 l1 a c l∧l.length≤l2.length:=by
 obtain⟨rfl,a,c,l,hl⟩:=k;refine⟨rfl,hl.only,a,c,l,⟨?_,h.num.only hl.only h.sb (Qab _ _ _ _ _ _ _ _),hl.num⟩,hl.num.len_mono h.den (by omega)⟩;have:=hl.sb
 simpa [putInt] using this
set_option maxRecDepth 100000 in
set_option maxHeartbeats 4000000 in
theorem Qp1(b:Nat)(P0 D0:Int)(b1 b2:Option Addr)(d1 d2:Nat)(m1 m2:List Nat)(w0:World)(h0:RatAt w0 b P0 D0 b1 d1 m1 b2 d2 m2)(hn:D0<0)(hb1:m1.length<1099511627770)(hb2:m2.length<1099511627770):
 Calls Tryz.prog 103 #[.pointer (some ⟨b,0,none⟩)] w0 (RatOk w0 b (mkRat (-P0) D0.natAbs)):=by
 have k0:=h0.c0;have k1:=h0.c1;have k2:=h0.c2;have k3:=h0.c3;have hn0:decide (D0<0)=true:=by simp;omega
 rw[hn0] at k2;have q1:((m2.length:Int) == 0)=false:=by
  rw[beq_eq_false_iff_ne];have:=(h0.den.num.len_zero (by decide)).2;omega
 have HH:=Hi h0;obtain⟨q,hq⟩:∃q,mkRat (-P0) D0.natAbs=q:=⟨_,rfl⟩;rw[hq];have HQ:=Hi hq;clear h0 hn0 hq;have HNA:=Hi (fun u (hu:RatAt u b P0 D0 b1 d1 m1 b2 d2 m2)=>Qe7 b 0 79 _ P0 b1 d1 m1 u hu.sb (Qab _ _ _ _ _ _ _ _) (by simp) hu.upper);go_enter Tryz.func103,Tryz.ntmps103;go_wp2_with fail;go_region_held3 (fun _=>True) (trivial) (first
  |(
   go_at_call 82;refine(HNA.out _ HH.out.drew).mono ?_;rintro e w1 hk;obtain⟨rfl,ho1,a1,c1,l1,hr1,hz1⟩:=HH.out.drew.negA hk;have HO1:=Hi ((Only.refl b w0).drew.trans ho1);have HR1:=Hi hr1
   clear hk ho1 hr1 k0 k1 k2 k3)
  |fail)
 have HNB:=Hi (fun u (hu:RatAt u b (-P0) D0 a1 c1 l1 b2 d2 m2)=>Qe7 b 2 79 _ D0 b2 d2 m2 u hu.sb (Qab _ _ _ _ _ _ _ _) (by simp) hu.lower);go_wp2_with fail;go_region_held3 (fun _=>True) (trivial) (first
  |(
   go_at_call 82;refine(HNB.out _ HR1.out.drew).mono ?_;rintro e w hk;obtain⟨rfl,ho2,a2,c2,l2,h,hz2⟩:=HR1.out.drew.negB hk;have HON:=Hi (HO1.out.trans ((Only.refl b w1).drew.trans ho2))
   clear hk ho2 HNA HNB HR1 HO1 HH)
  |fail)
 obtain⟨P,hP'⟩:∃P,-P0=P:=⟨_,rfl⟩;obtain⟨D,hD'⟩:∃D,-D0=D:=⟨_,rfl⟩;have ePD:D0.natAbs=D.natAbs:=by omega
 rw[hP',hD'] at h;have HQE:Hid (mkRat P D.natAbs=q):=Hi (by rw[←HQ.out,←ePD,hP']);have hD:0<D:=by omega
 have hbb1:l1.length<1099511627770:=by omega
 have hbb2:l2.length<1099511627770:=by omega
 have k0:=h.c0;have k1:=h.c1;have k2:=h.c2;have k3:=h.c3;have hD0:decide (D<0)=false:=by simp;omega
 rw[hD0] at k2;clear hz1 hz2 ePD hb1 hb2;have hb1:=hbb1;have hb2:=hbb2;clear hbb1 hbb2;have q2:((l1.length:Int) == 0)=decide (P=0):=by
  have:=h.num.num.len_zero (by decide);by_cases hp:P=0
  · rw[decide_eq_true hp,this.1 (by omega)];rfl
  ·
   rw[decide_eq_false hp,beq_eq_false_iff_ne];intro hc;have:=this.2 (by omega);omega
 by_cases hP:P=0
 ·
  subst hP;rw[decide_eq_true rfl] at q2;have H:=Hi h;clear h hD0 hP' hD';go_wp2_with fail;refine(Qea b 2 79 _ 1 _ H.out.sb (Qab _ _ _ _ _ _ _ _) (by simp) (by decide) (by decide)).mono ?_;rintro e w1 ⟨rfl,a,cap,l,hl⟩;go_wp2;go_ret;refine RatOk.of HON.out ?_;rw[←HQE.out];rw[Rat.zero_mkRat];refine⟨rfl,hl.only,a1,c1,l1,a,cap,l,?_,?_,hl.num⟩
  · have:=hl.sb
    simpa [putInt] using this
  · exact H.out.num.only hl.only H.out.sb (Qab _ _ _ _ _ _ _ _)
 rw[decide_eq_false hP] at q2;clear hP' hD';by_cases hD1:D=1
 ·
  subst hD1;have hl2:l2= [1]:=Qbp h.den.num;subst hl2;obtain⟨b',o',rfl,hb',hc'⟩:=h.den.row.cell 0 (by simp);have hc':w.cell? ⟨b',o',none⟩=some (.int .u32 1):=by simpa using hc'
  simp only[List.length_singleton] at k3;have H:=Hi h;have e:mkRat P (1:Int).natAbs=(P:Rat):=by
   apply Rat.ext
   · rw[Rat.num_mkRat];simp
   · rw[Rat.den_mkRat];simp
  have HE:=Hi e;clear h hD0 e;go_wp2;go_ret;refine RatOk.of HON.out ?_;rw[←HQE.out];rw[HE.out];exact⟨rfl,Only.refl _ _,_,_,_,_,_,_,H.out⟩
 by_cases hl:l2.length=1
 ·
  obtain⟨d,rfl⟩:∃d,l2= [d]:=by
   match l2,hl with
   | [d],_=>exact⟨d,rfl⟩
  have hd:d≠1:=by
   have:=h.den.num.eq;simp[val] at this;omega
  obtain⟨b',o',rfl,hb',hc'⟩:=h.den.row.cell 0 (by simp);have hc':w.cell? ⟨b',o',none⟩=some (.int .u32 (d:Int)):=by simpa using hc'
  have hq3:((d:Int) == 1)=false:=by rw[beq_eq_false_iff_ne];omega
  simp only[List.length_singleton] at k3;have H:=Hi h;have HG:=Hi (Qc1 a1 (some ⟨b',o',none⟩) c1 c2 l1 ([d]) P.natAbs D.natAbs w.drew h.num.drew h.den.drew (by omega) (by omega));have hlt:=h.sb.lt;clear h hD0;go_wp2;go_region_held3 (fun w'=>w'.cell? ⟨b,1,none⟩=some (.slice a1 l1.length c1)∧w'.cell? ⟨b,3,none⟩=some (.slice (some ⟨b',o',none⟩) (1) c2)) ((simp [*]))
   (first
     |(go_at_call 141;refine HG.out.mono ?_;rintro e w1 ⟨⟨ag,cg,rg,rfl,hug⟩,hb1⟩;have d1:=(hb1.cell (p:=⟨b,1,none⟩) hlt).trans k1;have d3:=(hb1.cell (p:=⟨b,3,none⟩) hlt).trans k3;have HU:=Hi hug;have HB:=Hi ((Below.refl w.heap.size w).drew.trans hb1);clear hug hb1))
  clear k0 k1 k2 k3 HG hc' hq3;obtain⟨g,hg⟩:∃g,Nat.gcd P.natAbs D.natAbs=g:=⟨_,rfl⟩;have hug:=HU.out;rw[hg] at hug;have HUG:=Hi hug;have HGE:=Hi hg;have hg0:0<g:=by rw[←hg];exact Nat.gcd_pos_of_pos_right _ (by omega)
  have H1:=H.out.below HB.out;have hgl:rg.length≤([d]).length:=hug.len_mono H.out.den (by rw[←hg];exact Nat.le_of_dvd (by omega) (Nat.gcd_dvd_right _ _));clear HU;by_cases hg1:g=1
  ·
   subst hg1;have hrg:rg= [1]:=Qbp hug.num;subst hrg;obtain⟨bg,og,rfl,hbg,hcg⟩:=hug.row.cell 0 (by simp);have hcg:w1.cell? ⟨bg,og,none⟩=some (.int .u32 1):=by simpa using hcg
   clear hug hg H1;go_wp2;go_ret;refine RatOk.of HON.out ?_;rw[←HQE.out];obtain⟨e1,e2⟩:=Qdr (P:=P) hD HGE.out;refine RatOk.of (Only.of_below HB.out) ⟨rfl,Only.refl _ _,a1,c1,l1,some ⟨b',o',none⟩,c2,[d],?_⟩;rw[e1,e2];exact H.out.below HB.out
  ·
   have hdv1:g ∣ P.natAbs:=by rw[←hg];exact Nat.gcd_dvd_left _ _
   have HD1:=Hi (Qan a1 ag c1 cg l1 rg P.natAbs g w1 H1.num hug hg0 (by omega));rcases Qds hug.num hg1 with hq5|⟨dd,rfl,hd1⟩
   ·
    clear hug hg H1;go_wp2_with fail;refine HD1.out.mono ?_;rintro e w2 ⟨⟨aq,cq,rq,ar,cr,rr,rfl,hq,hr⟩,hb2⟩;have H2:=(H.out.below HB.out).below hb2;have d3':=H2.c3;have HQ:=Hi hq;have HB2:=Hi hb2;have HD2:=Hi (Qan (some ⟨b',o',none⟩) _ c2 cg ([d]) _ D.natAbs g w2 H2.den (HUG.out.below hb2) hg0 (by omega));clear hq hr hb2 H2;go_wp2_with fail;refine HD2.out.mono ?_;rintro e w3 ⟨⟨as1,cs,rs,at',ct,rt,rfl,hs,ht⟩,hb3⟩;have H3:=((H.out.below HB.out).below HB2.out).below hb3;have f1:=H3.sb.free 1;have f3:=H3.sb.free 3;have f1':=H3.c1;have f3':=H3.c3;have HS:=Hi hs;have HB3:=Hi hb3;have HH3:=Hi H3;clear hs ht hb3 H3;go_wp2;go_ret;refine RatOk.of HON.out ?_;rw[←HQE.out];have ho:Only b w3 ((w3.setCell ⟨b,1,none⟩ (.slice aq rq.length cq)).setCell ⟨b,3,none⟩ (.slice as1 rs.length cs)):=((Only.refl b w3).setCell _ _).setCell _ _;have hdv2:g ∣ D.natAbs:=by rw[←HGE.out];exact Nat.gcd_dvd_right _ _
    obtain⟨e1,e2⟩:=Qbk (P:=P) hD HGE.out;refine RatOk.of (Only.of_below (HB.out.trans ((HB2.out.mono HB.out.size).trans (HB3.out.mono (Nat.le_trans HB.out.size HB2.out.size))))) ⟨rfl,ho,aq,cq,rq,as1,cs,rs,?_,?_,?_⟩
    ·
     have:=(HH3.out.sb.set 1 (.slice aq rq.length cq)).set 3 (.slice as1 rs.length cs);have en:decide ((((mkRat P D.natAbs).den:Nat):Int)<0)=decide (D<0):=by
      apply decide_eq_decide.2;omega
     rw[e1,Qbj P g hg0 hdv1,en]
     simpa using this
    · rw[e1,Qbi P g hg0 hdv1]
      exact(HQ.out.below HB3.out).only ho HH3.out.sb (Qab _ _ _ _ _ _ _ _)
    · rw[e2,Int.natAbs_natCast]
      exact HS.out.only ho HH3.out.sb (Qab _ _ _ _ _ _ _ _)
   ·
    obtain⟨bg,og,rfl,hbg,hcg⟩:=hug.row.cell 0 (by simp);have hcg:w1.cell? ⟨bg,og,none⟩=some (.int .u32 (dd:Int)):=by simpa using hcg
    have hq6:((dd:Int) == 1)=false:=by rw[beq_eq_false_iff_ne];omega
    clear hug hg H1;go_wp2_with fail;refine HD1.out.mono ?_;rintro e w2 ⟨⟨aq,cq,rq,ar,cr,rr,rfl,hq,hr⟩,hb2⟩;have H2:=(H.out.below HB.out).below hb2;have d3':=H2.c3;have HQ:=Hi hq;have HB2:=Hi hb2;have HD2:=Hi (Qan (some ⟨b',o',none⟩) _ c2 cg ([d]) _ D.natAbs g w2 H2.den (HUG.out.below hb2) hg0 (by omega));clear hq hr hb2 H2;go_wp2_with fail;refine HD2.out.mono ?_;rintro e w3 ⟨⟨as1,cs,rs,at',ct,rt,rfl,hs,ht⟩,hb3⟩;have H3:=((H.out.below HB.out).below HB2.out).below hb3;have f1:=H3.sb.free 1;have f3:=H3.sb.free 3;have f1':=H3.c1;have f3':=H3.c3;have HS:=Hi hs;have HB3:=Hi hb3;have HH3:=Hi H3;clear hs ht hb3 H3;go_wp2;go_ret;refine RatOk.of HON.out ?_;rw[←HQE.out];have ho:Only b w3 ((w3.setCell ⟨b,1,none⟩ (.slice aq rq.length cq)).setCell ⟨b,3,none⟩ (.slice as1 rs.length cs)):=((Only.refl b w3).setCell _ _).setCell _ _;have hdv2:g ∣ D.natAbs:=by rw[←HGE.out];exact Nat.gcd_dvd_right _ _
    obtain⟨e1,e2⟩:=Qbk (P:=P) hD HGE.out;refine RatOk.of (Only.of_below (HB.out.trans ((HB2.out.mono HB.out.size).trans (HB3.out.mono (Nat.le_trans HB.out.size HB2.out.size))))) ⟨rfl,ho,aq,cq,rq,as1,cs,rs,?_,?_,?_⟩
    ·
     have:=(HH3.out.sb.set 1 (.slice aq rq.length cq)).set 3 (.slice as1 rs.length cs);have en:decide ((((mkRat P D.natAbs).den:Nat):Int)<0)=decide (D<0):=by
      apply decide_eq_decide.2;omega
     rw[e1,Qbj P g hg0 hdv1,en]
     simpa using this
    · rw[e1,Qbi P g hg0 hdv1]
      exact(HQ.out.below HB3.out).only ho HH3.out.sb (Qab _ _ _ _ _ _ _ _)
    · rw[e2,Int.natAbs_natCast]
      exact HS.out.only ho HH3.out.sb (Qab _ _ _ _ _ _ _ _)
 ·
  have hq3:((l2.length:Int) == 1)=false:=by rw[beq_eq_false_iff_ne];omega
  have H:=Hi h;have HG:=Hi (Qc1 a1 (a2) c1 c2 l1 (l2) P.natAbs D.natAbs w.drew h.num.drew h.den.drew (by omega) (by omega));have hlt:=h.sb.lt;clear h hD0;go_wp2;go_region_held3 (fun w'=>w'.cell? ⟨b,1,none⟩=some (.slice a1 l1.length c1)∧w'.cell? ⟨b,3,none⟩=some (.slice (a2) (l2.length) c2)) ((simp [*]))
   (first
     |(go_at_call 141;refine HG.out.mono ?_;rintro e w1 ⟨⟨ag,cg,rg,rfl,hug⟩,hb1⟩;have d1:=(hb1.cell (p:=⟨b,1,none⟩) hlt).trans k1;have d3:=(hb1.cell (p:=⟨b,3,none⟩) hlt).trans k3;have HU:=Hi hug;have HB:=Hi ((Below.refl w.heap.size w).drew.trans hb1);clear hug hb1))
  clear k0 k1 k2 k3 HG hq3;obtain⟨g,hg⟩:∃g,Nat.gcd P.natAbs D.natAbs=g:=⟨_,rfl⟩;have hug:=HU.out;rw[hg] at hug;have HUG:=Hi hug;have HGE:=Hi hg;have hg0:0<g:=by rw[←hg];exact Nat.gcd_pos_of_pos_right _ (by omega)
  have H1:=H.out.below HB.out;have hgl:rg.length≤(l2).length:=hug.len_mono H.out.den (by rw[←hg];exact Nat.le_of_dvd (by omega) (Nat.gcd_dvd_right _ _));clear HU;by_cases hg1:g=1
  ·
   subst hg1;have hrg:rg= [1]:=Qbp hug.num;subst hrg;obtain⟨bg,og,rfl,hbg,hcg⟩:=hug.row.cell 0 (by simp);have hcg:w1.cell? ⟨bg,og,none⟩=some (.int .u32 1):=by simpa using hcg
   clear hug hg H1;go_wp2;go_ret;refine RatOk.of HON.out ?_;rw[←HQE.out];obtain⟨e1,e2⟩:=Qdr (P:=P) hD HGE.out;refine RatOk.of (Only.of_below HB.out) ⟨rfl,Only.refl _ _,a1,c1,l1,a2,c2,l2,?_⟩;rw[e1,e2];exact H.out.below HB.out
  ·
   have hdv1:g ∣ P.natAbs:=by rw[←hg];exact Nat.gcd_dvd_left _ _
   have HD1:=Hi (Qan a1 ag c1 cg l1 rg P.natAbs g w1 H1.num hug hg0 (by omega));rcases Qds hug.num hg1 with hq5|⟨dd,rfl,hd1⟩
   ·
    clear hug hg H1;go_wp2_with fail;refine HD1.out.mono ?_;rintro e w2 ⟨⟨aq,cq,rq,ar,cr,rr,rfl,hq,hr⟩,hb2⟩;have H2:=(H.out.below HB.out).below hb2;have d3':=H2.c3;have HQ:=Hi hq;have HB2:=Hi hb2;have HD2:=Hi (Qan (a2) _ c2 cg (l2) _ D.natAbs g w2 H2.den (HUG.out.below hb2) hg0 (by omega));clear hq hr hb2 H2;go_wp2_with fail;refine HD2.out.mono ?_;rintro e w3 ⟨⟨as1,cs,rs,at',ct,rt,rfl,hs,ht⟩,hb3⟩;have H3:=((H.out.below HB.out).below HB2.out).below hb3;have f1:=H3.sb.free 1;have f3:=H3.sb.free 3;have f1':=H3.c1;have f3':=H3.c3;have HS:=Hi hs;have HB3:=Hi hb3;have HH3:=Hi H3;clear hs ht hb3 H3;go_wp2;go_ret;refine RatOk.of HON.out ?_;rw[←HQE.out];have ho:Only b w3 ((w3.setCell ⟨b,1,none⟩ (.slice aq rq.length cq)).setCell ⟨b,3,none⟩ (.slice as1 rs.length cs)):=((Only.refl b w3).setCell _ _).setCell _ _;have hdv2:g ∣ D.natAbs:=by rw[←HGE.out];exact Nat.gcd_dvd_right _ _
    obtain⟨e1,e2⟩:=Qbk (P:=P) hD HGE.out;refine RatOk.of (Only.of_below (HB.out.trans ((HB2.out.mono HB.out.size).trans (HB3.out.mono (Nat.le_trans HB.out.size HB2.out.size))))) ⟨rfl,ho,aq,cq,rq,as1,cs,rs,?_,?_,?_⟩
    ·
     have:=(HH3.out.sb.set 1 (.slice aq rq.length cq)).set 3 (.slice as1 rs.length cs);have en:decide ((((mkRat P D.natAbs).den:Nat):Int)<0)=decide (D<0):=by
      apply decide_eq_decide.2;omega
     rw[e1,Qbj P g hg0 hdv1,en]
     simpa using this
    · rw[e1,Qbi P g hg0 hdv1]
      exact(HQ.out.below HB3.out).only ho HH3.out.sb (Qab _ _ _ _ _ _ _ _)
    · rw[e2,Int.natAbs_natCast]
      exact HS.out.only ho HH3.out.sb (Qab _ _ _ _ _ _ _ _)
   ·
    obtain⟨bg,og,rfl,hbg,hcg⟩:=hug.row.cell 0 (by simp);have hcg:w1.cell? ⟨bg,og,none⟩=some (.int .u32 (dd:Int)):=by simpa using hcg
    have hq6:((dd:Int) == 1)=false:=by rw[beq_eq_false_iff_ne];omega
    clear hug hg H1;go_wp2_with fail;refine HD1.out.mono ?_;rintro e w2 ⟨⟨aq,cq,rq,ar,cr,rr,rfl,hq,hr⟩,hb2⟩;have H2:=(H.out.below HB.out).below hb2;have d3':=H2.c3;have HQ:=Hi hq;have HB2:=Hi hb2;have HD2:=Hi (Qan (a2) _ c2 cg (l2) _ D.natAbs g w2 H2.den (HUG.out.below hb2) hg0 (by omega));clear hq hr hb2 H2;go_wp2_with fail;refine HD2.out.mono ?_;rintro e w3 ⟨⟨as1,cs,rs,at',ct,rt,rfl,hs,ht⟩,hb3⟩;have H3:=((H.out.below HB.out).below HB2.out).below hb3;have f1:=H3.sb.free 1;have f3:=H3.sb.free 3;have f1':=H3.c1;have f3':=H3.c3;have HS:=Hi hs;have HB3:=Hi hb3;have HH3:=Hi H3;clear hs ht hb3 H3;go_wp2;go_ret;refine RatOk.of HON.out ?_;rw[←HQE.out];have ho:Only b w3 ((w3.setCell ⟨b,1,none⟩ (.slice aq rq.length cq)).setCell ⟨b,3,none⟩ (.slice as1 rs.length cs)):=((Only.refl b w3).setCell _ _).setCell _ _;have hdv2:g ∣ D.natAbs:=by rw[←HGE.out];exact Nat.gcd_dvd_right _ _
    obtain⟨e1,e2⟩:=Qbk (P:=P) hD HGE.out;refine RatOk.of (Only.of_below (HB.out.trans ((HB2.out.mono HB.out.size).trans (HB3.out.mono (Nat.le_trans HB.out.size HB2.out.size))))) ⟨rfl,ho,aq,cq,rq,as1,cs,rs,?_,?_,?_⟩
    ·
     have:=(HH3.out.sb.set 1 (.slice aq rq.length cq)).set 3 (.slice as1 rs.length cs);have en:decide ((((mkRat P D.natAbs).den:Nat):Int)<0)=decide (D<0):=by
      apply decide_eq_decide.2;omega
     rw[e1,Qbj P g hg0 hdv1,en]
     simpa using this
    · rw[e1,Qbi P g hg0 hdv1]
      exact(HQ.out.below HB3.out).only ho HH3.out.sb (Qab _ _ _ _ _ _ _ _)
    · rw[e2,Int.natAbs_natCast]
      exact HS.out.only ho HH3.out.sb (Qab _ _ _ _ _ _ _ _)
set_option maxRecDepth 100000 in
set_option maxHeartbeats 2000000 in
theorem Qp2(bz:Nat)(s0 s1 s2 s3:Value)(ba oa:Nat)(A:Int)(a1:Option Addr)(c1:Nat)(l1:List Nat)(bb ob:Nat)(B:Int)(a2:Option Addr)(c2:Nat)(l2:List Nat)(w:World)
 (hs:SB w bz 79 #[s0,s1,s2,s3]) (hn:NoInt #[s0,s1,s2,s3]) (ha:IntAt w ba oa A a1 c1 l1) (hb:IntAt w bb ob B a2 c2 l2) (hB:B<0) (h1:l1.length<1099511627770) (h2:l2.length<1099511627770):
 Calls Tryz.prog 53 #[.pointer (some ⟨bz,0,none⟩),.pointer (some ⟨ba,oa,none⟩),.pointer (some ⟨bb,ob,none⟩)] w (RatOk w bz (mkRat (-A) B.natAbs)):=by
 have k1:=hb.abs;have q1:((l2.length:Int) == 0)=false:=by
  rw[beq_eq_false_iff_ne];have:=(hb.num.num.len_zero (by decide)).2;omega
 have HS:=Hi hs;have HN:=Hi hn;have HA:=Hi ha;have HBB:=Hi hb;have hlt:=hs.lt;have hla:=ha.lt;have hlb:=hb.lt;clear hs hn ha hb;replace hB:=Hi hB;go_enter Tryz.func53,Tryz.ntmps53;go_wp2_with fail;have hal:Below w.heap.size w (w.alloc (.cells #[.bool false,.slice none 0 0] 77)):=(Below.refl _ _).alloc (Nat.le_refl _) _;refine(Qde w.heap.size 0 77 _ ba oa A a1 c1 l1 _ (SB.new w 77 _) Tryz.int_zero (by simp) (HA.out.below hal) (by omega)).mono ?_;rintro e w1 ⟨rfl,ap,cp,lp,hp⟩;have hb1:Below w.heap.size w w1:=Only.fresh hal hp.only (Nat.le_refl _);have hs1:w.heap.size<w1.heap.size:=by have:=hp.only.size;simp at this;omega
 have hal2:Below w1.heap.size w1 (w1.alloc (.cells #[.bool false,.slice none 0 0] 77)):=(Below.refl _ _).alloc (Nat.le_refl _) _;have HI2:=Hi (Qde w1.heap.size 0 77 _ bb ob B a2 c2 l2 _ (SB.new w1 77 _) Tryz.int_zero (by simp) ((HBB.out.below hb1).below hal2) (by omega));have HP:=Hi hp;have HB1:=Hi hb1;have HAL2:=Hi hal2;clear hp hb1 hal hal2;go_wp2_with fail;refine HI2.out.mono ?_;rintro e w2 ⟨rfl,aq,cq,lq,hq⟩;have hb2:Below w1.heap.size w1 w2:=Only.fresh HAL2.out hq.only (Nat.le_refl _);have hpat:=(HP.out.at (by simp)).below hb2;have hqat:=hq.at (by simp);have hsz:=((HS.out.below HB1.out HS.out.lt).below hb2 (by omega));have p0:=hpat.neg;have p1:=hpat.abs;have r0:=hqat.neg;have r1:=hqat.abs;have z0:w2.cell? ⟨bz,0,none⟩=some s0:=by rw[hsz.cell];rfl
 have z1:w2.cell? ⟨bz,1,none⟩=some s1:=by rw[hsz.cell];rfl
 have z2:w2.cell? ⟨bz,2,none⟩=some s2:=by rw[hsz.cell];rfl
 have z3:w2.cell? ⟨bz,3,none⟩=some s3:=by rw[hsz.cell];rfl
 have f0:=hsz.free 0;have f1:=hsz.free 1;have f2:=hsz.free 2;have f3:=hsz.free 3;have HPA:=Hi hpat;have HQA:=Hi hqat;have HSZ:=Hi hsz;have HB2:=Hi hb2;clear hq hpat hqat hsz hb2;simp only[Nat.zero_add] at p1 r1;go_wp2_with fail;have ho:Only bz w2 ((((w2.setCell ⟨bz,0,none⟩ (.bool (decide (A<0)))).setCell ⟨bz,1,none⟩ (.slice ap lp.length cp)).setCell ⟨bz,2,none⟩ (.bool (decide (B<0)))).setCell ⟨bz,3,none⟩ (.slice aq lq.length cq)):=
  ((((Only.refl bz w2).setCell _ _).setCell _ _).setCell _ _).setCell _ _
 have hrat:RatAt ((((w2.setCell ⟨bz,0,none⟩ (.bool (decide (A<0)))).setCell ⟨bz,1,none⟩ (.slice ap lp.length cp)).setCell ⟨bz,2,none⟩ (.bool (decide (B<0)))).setCell ⟨bz,3,none⟩ (.slice aq lq.length cq)) bz A B ap cp lp aq cq lq:=by
  refine⟨?_,HPA.out.num.only ho HSZ.out HN.out,HQA.out.num.only ho HSZ.out HN.out⟩;have:=(((HSZ.out.set 0 (.bool (decide (A<0)))).set 1 (.slice ap lp.length cp)).set 2 (.bool (decide (B<0)))).set 3 (.slice aq lq.length cq)
  simpa using this
 have hlp:lp.length≤l1.length:=HPA.out.num.len_mono HA.out.num (Nat.le_refl _);have hlq:lq.length≤l2.length:=HQA.out.num.len_mono HBB.out.num (Nat.le_refl _);refine(Qp1 bz A B ap aq cp cq lp lq _ hrat hB.out (by omega) (by omega)).mono ?_;rintro e w3 hok;have hok':RatOk w bz (mkRat (-A) B.natAbs) e w3:=RatOk.of ((Only.of_below (HB1.out.trans (HB2.out.mono (by omega)))).trans ho) hok;obtain⟨rfl,hon,hr⟩:=hok';clear hok ho hrat;go_wp2;go_ret;exact⟨rfl,hon,hr⟩
theorem Bag.setFracN{w0 w:World}{Z:List Nat}{L:List Thing}{bz ba oa bb ob K1 K2:Nat}{A B:Int}(h:Bag w0 w Z L)(hz:.room bz∈ L)(ha:.int ba oa A K1∈ L)(hb:.int bb ob B K2∈ L)(hB:B<0)(h1:K1<1099511627770)(h2:K2<1099511627770):
 Calls Tryz.prog 53 #[.pointer (some ⟨bz,0,none⟩),.pointer (some ⟨ba,oa,none⟩),.pointer (some ⟨bb,ob,none⟩)] w (RatOk w0 bz (mkRat (-A) B.natAbs)):=by
 obtain⟨⟨s0,s1,s2,s3,hs,hn⟩,_⟩:=h.ts _ hz;obtain⟨⟨a,cap,l,ha,h3⟩,_⟩:=h.ts _ ha;obtain⟨⟨b,cap',m,hb,h4⟩,_⟩:=h.ts _ hb;refine(Qp2 bz s0 s1 s2 s3 ba oa A a cap l bb ob B b cap' m w hs hn ha hb hB (by omega) (by omega)).mono ?_;intro e w' hk;exact RatOk.of (Only.of_below h.base) hk
theorem Qp3(p q:Rat)(hq:q.num<0):mkRat (-(p.num*(q.den:Int))) ((p.den:Int)*q.num).natAbs=p / q:=by
 have h:0<(-q).num:=by rw[Rat.neg_num];omega
 have h1:=Qia (-p) (-q) h;rw[Rat.neg_num,Rat.neg_den,Rat.neg_num,Rat.neg_den] at h1;have e: -p / -q=p / q:=by
  have hq0:q≠0:=fun e=>by rw[e] at hq;exact absurd hq (by decide)
  grind
 rw[←e,←h1]
 congr 1
 · grind
 · rw[Int.natAbs_mul,Int.natAbs_mul,Int.natAbs_neg]
set_option maxRecDepth 100000 in
set_option maxHeartbeats 4000000 in
theorem Qp4(bz bx bv j k:Nat)(p q:Rat)(w:World)(hz:(Thing.room bz).holds w)(hx:RatVal w bx p)(hy:RatVal w bv q)(hp:Fits p j)(hq:Fits q k)(hj:j+k<274877906000)(hq0:q.num<0):
 Calls Tryz.prog 86 #[.pointer (some ⟨bz,0,none⟩),.pointer (some ⟨bx,0,none⟩),.pointer (some ⟨bv,0,none⟩)] w (RatOk w bz (p / q)):=by
 have hd1:=Qav p;have hd2:=Qav q;have HPOS:=Hi (Int.mul_neg_of_pos_of_neg hd1 hq0);have HE:=Hi (Qp3 p q hq0);have HB:=Hi (Bag.two hx hy hz hp hq);clear hx hy hz hp hq hd1 hd2;go_enter Tryz.func86,Tryz.ntmps86;go_wp2;go_region_held3 (fun _=>True) (trivial) (first
  |
   (go_at_call 73
    apply Calls.mono;apply Bag.mul (w0:=w);(focus(repeat(first|exact HB.out|apply Bag.alloc|apply Bag.drew)));(focus(simp only[mem_less,List.mem_cons,List.not_mem_nil,or_false,size_drew,World.size_alloc,true_or,or_true,true_and,and_true]<;>omega));(focus(repeat(first|exact List.Mem.head _|apply List.Mem.tail)));(focus(repeat(first|exact List.Mem.head _|apply List.Mem.tail)));omega;rintro e w1 ⟨rfl,hbag,hsz,hlt⟩;clear HB;have HB:=Hi hbag;clear hbag
    (try simp only[size_drew,World.size_alloc] at hsz))
  |
   (go_at_call 71
    apply Calls.mono;apply Bag.den (w0:=w);(focus(repeat(first|exact HB.out|apply Bag.alloc|apply Bag.drew)));(focus(repeat(first|exact List.Mem.head _|apply List.Mem.tail)));rintro e w1 ⟨b1,o1,rfl,hbag,hsz⟩;clear HB;have HB:=Hi hbag;clear hbag
    (try simp only[size_drew,World.size_alloc] at hsz))
  |
   (go_at_call 73
    apply Calls.mono;apply Bag.mul (w0:=w);(focus(repeat(first|exact HB.out|apply Bag.alloc|apply Bag.drew)));(focus(simp only[mem_less,List.mem_cons,List.not_mem_nil,or_false,size_drew,World.size_alloc,true_or,or_true,true_and,and_true]<;>omega));(focus(repeat(first|exact List.Mem.head _|apply List.Mem.tail)));(focus(repeat(first|exact List.Mem.head _|apply List.Mem.tail)));omega;rintro e w1 ⟨rfl,hbag,hsz,hlt⟩;clear HB;have HB:=Hi hbag;clear hbag
    (try simp only[size_drew,World.size_alloc] at hsz))
  |
   (go_at_call 53
    apply Calls.mono;apply Bag.setFracN (w0:=w);(focus(repeat(first|exact HB.out|apply Bag.alloc|apply Bag.drew)));(focus(repeat(first|exact List.Mem.head _|apply List.Mem.tail)));(focus(repeat(first|exact List.Mem.head _|apply List.Mem.tail)));(focus(repeat(first|exact List.Mem.head _|apply List.Mem.tail)));exact HPOS.out;omega;omega;rintro e w5 hok;have HF:=Hi hok;obtain⟨rfl,hon,hr⟩:=hok
    clear HB hon hr)
  )
 all_goals
  go_wp2;go_ret;rw[←HE.out];exact HF.out
theorem Qp5(bz bx bv j k:Nat)(p q:Rat)(w:World)(hz:(Thing.room bz).holds w)(hx:RatVal w bx p)(hy:RatVal w bv q)(hp:Fits p j)(hq:Fits q k)(hj:j+k<274877906000)(hq0:q.num≠0):
 Calls Tryz.prog 86 #[.pointer (some ⟨bz,0,none⟩),.pointer (some ⟨bx,0,none⟩),.pointer (some ⟨bv,0,none⟩)] w (RatOk w bz (p / q)):=by
 by_cases h:0<q.num
 · exact Qp0 bz bx bv j k p q w hz hx hy hp hq hj h
 · exact Qp4 bz bx bv j k p q w hz hx hy hp hq hj (by omega)
set_option maxHeartbeats 400000 in
theorem Qp6(bx bv j k:Nat)(p q:Rat)(w:World)(hx:RatVal w bx p)(hy:RatVal w bv q)(hp:Fits p j)(hq:Fits q k)(hj:j+k<274877906000)(hq0:q.num≠0):
 Calls Tryz.prog 44 #[.pointer (some ⟨bx,0,none⟩),.pointer (some ⟨bv,0,none⟩)] w (NewRat w (p / q)):=by
 have HC:=Hi (Qp5 w.heap.size bx bv j k p q _ (Qb7 w) (hx.alloc _) (hy.alloc _) hp hq hj hq0);clear hx hy hp hq hj hq0;go_enter Tryz.func44,Tryz.ntmps44;go_wp2_with fail;refine HC.out.mono ?_;rintro e w1 hok;have HF:=Hi (RatOk.new hok);obtain⟨rfl,hon,hr⟩:=hok;clear hon hr HC;go_wp2;go_ret;exact HF.out
end Go.Proofs.YtodfmpjhcmapmaaGreatDoor
