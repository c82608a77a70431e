/- package near: lengthSquared, pull. -/
import Derived.Test.YtodfmpjhcmapmaaGreatDoorN43NeaM
namespace Go.Proofs.YtodfmpjhcmapmaaGreatDoor
open Go.RowKit
set_option linter.unusedVariables false
set_option linter.unusedSimpArgs false
def NR(q:Rat):Fact:=fun v _=>∃r,v=.float .f64 r∧r≤9218868437227405312∧∀N,N=1074→Nea.Near (q*((4 ^ N:Nat):Rat)) r
theorem NR.stays(q:Rat):Stays (NR q):=fun _ _ _ _ h=>h
theorem FF.root{u:Value}{q:Rat}{k:Nat}{w:World}(h:FF q k u w)(hq:0<q)(hk:k≤2000000000):Calls Tryz.prog 22 #[u] w (Makes w (NR q)):=by
 refine(Qn2 h.1 hq h.2.1 hk rfl).mono ?_;rintro e w' ⟨⟨r,rfl,h1,h2⟩,hb⟩;exact⟨_,rfl,hb,r,rfl,h1,fun N hN=>by subst hN;exact h2⟩
def PU(p q:Rat):Fact:=fun v w=>(p.num=0→v=.float .f64 0)∧(0<p.num→NR (p*p*q) v w)∧(p.num<0→∃r,v=.float .f64 (9223372036854775808+r)∧NR (p*p*q) (.float .f64 r) w)
theorem Qev{p q:Rat}(h:p.num≠0)(hq:0<q):0<p*p*q:=by
 have hp:p≠0:=fun e=>h (by rw[e];rfl)
 have h2:0<p*p:=by
  rcases Rat.le_total (a:=0) (b:=p) with h1|h1
  · have:0<p:=Rat.lt_of_le_of_ne h1 (Ne.symm hp)
    exact Rat.mul_pos this this
  ·
   have:0< -p:=by
    have:=Rat.lt_of_le_of_ne h1 hp;exact Rat.lt_neg_iff.2 (by simpa using this)
   have h3:=Rat.mul_pos this this
   rwa [Rat.neg_mul,Rat.mul_neg,Rat.neg_neg] at h3
 exact Rat.mul_pos h2 hq
theorem Qhn{r:Nat}(h:r<2 ^ 63):r ^^^ 2 ^ 63=2 ^ 63+r:=by
 have e:=Nat.two_pow_add_eq_or_of_lt (i:=63) (b:=r) h 1;rw[Nat.mul_one] at e;rw[e];apply Nat.eq_of_testBit_eq;intro j;rw[Nat.testBit_xor,Nat.testBit_or,Nat.testBit_two_pow];by_cases hj:63=j
 ·
  subst hj;rw[Nat.testBit_lt_two_pow h];simp
 · simp[hj]
theorem Qn7{r:Nat}(h:r≤9218868437227405312)(P:Program)(w:World):(Op.unary .neg (.float .f64 r)).run P w=.ok (.float .f64 (9223372036854775808+r)) w:=by
 have e:Op.negFloat .f64 r=9223372036854775808+r:=Qhn (Nat.lt_of_le_of_lt h (by decide));simp[Op.unary,e]
def NG(q:Rat):Fact:=fun v w=>∃r,v=.float .f64 (9223372036854775808+r)∧NR q (.float .f64 r) w
theorem NG.stays(q:Rat):Stays (NG q):=fun _ _ _ _ h=>h
set_option maxRecDepth 100000 in
set_option maxHeartbeats 1000000 in
theorem Qn8{u v:Value}{p q:Rat}{j k:Nat}{w:World}(h1:FF p j u w)(h2:FF q k v w)(hj:j+j+k≤2000000000)(hq:0<q):Calls Tryz.prog 28 #[u,v] w (Makes w (PU p q)):=by
 have H1:=Hi h1;have H2:=Hi h2;obtain⟨⟨neg,a,n,c,b,m,d,rfl,hat⟩,hf,h0⟩:=h1;obtain⟨⟨neg2,a2,n2,c2,b2,m2,d2,rfl,hat2⟩,hf2,h02⟩:=h2;clear hat hf hat2 hf2;obtain⟨V,hV⟩:∃V,(w.alloc (.cells #[.bool neg,.slice a n c,.slice b m d] 62)).alloc (.cells #[.bool neg2,.slice a2 n2 c2,.slice b2 m2 d2] 62)=V:=⟨_,rfl⟩;have HBP:Hid (Below w.heap.size w V):=Hi (by rw[←hV];exact Below.new2 w _ _);have HS0:Hid (SB V w.heap.size 62 #[.bool neg,.slice a n c,.slice b m d]):=Hi (by
  rw[←hV]
  exact(SB.new w _ _).below ((Below.refl _ _).alloc (Nat.le_refl _) _) (by rw[World.size_alloc];omega))
 have HS1:Hid (SB V (w.heap.size+1) 62 #[.bool neg2,.slice a2 n2 c2,.slice b2 m2 d2]):=Hi (by rw[←hV];exact SB.new2 w _ _ _ _);have HLT:=Hi (And.intro HS0.out.lt HS1.out.lt);have HK0:=Hi (HS0.out.cell 0);have HK1:=Hi (HS0.out.cell 1);have HK2:=Hi (HS0.out.cell 2);have HM0:=Hi (HS1.out.cell 0);have HM1:=Hi (HS1.out.cell 1);have HM2:=Hi (HS1.out.cell 2);simp only[List.getElem?_toArray,List.getElem?_cons_zero,List.getElem?_cons_succ] at HK0 HK1 HK2 HM0 HM1 HM2;have H1V:=Hi (H1.out.below HBP.out);have H2V:=Hi (H2.out.below HBP.out);have HVE:=Hi hV;have HJ:=Hi (And.intro hj hq);have HJ2:Hid (j<68719476000∧j+j+k<68719476000):=Hi (by omega);clear hV hj hq H1 H2 HS0 HS1 h0 h02;go_enter Tryz.func28,Tryz.ntmps28;go_wp2_with fail;rw[HVE.out];refine Makes.use (FF.sign H1V.out) ?_;rintro _ w1 hb rfl;generalize hB:w.heap.size=B at*;have HBC:=Hi hb;have HBE:=Hi hB;clear hb hB
 have k0:=(HBC.out.cell (p:=⟨B,0,none⟩) HLT.out.1).trans HK0.out;have k1:=(HBC.out.cell (p:=⟨B,1,none⟩) HLT.out.1).trans HK1.out;have k2:=(HBC.out.cell (p:=⟨B,2,none⟩) HLT.out.1).trans HK2.out;have m0:=(HBC.out.cell (p:=⟨B+1,0,none⟩) HLT.out.2).trans HM0.out;have m1:=(HBC.out.cell (p:=⟨B+1,1,none⟩) HLT.out.2).trans HM1.out;have m2:=(HBC.out.cell (p:=⟨B+1,2,none⟩) HLT.out.2).trans HM2.out;by_cases z0:p.num=0
 ·
  have e:sgn3 p.num=0:=by rw[z0];rfl
  rw[e];clear e;have HZ:=Hi z0;clear z0;go_wp2;go_ret;exact⟨_,rfl,by rw[HBE.out];exact HBP.out.trans (HBC.out.mono (by rw[←HBE.out];exact HBP.out.size)),fun _=>rfl,fun h=>absurd HZ.out (by omega),fun h=>absurd HZ.out (by omega)⟩
 by_cases z1:p.num<0
 ·
  have e:sgn3 p.num= -1:=by unfold sgn3;rw[if_pos z1]
  rw[e];clear e;have HZ:=Hi z1;have HPQ:=Hi (Qev z0 HJ.out.2);clear z0 z1;go_wp2_with fail;clear k0 k1 k2 m0 m1 m2;have HBD:=Hi (HBC.out.trans ((Below.refl _ w1).drew.mono HBC.out.size));refine RegG.bg 7 (fun j=>some (bif j == 6 then 4 else 16+j)) ?_;refine RegG.pu (c:=?_) [] (fun w hb=>?_) ?_;rotate_left
  ·
   intro K hK;have hz:=HBD.out.trans (hb.mono HBD.out.size);have k0:=(hz.cell (p:=⟨B,0,none⟩) HLT.out.1).trans HK0.out;have k1:=(hz.cell (p:=⟨B,1,none⟩) HLT.out.1).trans HK1.out;have k2:=(hz.cell (p:=⟨B,2,none⟩) HLT.out.1).trans HK2.out;go_simp;exact hK
  refine RegG.ca (φ:=FF (p*p) (j+j)) [0] (FF.stays _ _) (fun w hb=>?_) ?_
  ·
   skip;intro K hK;go_simp;exact Makes.use (FF.squared (H1V.out.below (HBD.out.trans (hb.mono HBD.out.size))) HJ2.out.1) hK
  refine RegG.pu (c:=?_) [] (fun w hb=>?_) ?_;rotate_left
  ·
   intro K hK;have hz:=HBD.out.trans (hb.mono HBD.out.size);have m0:=(hz.cell (p:=⟨B+1,0,none⟩) HLT.out.2).trans HM0.out;have m1:=(hz.cell (p:=⟨B+1,1,none⟩) HLT.out.2).trans HM1.out;have m2:=(hz.cell (p:=⟨B+1,2,none⟩) HLT.out.2).trans HM2.out;go_simp;exact hK
  refine RegG.ca (φ:=FF (p*p*q) (j+j+k)) [1,2] (FF.stays _ _) (fun w hb=>?_) ?_
  ·
   intro v1 h1;intro K hK;go_simp;exact Makes.use (FF.times h1 (H2V.out.below (HBD.out.trans (hb.mono HBD.out.size))) HJ2.out.2) hK
  refine RegG.ca (φ:=NR (p*p*q)) [3] (NR.stays _) (fun w hb=>?_) ?_
  ·
   intro v3 h3;intro K hK;go_simp;exact Makes.use (FF.root h3 HPQ.out HJ.out.1) hK
  refine RegG.ca (φ:=NG (p*p*q)) [4] (NG.stays _) (fun w hb=>?_) ?_
  ·
   rintro v4 ⟨r,rfl,hr1,hr2⟩ K hK;have hn:=Qn7 hr1 Tryz.prog w;go_simp;exact hK _ _ (Below.refl _ _) ⟨r,rfl,r,rfl,hr1,hr2⟩
  refine RegG.ca (φ:=NG (p*p*q)) [5] (NG.stays _) (fun w hb=>?_) ?_
  ·
   intro v4 h4 K hK;go_simp;exact hK _ _ (Below.refl _ _) h4
  refine RegG.fi (fun u9 hb=>?_);intro v1 h1 v3 h3 v4 h4 v5 h5 v6 h6;have HB9:=Hi (HBD.out.trans (hb.mono HBD.out.size));have H6:=Hi h6;clear h1 h3 h4 h5 h6 hb;go_wp2;go_ret;exact⟨_,rfl,by rw[HBE.out];exact HBP.out.trans (HB9.out.mono (by rw[←HBE.out];exact HBP.out.size)),fun h=>absurd HZ.out (by omega),fun h=>absurd HZ.out (by omega),fun _=>H6.out⟩
 ·
  have e:sgn3 p.num=1:=by unfold sgn3;rw[if_neg z1,if_neg z0]
  rw[e];clear e;have HZ:=Hi (And.intro z0 z1);have HPQ:=Hi (Qev z0 HJ.out.2);clear z0 z1;go_wp2_with fail;clear k0 k1 k2 m0 m1 m2;have HBD:=Hi (HBC.out.trans ((Below.refl _ w1).drew.mono HBC.out.size));refine RegG.bg 6 (fun j=>some (bif j == 5 then 4 else 7+j)) ?_;refine RegG.pu (c:=?_) [] (fun w hb=>?_) ?_;rotate_left
  ·
   intro K hK;have hz:=HBD.out.trans (hb.mono HBD.out.size);have k0:=(hz.cell (p:=⟨B,0,none⟩) HLT.out.1).trans HK0.out;have k1:=(hz.cell (p:=⟨B,1,none⟩) HLT.out.1).trans HK1.out;have k2:=(hz.cell (p:=⟨B,2,none⟩) HLT.out.1).trans HK2.out;go_simp;exact hK
  refine RegG.ca (φ:=FF (p*p) (j+j)) [0] (FF.stays _ _) (fun w hb=>?_) ?_
  ·
   skip;intro K hK;go_simp;exact Makes.use (FF.squared (H1V.out.below (HBD.out.trans (hb.mono HBD.out.size))) HJ2.out.1) hK
  refine RegG.pu (c:=?_) [] (fun w hb=>?_) ?_;rotate_left
  ·
   intro K hK;have hz:=HBD.out.trans (hb.mono HBD.out.size);have m0:=(hz.cell (p:=⟨B+1,0,none⟩) HLT.out.2).trans HM0.out;have m1:=(hz.cell (p:=⟨B+1,1,none⟩) HLT.out.2).trans HM1.out;have m2:=(hz.cell (p:=⟨B+1,2,none⟩) HLT.out.2).trans HM2.out;go_simp;exact hK
  refine RegG.ca (φ:=FF (p*p*q) (j+j+k)) [1,2] (FF.stays _ _) (fun w hb=>?_) ?_
  ·
   intro v1 h1;intro K hK;go_simp;exact Makes.use (FF.times h1 (H2V.out.below (HBD.out.trans (hb.mono HBD.out.size))) HJ2.out.2) hK
  refine RegG.ca (φ:=NR (p*p*q)) [3] (NR.stays _) (fun w hb=>?_) ?_
  ·
   intro v3 h3;intro K hK;go_simp;exact Makes.use (FF.root h3 HPQ.out HJ.out.1) hK
  refine RegG.ca (φ:=NR (p*p*q)) [4] (NR.stays _) (fun w hb=>?_) ?_
  ·
   intro v4 h4 K hK;go_simp;exact hK _ _ (Below.refl _ _) h4
  refine RegG.fi (fun u9 hb=>?_);intro v1 h1 v3 h3 v4 h4 v5 h5;have HB9:=Hi (HBD.out.trans (hb.mono HBD.out.size));have H5:=Hi h5;clear h1 h3 h4 h5 hb;go_wp2;go_ret;exact⟨_,rfl,by rw[HBE.out];exact HBP.out.trans (HB9.out.mono (by rw[←HBE.out];exact HBP.out.size)),fun h=>absurd h HZ.out.1,fun _=>H5.out,fun h=>absurd HZ.out.2 (by omega)⟩
set_option maxRecDepth 100000 in
set_option maxHeartbeats 1000000 in
theorem Qn9(a1 a2 a3:Option Addr)(c1 c2 c3 nb nh A B n:Nat)(js:List S2)(b:B6)(s t:S2)(w:World)(hg:Glob w)(hj:ARow S2.cells w a1 c1 js)(hA:b.a=(A:Nat))(hB:b.b=(B:Nat))(hs:js[A]?=some s)(ht:js[B]?=some t)
 (hl:js.length≤10) (z1:s.x.size≤n) (z2:s.y.size≤n) (z3:t.x.size≤n) (z4:t.y.size≤n) (hn:n≤1073741824) {x1 y1 x2 y2:Rat} (q1:QOf s.x.data.toList x1) (q2:QOf s.y.data.toList y1) (q3:QOf t.x.data.toList x2) (q4:QOf t.y.data.toList y2):
 Calls Tryz.prog 23 #[.agg #[.slice a1 js.length c1,.slice a2 nb c2,.slice a3 nh c3],.agg #[.int .i64 b.a,.int .i64 b.b,.string b.c,.string b.e,.string b.l,.string b.m]] w (Makes w (FF ((x2 - x1)*(x2 - x1)+(y2 - y1)*(y2 - y1)) (32*n+16))):=by
 obtain⟨V,hV⟩:∃V,((w.alloc (.cells #[.slice a1 js.length c1,.slice a2 nb c2,.slice a3 nh c3] 26)).alloc (.cells #[.int .i64 b.a,.int .i64 b.b,.string b.c,.string b.e,.string b.l,.string b.m] 39)).alloc (.cells zeroFrac 62)=V:=⟨_,rfl⟩;have hbv:Below w.heap.size w V:=by rw[←hV];exact Below.new3 w _ _ _
 have HS:Hid (SB V (w.heap.size+1+1) 62 zeroFrac):=Hi (by rw[←hV];exact SB.new3 w _ _ _ _ _ _);have HW:=Hi (Qjb a1 a2 a3 c1 c2 c3 nb nh A B n js b s t V (hg.below hbv) (hj.below hbv) hA hB hs ht hl z1 z2 z3 z4 hn q1 q2 q3 q4);have HBP:=Hi hbv;have HVE:=Hi hV;have HN:=Hi hn;clear hg hj hA hB hs ht hl z1 z2 z3 z4 hn q1 q2 q3 q4 hbv hV;obtain⟨ba,hba⟩:∃x,b.a=x:=⟨_,rfl⟩;go_enter Tryz.func23,Tryz.ntmps23;clear hba;go_wp2_with fail;rw[show ((w.alloc (.cells #[.slice a1 js.length c1,.slice a2 nb c2,.slice a3 nh c3] 26)).alloc (.cells #[.int .i64 b.a,.int .i64 b.b,.string b.c,.string b.e,.string b.l,.string b.m] 39)).alloc (.cells #[.bool false,.slice none 0 0,.slice none 0 0] 62)=V from HVE.out];refine HW.out.mono ?_;rintro e w1 ⟨v1,v2,v3,u1,u2,u3,rfl,hbag⟩;have hX:FF (x2 - x1) (4*n+1+(4*n+1)+1) (.agg #[v1,v2,v3]) w1:=hbag.get (List.Mem.tail _ (List.Mem.head _))
 have hY:FF (y2 - y1) (4*n+1+(4*n+1)+1) (.agg #[u1,u2,u3]) w1:=hbag.get (List.Mem.head _);have HX:=Hi hX;have HY:=Hi hY;obtain⟨⟨nx,ax,lx,cx,bx,mx,dx,ex,_⟩,_,_⟩:=hX;obtain⟨⟨ny,ay,ly,cy,b2,my,dy,ey,_⟩,_,_⟩:=hY;simp only[Value.agg.injEq,Array.mk.injEq,List.cons.injEq,and_true] at ex ey;obtain⟨rfl,rfl,rfl⟩:=ex;obtain⟨rfl,rfl,rfl⟩:=ey;have HB1:=Hi hbag.base;clear hbag HVE HW;obtain⟨V2,hV2⟩:∃V2,(w1.alloc (.cells #[.bool nx,.slice ax lx cx,.slice bx mx dx] 62)).alloc (.cells #[.bool ny,.slice ay ly cy,.slice b2 my dy] 62)=V2:=⟨_,rfl⟩;have HB2:Hid (Below w1.heap.size w1 V2):=Hi (by rw[←hV2];exact Below.new2 w1 _ _);have HS0:Hid (SB V2 w1.heap.size 62 #[.bool nx,.slice ax lx cx,.slice bx mx dx]):=Hi (by
  rw[←hV2]
  exact(SB.new w1 _ _).below ((Below.refl _ _).alloc (Nat.le_refl _) _) (by rw[World.size_alloc];omega))
 have HS1:Hid (SB V2 (w1.heap.size+1) 62 #[.bool ny,.slice ay ly cy,.slice b2 my dy]):=Hi (by rw[←hV2];exact SB.new2 w1 _ _ _ _);have HLT:=Hi (And.intro HS0.out.lt HS1.out.lt);have HK0:=Hi (HS0.out.cell 0);have HK1:=Hi (HS0.out.cell 1);have HK2:=Hi (HS0.out.cell 2);have HM0:=Hi (HS1.out.cell 0);have HM1:=Hi (HS1.out.cell 1);have HM2:=Hi (HS1.out.cell 2);simp only[List.getElem?_toArray,List.getElem?_cons_zero,List.getElem?_cons_succ] at HK0 HK1 HK2 HM0 HM1 HM2;have HXV:=Hi (HX.out.below HB2.out);have HYV:=Hi (HY.out.below HB2.out);have HVE2:=Hi hV2;have HSV:=Hi ((HS.out.below HB1.out HS.out.lt).below HB2.out (Nat.lt_of_lt_of_le HS.out.lt HB1.out.size));have HBW:=Hi (HBP.out.trans ((HB1.out.trans (HB2.out.mono HB1.out.size)).mono HBP.out.size));clear hV2 HS0 HS1 HX HY HS HB1 HBP;go_wp2_with fail;rw[HVE2.out];clear HVE2 HB2;generalize w1.heap.size=B at*
 obtain⟨kk,hkk⟩:∃kk,4*n+1+(4*n+1)+1=kk:=⟨_,rfl⟩;rw[hkk] at HXV HYV;have HKK:=Hi hkk;have HJ:Hid (kk<68719476000∧kk+kk+(kk+kk)<68719476000):=Hi (by have:=HN.out;omega);clear hkk;have HBD:=Hi ((Below.refl V2.heap.size V2).drew);refine RegG.bg 5 (fun j=>some (13+j)) ?_;refine RegG.pu (c:=?_) [] (fun w hb=>?_) ?_;rotate_left
 ·
  intro K hK;have hz:=HBD.out.trans (hb.mono HBD.out.size);have k0:=(hz.cell (p:=⟨B,0,none⟩) HLT.out.1).trans HK0.out;have k1:=(hz.cell (p:=⟨B,1,none⟩) HLT.out.1).trans HK1.out;have k2:=(hz.cell (p:=⟨B,2,none⟩) HLT.out.1).trans HK2.out;go_simp;exact hK
 refine RegG.ca (φ:=FF ((x2 - x1)*(x2 - x1)) (kk+kk)) [0] (FF.stays _ _) (fun w hb=>?_) ?_
 ·
  skip;intro K hK;go_simp;exact Makes.use (FF.squared (HXV.out.below (HBD.out.trans (hb.mono HBD.out.size))) HJ.out.1) hK
 refine RegG.pu (c:=?_) [] (fun w hb=>?_) ?_;rotate_left
 ·
  intro K hK;have hz:=HBD.out.trans (hb.mono HBD.out.size);have m0:=(hz.cell (p:=⟨B+1,0,none⟩) HLT.out.2).trans HM0.out;have m1:=(hz.cell (p:=⟨B+1,1,none⟩) HLT.out.2).trans HM1.out;have m2:=(hz.cell (p:=⟨B+1,2,none⟩) HLT.out.2).trans HM2.out;go_simp;exact hK
 refine RegG.ca (φ:=FF ((y2 - y1)*(y2 - y1)) (kk+kk)) [2] (FF.stays _ _) (fun w hb=>?_) ?_
 ·
  skip;intro K hK;go_simp;exact Makes.use (FF.squared (HYV.out.below (HBD.out.trans (hb.mono HBD.out.size))) HJ.out.1) hK
 refine RegG.ca (φ:=FF ((x2 - x1)*(x2 - x1)+(y2 - y1)*(y2 - y1)) (kk+kk+(kk+kk)+1)) [1,3] (FF.stays _ _) (fun w hb=>?_) ?_
 ·
  intro v1 h1 v3 h3;intro K hK;go_simp;exact Makes.use (FF.plus h1 h3 HJ.out.2) hK
 refine RegG.last (by simp only[List.nil_append,List.cons_append,List.length_append,List.length_cons,List.length_nil,Nat.reduceAdd]) (by rfl) (by rfl) (by kernel_rfl) (fun u9 hb=>?_);simp only[FinG,List.nil_append,List.cons_append,Qcb,Act.put,List.setIfInBounds_toArray,List.set_cons_zero,List.set_cons_succ,Nat.reduceAdd,Nat.reduceBEq,cond_true,cond_false];rintro v1 _ v3 _ v4 ⟨⟨neg9,a9,n9,c9,b9,m9,d9,rfl,hv⟩,hf9,h09⟩ K hK;have hbb:=HBD.out.trans (hb.mono HBD.out.size);have hs:=HSV.out.below hbb HSV.out.lt;have k0:=hs.cell 0;have k1:=hs.cell 1;have k2:=hs.cell 2;have f0:=hs.free 0;have f1:=hs.free 1;have f2:=hs.free 2;simp[zeroFrac] at k0 k1 k2;have HV:=Hi hv;have HF:=Hi (And.intro hf9 h09);have HS9:=Hi hs;have HB9:=Hi (HBW.out.trans (hbb.mono HBW.out.size));clear hv hs hbb hb hf9 h09;go_simp;refine hK _ _ ?_;clear hK;go_wp2
 refine bodyPost_ret (v:=.agg #[.bool neg9,.slice a9 n9 c9,.slice b9 m9 d9]) (results_cell_row rfl _ _ (w.heap.size+1+1) 62 #[.bool neg9,.slice a9 n9 c9,.slice b9 m9 d9] (0,0) _ rfl (((HS9.out.set 0 _).set 1 _).set 2 _) Tryz.underlying62 rfl Tryz.fracInfo) rfl ?_;have ho:=(((Only.refl (w.heap.size+1+1) u9).setCell 0 (.bool neg9)).setCell 1 (.slice a9 n9 c9)).setCell 2 (.slice b9 m9 d9);exact⟨_,rfl,Only.fresh HB9.out ho (by omega),⟨neg9,a9,n9,c9,b9,m9,d9,rfl,HV.out.only ho HS9.out Qa6⟩,HF.out.1.mono (by have:=HKK.out;omega),by omega⟩
end Go.Proofs.YtodfmpjhcmapmaaGreatDoor
