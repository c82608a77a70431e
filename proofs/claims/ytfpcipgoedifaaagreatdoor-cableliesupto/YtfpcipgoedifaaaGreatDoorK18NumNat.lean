/- num's appendChunk, parseNat. -/
import Derived.Test.YtfpcipgoedifaaaGreatDoorK17FracA
namespace Go.Proofs.YtfpcipgoedifaaaGreatDoor
open Go.RowKit
set_option linter.unusedVariables false
set_option linter.unusedSimpArgs false
theorem Qoj{p q:Bool}{x y:Nat}(h:p≠q)(hxy:x<=y):sgn q (y - x)=sgn p x+sgn q y:=by
 cases p<;>cases q<;>simp[sgn] at h ⊢ <;>omega
theorem Qok{p q:Bool}{x y:Nat}(h:p≠q)(hxy:y<=x):sgn p (x - y)=sgn p x+sgn q y:=by
 cases p<;>cases q<;>simp[sgn] at h ⊢ <;>omega
theorem Qol(p:Bool)(x y:Nat):sgn p (x+y)=sgn p x+sgn p y:=by
 cases p<;>simp[sgn]<;>omega
theorem Qom{x j k:Nat}(h:x<2 ^ j)(hk:j<=k):x<2 ^ k:=Nat.lt_of_lt_of_le h (Nat.pow_le_pow_right (by decide) hk)
theorem NBag.grow{w0 w:World}{L:List Ent}{a:Option Addr}{n c x j k:Nat}(h:NBag w0 w (⟨a,n,c,x,j⟩ :: L))(hk:j<=k):NBag w0 w (⟨a,n,c,x,k⟩ :: L):=
 ⟨h.base,fun t ht=>by
   rcases List.mem_cons.1 ht with rfl|ht
   · exact⟨(h.ts _ (List.Mem.head _)).1,Qom (h.ts _ (List.Mem.head _)).2 hk⟩
   · exact h.ts t (List.mem_cons_of_mem _ ht)⟩
theorem NBag.rebase{w0 w:World}{L:List Ent}(h:NBag w0 w L):NBag w w L:=⟨Below.refl _ _,h.ts⟩
def Signed(w0:World)(L:List Ent)(k:Nat)(z:Int)(e:Ending)(w':World):Prop:=∃r a n c t,e=.returned (.tuple #[.bool r,.slice a n c])/\NBag w0 w' (⟨a,n,c,t,k⟩ :: L)/\sgn r t=z
set_option maxHeartbeats 400000 in
theorem NBag.addSigned{w0 w:World}{L:List Ent}{a1 a2:Option Addr}{n1 n2 c1 c2 x y j k:Nat}{p q:Bool}(h:NBag w0 w L)(hx:⟨a1,n1,c1,x,j⟩∈ L)(hy:⟨a2,n2,c2,y,k⟩∈ L)(hj:j+k<274877906000):
 Calls Tryz.prog 87 #[.bool p,.slice a1 n1 c1,.bool q,.slice a2 n2 c2] w (Signed w0 L (j+k+1) (sgn p x+sgn q y)):=by
 by_cases hpq:p=q
 ·
  subst hpq;have HA:=Hi (h.add hx hy hj);clear h hx hy hj;go_enter Tryz.func87,Tryz.ntmps87;go_wp2_with fail;go_fit HA.out;rintro e w1 ⟨a,n,c,rfl,hb⟩;have HB:=Hi hb;clear hb HA;go_wp2;go_ret2;exact⟨p,a,n,c,x+y,rfl,HB.out,Qol p x y⟩
 ·
  have hpq':(p == q)=false:=by simpa using hpq
  have HC:=Hi (h.compare hx hy);have HX:=Hi hx;have HY:=Hi hy;have HP:=Hi hpq;clear h hx hy hj hpq;by_cases hlt:x<y
  ·
   have hcmp:cmp3 x y<0:=(Qat x y).2 hlt;go_enter Tryz.func87,Tryz.ntmps87;go_wp2_with fail;go_fit HC.out;rintro e w1 ⟨rfl,hb⟩;have HA:=Hi (hb.sub HY.out HX.out (by omega));clear hb HC;go_wp2_with fail;go_fit HA.out;rintro e w1 ⟨a,n,c,rfl,hb⟩;have HB:=Hi hb;clear hb HA;go_wp2;go_ret2;exact⟨q,a,n,c,y - x,rfl,HB.out.grow (by omega),Qoj HP.out (by omega)⟩
  ·
   have hcmp:¬(cmp3 x y<0):=fun h=>by have:=(Qat x y).1 h;omega
   go_enter Tryz.func87,Tryz.ntmps87;go_wp2_with fail;go_fit HC.out;rintro e w1 ⟨rfl,hb⟩;have HA:=Hi (hb.sub HX.out HY.out (by omega));clear hb HC;go_wp2_with fail;go_fit HA.out;rintro e w1 ⟨a,n,c,rfl,hb⟩;have HB:=Hi hb;clear hb HA;go_wp2;go_ret2;exact⟨p,a,n,c,x - y,rfl,HB.out.grow (by omega),Qok HP.out (by omega)⟩
theorem Qon{neg:Bool}{t k g:Nat}(hk:0<k)(hg:Nat.gcd t k=g):mkRat (sgn neg (t / g)) (k / g)=mkRat (sgn neg t) k/\Nat.Coprime (t / g) (k / g)/\0<k / g/\0<g:=by
 have gp:0<g:=by rw[<-hg];exact Nat.gcd_pos_of_pos_right _ hk
 have d1:g ∣ t:=hg ▸ Nat.gcd_dvd_left _ _;have d2:g ∣ k:=hg ▸ Nat.gcd_dvd_right _ _;have e1:=Nat.div_mul_cancel d1;have e2:=Nat.div_mul_cancel d2;refine⟨?_,by have:=Nat.coprime_div_gcd_div_gcd (m:=t) (n:=k) (by omega);rw[hg] at this;exact this,?_,gp⟩
 ·
  rw[<-Rat.mkRat_mul_right (a:=g) (by omega),e2]
  congr 1
  have:=Qb3 neg false (t / g) g;rw[show sgn false g=(g:Int) from rfl,e1,Bool.bne_false] at this;exact this.symm
 ·
  rcases Nat.eq_zero_or_pos (k / g) with h|h
  · rw[h] at e2;omega
  · exact h
theorem NBag.start{w:World}{a b:Option Addr}{n c m d t k i j:Nat}(ht:NumV w a n c t)(hk:NumV w b m d k)(hi:t<2 ^ i)(hj:k<2 ^ j):NBag w w [⟨a,n,c,t,i⟩,⟨b,m,d,k,j⟩]:=by
 refine⟨Below.refl _ _,fun s hs=>?_⟩;simp only[List.mem_cons,List.not_mem_nil,or_false] at hs;rcases hs with rfl|rfl
 · exact⟨ht,hi⟩
 · exact⟨hk,hj⟩
set_option maxHeartbeats 1000000 in
theorem Qoo(neg:Bool)(a b:Option Addr)(n c m d t k i j:Nat)(w:World)(ht:NumV w a n c t)(hk:NumV w b m d k)(hi:t<2 ^ i)(hj:k<2 ^ j)(hij:i+j<137438953000):
 Calls Tryz.prog 95 #[.bool neg,.slice a n c,.slice b m d] w (FNew w (mkRat (sgn neg t) k)):=by
 have hz:=hk.zero_iff;by_cases h0:k=0
 ·
  have hm:m=0:=hz.1 h0;subst h0 hm;rw[Rat.mkRat_zero];have HB:=Hi ((Below.refl w.heap.size w).alloc lZ (.cells #[.bool false,.slice none 0 0,.slice none 0 0] 103));clear ht hk hi hj hij hz;go_enter Tryz.func95,Tryz.ntmps95;go_wp2;refine bodyPost_ret (v:=.agg #[.bool false,.slice none 0 0,.slice none 0 0]) (results_cell_row rfl _ _ w.heap.size 103 #[.bool false,.slice none 0 0,.slice none 0 0] (0,0) _ rfl (SB.new w _ _) Tryz.underlying103 rfl Tryz.fracInfo) rfl ?_;exact⟨⟨_,rfl,FracV.zero _⟩,HB.out⟩
 ·
  have hm:((m:Int) == 0)=false:=by rw[beq_eq_false_iff_ne];omega
  obtain⟨G,hG⟩:=nm (Nat.gcd t k);obtain⟨e1,hc,hk0,hg0⟩:=Qon (neg:=neg) (by omega) hG;rw[<-e1];have HR:=Hi (((NBag.start ht hk hi hj).alloc (.cells zeroFrac 103)).rebase);obtain⟨wA,hwA⟩:=nm (w.alloc (.cells zeroFrac 103));have HS:=Hi (SB.new w 103 zeroFrac);have HBP:=Hi ((Below.refl w.heap.size w).alloc lZ (.cells zeroFrac 103));rw[hwA] at HR HS HBP;have HC:=Hi hc;have HG:=Hi hG;have HWA:=Hi hwA;clear ht hk hi hj hz h0 hc hG e1 hwA;go_enter Tryz.func95,Tryz.ntmps95;go_wp2_with fail;rw[show w.alloc (.cells #[.bool false,.slice none 0 0,.slice none 0 0] 103)=wA from HWA.out];apply cM;apply NBag.gcd (w0:=wA) HR.out;(focus(repeat(first|exact List.Mem.head _|apply List.Mem.tail)));(focus(repeat(first|exact List.Mem.head _|apply List.Mem.tail)));omega;rw[HG.out];rintro e w1 ⟨aG,nG,cG,rfl,hb⟩;clear HR;have HR:=Hi hb;clear hb;skip;go_wp2_with fail
  apply cM;apply NBag.quot (w0:=wA) HR.out;(focus(repeat(first|exact List.Mem.head _|apply List.Mem.tail)));(focus(repeat(first|exact List.Mem.head _|apply List.Mem.tail)));omega;(first|assumption|omega);rintro e w2 ⟨aT,nT,cT,rfl,hb⟩;clear HR;have HR:=Hi hb;clear hb;skip;go_wp2_with fail;apply cM;apply NBag.quot (w0:=wA) HR.out;(focus(repeat(first|exact List.Mem.head _|apply List.Mem.tail)));(focus(repeat(first|exact List.Mem.head _|apply List.Mem.tail)));omega;(first|assumption|omega);rintro e w3 ⟨aL,nL,cL,rfl,hb⟩;clear HR;have HR:=Hi hb;clear hb;skip;go_wp2_with fail;have HS':=Hi (HS.out.below HR.out.base HS.out.lt);have HBP':=Hi (HBP.out.trans (HR.out.base.mono HBP.out.size));clear HS HBP;have HS:=HS';have HBP:=HBP';clear HS' HBP'
  go_fit (Qdk neg aT aL nT cT nL cL (t / G) (k / G) _ (HR.out.get (List.Mem.tail _ (List.Mem.head _))).1 (.inr ⟨hk0,(HR.out.get (List.Mem.head _)).1⟩) HC.out);rintro e w9 ⟨⟨v9,rfl,hv⟩,hb⟩;obtain⟨neg9,a9,n9,c9,b9,m9,d9,rfl,hv⟩:=hv;have hs:=HS.out.below hb HS.out.lt;have k0:=hs.cell 0;have k1:=hs.cell 1;have k2:=hs.cell 2;have f0:=hs.free 0;have f1:=hs.free 1;have f2:=hs.free 2;simp[zeroFrac] at k0 k1 k2;have HV:=Hi hv;have HS9:=Hi hs;have HB9:=Hi (HBP.out.trans (hb.mono HBP.out.size));clear hv hs hb;go_wp2;refine bodyPost_ret (v:=.agg #[.bool neg9,.slice a9 n9 c9,.slice b9 m9 d9]) (results_cell_row rfl _ _ (w.heap.size) 103 #[.bool neg9,.slice a9 n9 c9,.slice b9 m9 d9] (0,0) _ rfl (((HS9.out.set 0 _).set 1 _).set 2 _) Tryz.underlying103 rfl Tryz.fracInfo) rfl ?_;have ho:=(((Only.refl (w.heap.size) w9).setCell 0 (.bool neg9)).setCell 1 (.slice a9 n9 c9)).setCell 2 (.slice b9 m9 d9)
  exact⟨⟨_,rfl,neg9,a9,n9,c9,b9,m9,d9,rfl,HV.out.only ho HS9.out Qbg⟩,Only.fresh HB9.out ho (by omega)⟩
theorem NBag.under{w0 w:World}{L:List Ent}{neg:Bool}{a b:Option Addr}{n c m d k kb:Nat}(h:NBag w0 w L)(hl:Low w0 b m d k)(hk:k<2 ^ kb):
 Calls Tryz.prog 84 #[.agg #[.bool neg,.slice a n c,.slice b m d]] w (NNew w0 L k kb):=Qoh neg a b n c m d k kb w0 w L h (hl.below h.base) hk
theorem NBag.built{w0 w:World}{L:List Ent}{neg:Bool}{a b:Option Addr}{n c m d t k i j:Nat}(h:NBag w0 w L)(hx:⟨a,n,c,t,i⟩∈ L)(hy:⟨b,m,d,k,j⟩∈ L)(hk:0<k)(hc:Nat.Coprime t k):
 Calls Tryz.prog 89 #[.bool neg,.slice a n c,.slice b m d] w (FNew w (mkRat (sgn neg t) k)):=Qdk neg a b n c m d t k w (h.get hx).1 (.inr ⟨hk,(h.get hy).1⟩) hc
theorem NBag.isZero{w0 w:World}{L:List Ent}{a b:Option Addr}{n c t k m d:Nat}{neg:Bool}(h:NBag w0 w L)(hx:⟨a,n,c,t,k⟩∈ L):
 Calls Tryz.prog 79 #[.agg #[.bool neg,.slice a n c,.slice b m d]] w (fun e w'=>e=.returned (.bool (decide (t=0)))/\NBag w0 w' L):=by
 refine(Qh2 neg a b n c m d t w (h.get hx).1).mono ?_;rintro e w' ⟨rfl,hb⟩;exact⟨rfl,h.below hb⟩
set_option maxRecDepth 100000 in
set_option maxHeartbeats 1000000 in
theorem Qh3(nx ny:Bool)(ax bx ay b2:Option Addr)(lx cx mx dx ly cy my dy i j:Nat)(p q:Rat)(w:World)(hx:FracAt w nx ax lx cx bx mx dx p)(hy:FracAt w ny ay ly cy b2 my dy q)(hp:Fits p i)(hq:Fits q j)(hij:i+j<68719476000):
 Calls Tryz.prog 96 #[.agg #[.bool nx,.slice ax lx cx,.slice bx mx dx],.agg #[.bool ny,.slice ay ly cy,.slice b2 my dy]] w (FNew w (p*q)):=by
 have HX:=Hi hx;have HY:=Hi hy;have HPF:=Hi hp;have HQF:=Hi hq;obtain⟨CX,hCX⟩:=nm (#[Value.bool nx,.slice ax lx cx,.slice bx mx dx]);obtain⟨CY,hCY⟩:=nm (#[Value.bool ny,.slice ay ly cy,.slice b2 my dy]);have HR:=Hi ((((((NBag.start hx.top hy.top hp.1 hq.1).alloc (.cells CX 103)).alloc (.cells CY 103)).alloc (.cells zeroFrac 103)).rebase));have HS:=Hi (SB.new3 w 103 103 103 CX CY zeroFrac);have HSY:=Hi ((SB.new2 w 103 103 CX CY).alloc (.cells zeroFrac 103));have HSX:=Hi (((SB.new w 103 CX).alloc (.cells CY 103)).alloc (.cells zeroFrac 103));have HBP:=Hi (Below.new3 w (.cells CX 103) (.cells CY 103) (.cells zeroFrac 103));obtain⟨wA,hwA⟩:=nm ((((w.alloc (.cells CX 103)).alloc (.cells CY 103)).alloc (.cells zeroFrac 103)));rw[hwA] at HR HS HSY HSX HBP;subst hCX hCY;have HLX:=Hi (hx.low.below HBP.out);have HLY:=Hi (hy.low.below HBP.out);have ltx:=HSX.out.lt
 have lty:=HSY.out.lt;have KX0:=Hi (HSX.out.cell 0);have KX1:=Hi (HSX.out.cell 1);have KX2:=Hi (HSX.out.cell 2);have KY0:=Hi (HSY.out.cell 0);have KY1:=Hi (HSY.out.cell 1);have KY2:=Hi (HSY.out.cell 2);simp at KX0 KX1 KX2 KY0 KY1 KY2;have HWA:=Hi hwA;have nxr:w.heap.size+1+1≠w.heap.size:=by omega
 have nyr:w.heap.size+1+1≠w.heap.size+1:=by omega
 clear hx hy hp hq hwA;by_cases hp0:p.num.natAbs=0
 ·
  have hpz:p=0:=Rat.num_eq_zero.1 (by omega);rw[show p*q=0 by rw[hpz,Rat.zero_mul]];go_enter Tryz.func96,Tryz.ntmps96;have kx0:=ce HR.out.base ltx KX0.out;have kx1:=ce HR.out.base ltx KX1.out;have kx2:=ce HR.out.base ltx KX2.out;have ky0:=ce HR.out.base lty KY0.out;have ky1:=ce HR.out.base lty KY1.out;have ky2:=ce HR.out.base lty KY2.out;go_wp2_with fail;rw[show (((w.alloc (.cells #[.bool nx,.slice ax lx cx,.slice bx mx dx] 103)).alloc (.cells #[.bool ny,.slice ay ly cy,.slice b2 my dy] 103)).alloc (.cells #[.bool false,.slice none 0 0,.slice none 0 0] 103))=wA from HWA.out];apply cM;apply NBag.isZero (w0:=wA) HR.out
  (focus(repeat(first|exact List.Mem.head _|apply List.Mem.tail)));rw[(decide_eq_true hp0)];rintro e w1 ⟨rfl,hb⟩;have hs:=HS.out.below hb.base HS.out.lt;have k0:=hs.cell 0;have k1:=hs.cell 1;have k2:=hs.cell 2;have f0:=hs.free 0;have f1:=hs.free 1;have f2:=hs.free 2;simp[zeroFrac] at k0 k1 k2;have HS9:=Hi hs;have HB9:=Hi (HBP.out.trans (hb.base.mono HBP.out.size));clear hb hs HR;go_wp2;refine bodyPost_ret (v:=.agg #[.bool false,.slice none 0 0,.slice none 0 0]) (results_cell_row rfl _ _ (w.heap.size+1+1) 103 #[.bool false,.slice none 0 0,.slice none 0 0] (0,0) _ rfl (((HS9.out.set 0 _).set 1 _).set 2 _) Tryz.underlying103 rfl Tryz.fracInfo) rfl ?_;have ho:=(((Only.refl (w.heap.size+1+1) w1).setCell 0 (.bool false)).setCell 1 (.slice none 0 0)).setCell 2 (.slice none 0 0);exact⟨⟨_,rfl,FracV.zero _⟩,Only.fresh HB9.out ho (by omega)⟩
 ·
  by_cases hq0:q.num.natAbs=0
  ·
   have hqz:q=0:=Rat.num_eq_zero.1 (by omega);rw[show p*q=0 by rw[hqz,Rat.mul_zero]];go_enter Tryz.func96,Tryz.ntmps96;have kx0:=ce HR.out.base ltx KX0.out;have kx1:=ce HR.out.base ltx KX1.out;have kx2:=ce HR.out.base ltx KX2.out;have ky0:=ce HR.out.base lty KY0.out;have ky1:=ce HR.out.base lty KY1.out;have ky2:=ce HR.out.base lty KY2.out;go_wp2_with fail;rw[show (((w.alloc (.cells #[.bool nx,.slice ax lx cx,.slice bx mx dx] 103)).alloc (.cells #[.bool ny,.slice ay ly cy,.slice b2 my dy] 103)).alloc (.cells #[.bool false,.slice none 0 0,.slice none 0 0] 103))=wA from HWA.out];apply cM;apply NBag.isZero (w0:=wA) HR.out
   (focus(repeat(first|exact List.Mem.head _|apply List.Mem.tail)));rw[(decide_eq_false hp0)];rintro e w1 ⟨rfl,hb⟩;clear HR;have HR:=Hi hb;clear hb;have kx0:=ce HR.out.base ltx KX0.out;have kx1:=ce HR.out.base ltx KX1.out;have kx2:=ce HR.out.base ltx KX2.out;have ky0:=ce HR.out.base lty KY0.out;have ky1:=ce HR.out.base lty KY1.out;have ky2:=ce HR.out.base lty KY2.out;go_wp2_with fail;apply cM;apply NBag.isZero (w0:=wA) HR.out;(focus(repeat(first|exact List.Mem.head _|apply List.Mem.tail)));rw[(decide_eq_true hq0)];rintro e w2 ⟨rfl,hb⟩;have hs:=HS.out.below hb.base HS.out.lt;have k0:=hs.cell 0;have k1:=hs.cell 1;have k2:=hs.cell 2;have f0:=hs.free 0
   have f1:=hs.free 1;have f2:=hs.free 2;simp[zeroFrac] at k0 k1 k2;have HS9:=Hi hs;have HB9:=Hi (HBP.out.trans (hb.base.mono HBP.out.size));clear hb hs HR;go_wp2;refine bodyPost_ret (v:=.agg #[.bool false,.slice none 0 0,.slice none 0 0]) (results_cell_row rfl _ _ (w.heap.size+1+1) 103 #[.bool false,.slice none 0 0,.slice none 0 0] (0,0) _ rfl (((HS9.out.set 0 _).set 1 _).set 2 _) Tryz.underlying103 rfl Tryz.fracInfo) rfl ?_;have ho:=(((Only.refl (w.heap.size+1+1) w2).setCell 0 (.bool false)).setCell 1 (.slice none 0 0)).setCell 2 (.slice none 0 0);exact⟨⟨_,rfl,FracV.zero _⟩,Only.fresh HB9.out ho (by omega)⟩
  ·
   obtain⟨he,hcp⟩:=Qor p q rfl rfl;rw[<-HX.out.neg,<-HY.out.neg] at he;have HE:Hid (mkRat (sgn (!nx == ny) (p.num.natAbs / Nat.gcd p.num.natAbs q.den*(q.num.natAbs / Nat.gcd q.num.natAbs p.den))) (p.den / Nat.gcd q.num.natAbs p.den*(q.den / Nat.gcd p.num.natAbs q.den))=p*q):=Hi he;have HCP:=Hi hcp;have HK0:=Hi (show 0<p.den / Nat.gcd q.num.natAbs p.den*(q.den / Nat.gcd p.num.natAbs q.den) from Nat.mul_pos (Nat.div_pos (Nat.gcd_le_right _ p.den_pos) (Nat.gcd_pos_of_pos_right _ p.den_pos)) (Nat.div_pos (Nat.gcd_le_right _ q.den_pos) (Nat.gcd_pos_of_pos_right _ q.den_pos)));clear he hcp;have HG0:=Hi (show 0<Nat.gcd p.num.natAbs q.den from Nat.gcd_pos_of_pos_right _ q.den_pos);have HH0:=Hi (show 0<Nat.gcd q.num.natAbs p.den from Nat.gcd_pos_of_pos_right _ p.den_pos);go_enter Tryz.func96,Tryz.ntmps96;have kx0:=ce HR.out.base ltx KX0.out
   have kx1:=ce HR.out.base ltx KX1.out;have kx2:=ce HR.out.base ltx KX2.out;have ky0:=ce HR.out.base lty KY0.out;have ky1:=ce HR.out.base lty KY1.out;have ky2:=ce HR.out.base lty KY2.out;go_wp2_with fail;rw[show (((w.alloc (.cells #[.bool nx,.slice ax lx cx,.slice bx mx dx] 103)).alloc (.cells #[.bool ny,.slice ay ly cy,.slice b2 my dy] 103)).alloc (.cells #[.bool false,.slice none 0 0,.slice none 0 0] 103))=wA from HWA.out];apply cM;apply NBag.isZero (w0:=wA) HR.out;(focus(repeat(first|exact List.Mem.head _|apply List.Mem.tail)));rw[(decide_eq_false hp0)];rintro e w1 ⟨rfl,hb⟩;clear HR;have HR:=Hi hb;clear hb;have kx0:=ce HR.out.base ltx KX0.out
   have kx1:=ce HR.out.base ltx KX1.out;have kx2:=ce HR.out.base ltx KX2.out;have ky0:=ce HR.out.base lty KY0.out;have ky1:=ce HR.out.base lty KY1.out;have ky2:=ce HR.out.base lty KY2.out;go_wp2_with fail;apply cM;apply NBag.isZero (w0:=wA) HR.out;(focus(repeat(first|exact List.Mem.head _|apply List.Mem.tail)));rw[(decide_eq_false hq0)];rintro e w2 ⟨rfl,hb⟩;clear HR;have HR:=Hi hb;clear hb;have kx0:=ce HR.out.base ltx KX0.out;have kx1:=ce HR.out.base ltx KX1.out;have kx2:=ce HR.out.base ltx KX2.out;have ky0:=ce HR.out.base lty KY0.out
   have ky1:=ce HR.out.base lty KY1.out;have ky2:=ce HR.out.base lty KY2.out;go_wp2_with fail;go_region_held3
    (fun w'=>w'.cell? ⟨w.heap.size,0,none⟩=some (.bool nx)/\w'.cell? ⟨w.heap.size,1,none⟩=some (.slice ax lx cx)/\w'.cell? ⟨w.heap.size,2,none⟩=some (.slice bx mx dx)/\w'.cell? ⟨w.heap.size+1,0,none⟩=some (.bool ny)/\w'.cell? ⟨w.heap.size+1,1,none⟩=some (.slice ay ly cy)/\w'.cell? ⟨w.heap.size+1,2,none⟩=some (.slice b2 my dy)) ((first|(simp [*];done)|go_keep))
    (first
    |
     (go_at_call_of 84 (Value.agg #[.bool nx,.slice ax lx cx,.slice bx mx dx])
      apply cM;apply NBag.under (w0:=wA) (hl:=HLX.out) (hk:=HPF.out.2);(focus(first|exact HR.out|exact HR.out.drew|exact HR.out.drew.drew));rintro e w3 ⟨aA,nA,cA,rfl,hb⟩;clear HR;have HR:=Hi hb;clear hb;have kx0:=ce HR.out.base ltx KX0.out;have kx1:=ce HR.out.base ltx KX1.out;have kx2:=ce HR.out.base ltx KX2.out;have ky0:=ce HR.out.base lty KY0.out;have ky1:=ce HR.out.base lty KY1.out;have ky2:=ce HR.out.base lty KY2.out
      skip)
    |
     (go_at_call_of 84 (Value.agg #[.bool ny,.slice ay ly cy,.slice b2 my dy])
      apply cM;apply NBag.under (w0:=wA) (hl:=HLY.out) (hk:=HQF.out.2);(focus(first|exact HR.out|exact HR.out.drew|exact HR.out.drew.drew));rintro e w4 ⟨aB,nB,cB,rfl,hb⟩;clear HR;have HR:=Hi hb;clear hb;have kx0:=ce HR.out.base ltx KX0.out;have kx1:=ce HR.out.base ltx KX1.out;have kx2:=ce HR.out.base ltx KX2.out;have ky0:=ce HR.out.base lty KY0.out;have ky1:=ce HR.out.base lty KY1.out;have ky2:=ce HR.out.base lty KY2.out
      skip)
    )
   go_wp2_with fail;go_region_held3
    (fun w'=>w'.cell? ⟨w.heap.size,0,none⟩=some (.bool nx)/\w'.cell? ⟨w.heap.size,1,none⟩=some (.slice ax lx cx)/\w'.cell? ⟨w.heap.size,2,none⟩=some (.slice bx mx dx)/\w'.cell? ⟨w.heap.size+1,0,none⟩=some (.bool ny)/\w'.cell? ⟨w.heap.size+1,1,none⟩=some (.slice ay ly cy)/\w'.cell? ⟨w.heap.size+1,2,none⟩=some (.slice b2 my dy)) ((first|(simp [*];done)|go_keep))
    ((skip
      first
       |(
        go_at_call 85;apply cM
        apply NBag.gcd (w0:=wA))
       |(
        go_at_call 86;apply cM
        apply NBag.quot (w0:=wA))
       |(
        go_at_call 88;apply cM
        apply NBag.mul (w0:=wA))
      (focus(first|exact HR.out|exact HR.out.drew|exact HR.out.drew.drew));(focus(repeat(first|exact List.Mem.head _|apply List.Mem.tail)));(focus(repeat(first|exact List.Mem.head _|apply List.Mem.tail)));omega
      try (focus(first|exact HG0.out|exact HH0.out))
      rintro e wn ⟨an,nn,cn,rfl,hb⟩;clear HR;have HR:=Hi hb;clear hb;have kx0:=ce HR.out.base ltx KX0.out;have kx1:=ce HR.out.base ltx KX1.out;have kx2:=ce HR.out.base ltx KX2.out;have ky0:=ce HR.out.base lty KY0.out;have ky1:=ce HR.out.base lty KY1.out;have ky2:=ce HR.out.base lty KY2.out
      skip))
   go_wp2_with fail;go_region_held3
    (fun w'=>w'.cell? ⟨w.heap.size,0,none⟩=some (.bool nx)/\w'.cell? ⟨w.heap.size,1,none⟩=some (.slice ax lx cx)/\w'.cell? ⟨w.heap.size,2,none⟩=some (.slice bx mx dx)/\w'.cell? ⟨w.heap.size+1,0,none⟩=some (.bool ny)/\w'.cell? ⟨w.heap.size+1,1,none⟩=some (.slice ay ly cy)/\w'.cell? ⟨w.heap.size+1,2,none⟩=some (.slice b2 my dy)) ((first|(simp [*];done)|go_keep))
    ((skip
      first
       |(
        go_at_call 85;apply cM
        apply NBag.gcd (w0:=wA))
       |(
        go_at_call 86;apply cM
        apply NBag.quot (w0:=wA))
       |(
        go_at_call 88;apply cM
        apply NBag.mul (w0:=wA))
      (focus(first|exact HR.out|exact HR.out.drew|exact HR.out.drew.drew));(focus(repeat(first|exact List.Mem.head _|apply List.Mem.tail)));(focus(repeat(first|exact List.Mem.head _|apply List.Mem.tail)));omega
      try (focus(first|exact HG0.out|exact HH0.out))
      rintro e wn ⟨an,nn,cn,rfl,hb⟩;clear HR;have HR:=Hi hb;clear hb;have kx0:=ce HR.out.base ltx KX0.out;have kx1:=ce HR.out.base ltx KX1.out;have kx2:=ce HR.out.base ltx KX2.out;have ky0:=ce HR.out.base lty KY0.out;have ky1:=ce HR.out.base lty KY1.out;have ky2:=ce HR.out.base lty KY2.out
      skip))
   go_wp2_with
    ((skip
      first
       |(
        go_at_call 85;apply cM
        apply NBag.gcd (w0:=wA))
       |(
        go_at_call 86;apply cM
        apply NBag.quot (w0:=wA))
       |(
        go_at_call 88;apply cM
        apply NBag.mul (w0:=wA))
      (focus(first|exact HR.out|exact HR.out.drew|exact HR.out.drew.drew));(focus(repeat(first|exact List.Mem.head _|apply List.Mem.tail)));(focus(repeat(first|exact List.Mem.head _|apply List.Mem.tail)));omega
      try (focus(first|exact HG0.out|exact HH0.out))
      rintro e wn ⟨an,nn,cn,rfl,hb⟩;clear HR;have HR:=Hi hb;clear hb;have kx0:=ce HR.out.base ltx KX0.out;have kx1:=ce HR.out.base ltx KX1.out;have kx2:=ce HR.out.base ltx KX2.out;have ky0:=ce HR.out.base lty KY0.out;have ky1:=ce HR.out.base lty KY1.out;have ky2:=ce HR.out.base lty KY2.out
      skip))
   have HS':=Hi (HS.out.below HR.out.base HS.out.lt);have HBP':=Hi (HBP.out.trans (HR.out.base.mono HBP.out.size));clear HS HBP;have HS:=HS';have HBP:=HBP';clear HS' HBP';apply cM;apply NBag.built (w0:=wA) HR.out;(focus(repeat(first|exact List.Mem.head _|apply List.Mem.tail)));(focus(repeat(first|exact List.Mem.head _|apply List.Mem.tail)));(focus(exact HK0.out));(focus(exact HCP.out));rw[HE.out];rintro e w9 ⟨⟨v9,rfl,hv⟩,hb⟩;obtain⟨neg9,a9,n9,c9,b9,m9,d9,rfl,hv⟩:=hv;have hs:=HS.out.below hb HS.out.lt;have k0:=hs.cell 0;have k1:=hs.cell 1;have k2:=hs.cell 2;have f0:=hs.free 0;have f1:=hs.free 1;have f2:=hs.free 2;simp[zeroFrac] at k0 k1 k2;have HV:=Hi hv;have HS9:=Hi hs;have HB9:=Hi (HBP.out.trans (hb.mono HBP.out.size));clear hv hs hb;go_wp2
   refine bodyPost_ret (v:=.agg #[.bool neg9,.slice a9 n9 c9,.slice b9 m9 d9]) (results_cell_row rfl _ _ (w.heap.size+1+1) 103 #[.bool neg9,.slice a9 n9 c9,.slice b9 m9 d9] (0,0) _ rfl (((HS9.out.set 0 _).set 1 _).set 2 _) Tryz.underlying103 rfl Tryz.fracInfo) rfl ?_;have ho:=(((Only.refl (w.heap.size+1+1) w9).setCell 0 (.bool neg9)).setCell 1 (.slice a9 n9 c9)).setCell 2 (.slice b9 m9 d9);exact⟨⟨_,rfl,neg9,a9,n9,c9,b9,m9,d9,rfl,HV.out.only ho HS9.out Qbg⟩,Only.fresh HB9.out ho (by omega)⟩
theorem Qd1(s:ByteArray):s.toList= []↔s.data.toList= []:=by rw[Lib.toList_data]
def DigAns(s:ByteArray)(w:World)(e:Ending)(w':World):Prop:=(∃v,e=.returned (.bool v)/\(v=true↔IsDig s.data.toList))/\w'=w
set_option maxHeartbeats 1000000 in
theorem Qjn(s:ByteArray)(w:World)(hs:s.size<=1073741824):
 Calls Tryz.prog 93 #[.string s] w (DigAns s w):=by
 go_enter Tryz.func93,Tryz.ntmps93;go_wp2;go_loop [6] (fun i=>∃k:Nat,k<=s.size/\i=.int .i64 k/\AllDigits (s.data.toList.take k)) (fun i=>s.size - (intOf i).toNat)
 case atStart=>exact⟨0,by omega,rfl,fun c hc=>by simp at hc⟩
 case round=>
  obtain⟨k,hk,rfl,hd⟩:=hrel;have HD:=Hi hd;clear hd;by_cases hlt:k<s.size
  ·
   have HT:=Hi (Qe2 s k hlt);have b0:(0:Int)<=(k:Int):=by omega
   have b1:(k:Int)<(s.size:Int):=by omega
   have HM:Hid (s[k]∈ s.data.toList):=Hi (List.mem_iff_getElem.2 ⟨k,by simpa using hlt,rfl⟩);by_cases h1:s[k].toNat<48
   ·
    have q1:((s[k].toNat:Int)<48):=by omega
    go_wp2;go_ret;refine⟨⟨false,rfl,?_⟩,rfl⟩;constructor
    · intro h;cases h
    · intro h;have:=(h.2 _ HM.out).1;omega
   ·
    have q1:¬((s[k].toNat:Int)<48):=by omega
    by_cases h2:57<s[k].toNat
    ·
     have q2:((57:Int)<(s[k].toNat:Int)):=by omega
     go_wp2;go_ret;refine⟨⟨false,rfl,?_⟩,rfl⟩;constructor
     · intro h;cases h
     · intro h;have:=(h.2 _ HM.out).2;omega
    ·
     have q2:¬((57:Int)<(s[k].toNat:Int)):=by omega
     go_wp2;go_round
     case rel=>
      refine⟨k+1,by omega,by go_num,?_⟩;rw[HT.out];intro c hc;rcases List.mem_append.1 hc with hc|hc
      · exact HD.out c hc
      · rw[List.mem_singleton.1 hc];omega
     case measure=>simp[intOf];omega
  ·
   have hk':k=s.size:=by omega
   subst hk';have HA:Hid (AllDigits s.data.toList):=Hi (by have:=HD.out;rwa [List.take_of_length_le (by simp)] at this);by_cases h0:s.toList= []
   ·
    go_wp2;go_ret;refine⟨⟨_,rfl,?_⟩,rfl⟩;have:¬IsDig s.data.toList:=fun h=>h.1 ((Qd1 s).1 h0)
    simp[h0,this]
   ·
    go_wp2;go_ret;refine⟨⟨_,rfl,?_⟩,rfl⟩;have:IsDig s.data.toList:=⟨fun h=>h0 ((Qd1 s).2 h),HA.out⟩;simp[h0,this]
set_option maxHeartbeats 1000000 in
theorem Qjo(s:ByteArray)(w:World)(hs:s.size<=19)(hd:AllDigits s.data.toList):
 Calls Tryz.prog 136 #[.string s] w fun e w'=>e=.returned (.int .u64 ((decVal s.data.toList:Nat):Int))/\w'=w:=by
 have HD:=Hi hd;clear hd;go_enter Tryz.func136,Tryz.ntmps136;go_wp2;go_loop [3,7] (fun r i=>∃k v:Nat,k<=s.size/\i=.int .i64 k/\r=.int .u64 v/\decVal (s.data.toList.take k)=v) (fun _ i=>s.size - (intOf i).toNat)
 case atStart=>exact⟨0,0,by omega,rfl,rfl,by simp[decVal]⟩
 case round=>
  obtain⟨k,v,hk,rfl,rfl,hv⟩:=hrel;have HV:=Hi hv;clear hv;by_cases hlt:k<s.size
  ·
   have hdk:=Qe3 HD.out k hlt;have HT:=Hi (Qe2 s k hlt);obtain⟨d,hd9,hde,hdi⟩:=Qif s[k] hdk.1 hdk.2;have HDE:=Hi hde;have b0:(0:Int)<=(k:Int):=by omega
   have b1:(k:Int)<(s.size:Int):=by omega
   have e48:(48:Int)+(d:Int) - 48=d:=by omega
   have hvb:v<1000000000000000000:=by
    have h1:=Qaz _ (HD.out.take k);rw[HV.out] at h1;have h2:(s.data.toList.take k).length<=18:=by rw[List.length_take];omega
    have h3:10 ^ (s.data.toList.take k).length<=10 ^ 18:=Nat.pow_le_pow_right (by decide) h2;omega
   obtain⟨v',hv'⟩:∃v',v*10+d=v':=⟨_,rfl⟩;have HN:=Hi hv';have m1:(v:Int)*10+(d:Int)=(v':Int):=by omega
   clear hde hdk hv';go_wp2;go_round
   case rel=>exact⟨k+1,v',by omega,by go_num,by go_num,by rw[HT.out,Qda,HV.out,HDE.out,<-HN.out];omega⟩
   case measure=>simp[intOf];omega
  ·
   have hk':k=s.size:=by omega
   subst hk';go_wp2;go_ret;have hv:=HV.out;rw[List.take_of_length_le (by simp)] at hv;exact⟨by rw[hv];rfl,rfl⟩
structure OwnB (w:World) (B g cap:Nat) (ws:List Nat):Prop where
 base:B<=g
 fit:ws.length<=cap
 most:cap<=maxLen
 blk:∃C,SB w g 123 C/\C.size=cap/\C.toList.take ws.length=ws.map (fun n:Nat=>Value.int .u64 n)
theorem OwnB.lt{w:World}{B g cap:Nat}{ws:List Nat}(h:OwnB w B g cap ws):g<w.heap.size:=by obtain⟨C,h,_⟩:=h.blk;exact h.lt
theorem OwnB.owns{w:World}{B g cap:Nat}{ws:List Nat}(h:OwnB w B g cap ws):w.ownsRow B 123 1 (.slice (some ⟨g,0,none⟩) ws.length cap) ws.length (ws.map (fun n:Nat=>Value.int .u64 n)):=by
 obtain⟨C,h1,h2,h3⟩:=h.blk;exact⟨by simp,.inr ⟨g,cap,C,rfl,h.base,h1,h.fit,h.most,by omega,by rw[Nat.mul_one];exact h3⟩⟩
theorem OwnB.of{w:World}{B g n cap:Nat}{ws:List Nat}(hn:ws.length=n)(h:w.ownsRow B 123 1 (.slice (some ⟨g,0,none⟩) n cap) n (ws.map (fun n:Nat=>Value.int .u64 n))):OwnB w B g cap ws:=by
 rcases h.2 with ⟨h,_⟩|⟨g',cap',C,he,hb,hg,hf,hm,hs,ht⟩
 · cases h
 ·
  injection he with h1 h2 h3
  injection h1 with h1
  injection h1 with h1 _ _
  subst h1;subst h3;rw[Nat.mul_one] at hs ht;exact⟨hb,by omega,hm,C,hg,hs,by rw[hn];exact ht⟩
theorem OwnB.at{w:World}{B g cap:Nat}{ws:List Nat}(h:OwnB w B g cap ws)(i:Nat)(hi:i<ws.length):w.cell? ⟨g,i,none⟩=some (.int .u64 ((ws.getD i 0:Nat):Int)):=by
 obtain⟨C,h1,h2,h3⟩:=h.blk;rw[h1.cell];have e:(C.toList.take ws.length)[i]?=(ws.map (fun n:Nat=>Value.int .u64 (n:Int)))[i]?:=by rw[h3]
 rw[List.getElem?_take_of_lt hi,List.getElem?_map,gE hi] at e;rw[Array.getElem?_toList] at e;rw[e,List.getD_eq_getElem?_getD,gE hi];rfl
theorem OwnB.free{w:World}{B g cap:Nat}{ws:List Nat}(h:OwnB w B g cap ws)(i:Nat):w.frozen? ⟨g,i,none⟩=false:=by
 obtain⟨C,h1,_⟩:=h.blk;exact h1.free i
theorem OwnB.set{w:World}{B g cap:Nat}{ws:List Nat}(h:OwnB w B g cap ws)(i x:Nat):OwnB (w.setCell ⟨g,i,none⟩ (.int .u64 (x:Int))) B g cap (ws.set i x):=by
 obtain⟨C,h1,h2,h3⟩:=h.blk;refine⟨h.base,by rw[List.length_set];exact h.fit,h.most,_,h1.set i _,by rw[Array.size_setIfInBounds];exact h2,?_⟩;rw[List.length_set,Array.toList_setIfInBounds,List.take_set,h3,List.map_set]
theorem OwnB.pre{w:World}{B g cap:Nat}{ws:List Nat}(h:OwnB w B g cap ws):Pre w g ws:=by
 have h':=h;obtain⟨C,h1,h2,h3⟩:=h.blk;exact⟨C,h1,fun i hi=>by rw[<-h1.cell];exact h'.at i hi⟩
theorem Qq8{ws:List Nat}{x:Nat}(hs:Small 18446744073709551616 ws)(hv:val 18446744073709551616 ws=x)(hx:ws.length=0∨18446744073709551616 ^ (ws.length - 1)<=x):Num 18446744073709551616 ws x:=by
 refine⟨hs,?_,hv⟩;rcases hx with hx|hx
 · left;exact List.length_eq_zero_iff.1 hx
 ·
  by_cases h0:ws.length=0
  · left;exact List.length_eq_zero_iff.1 h0
  right;intro hc;obtain⟨j,hj⟩:∃j,ws.length=j+1:=⟨ws.length - 1,by omega⟩;have h1:=Qb0 18446744073709551616 ws j (by omega);rw[hj,Nat.add_sub_cancel] at hc hx;rw[hc,Nat.mul_zero,Nat.add_zero,List.take_of_length_le (by omega),hv] at h1;have h2:=Qab (B:=18446744073709551616) (by decide) (hs.take j);rw[List.length_take,Nat.min_eq_left (by omega)] at h2;omega
theorem Qq9{B k over d R h l chunk:Nat}{rs ws:List Nat}(hk:k<rs.length)(hd:ws.getD k 0=d)(h1:l+B*h=d*R+over)(hv:val B (rs.take k)+B ^ k*over=val B (ws.take k)*R+chunk):
 val B ((rs.set k l).take (k+1))+B ^ (k+1)*h=val B (ws.take (k+1))*R+chunk:=by
 rw[take_set _ _ _ hk,Qal,List.length_take,Nat.min_eq_left (by omega),Qad,hd,Nat.pow_succ];have e1:B ^ k*(l+B*h)=B ^ k*(d*R+over):=by rw[h1]
 rw[Nat.mul_add,Nat.mul_add,<-Nat.mul_assoc] at e1;rw[Nat.add_mul,Nat.mul_assoc (B ^ k) d R];omega
theorem Tryz.info64':∃i,Tryz.prog.info? 123=some i/\i.zero=some (.int .u64 0)/\i.size=1/\i.bytes=8:=info_parts Tryz.info64
set_option maxRecDepth 100000 in
set_option maxHeartbeats 1000000 in
theorem Qjj(B g cap:Nat)(ws:List Nat)(x chunk:Nat)(w:World)(h:OwnB w B g cap ws)(hx:Num 18446744073709551616 ws x)(hc:chunk<18446744073709551616)(hl:ws.length<1099511627770)(hBw:B<=w.heap.size):
 Calls Tryz.prog 135 #[.slice (some ⟨g,0,none⟩) ws.length cap,.int .u64 chunk] w fun e w'=>(∃g' cap' ws',e=.returned (.slice (some ⟨g',0,none⟩) (List.length ws') cap')/\OwnB w' B g' cap' ws'/\Num 18446744073709551616 ws' (x*10000000000000000000+chunk)/\ws'.length<=ws.length+1)/\Below B w w'/\w.heap.size<=w'.heap.size:=by
 obtain⟨i0,hi,hz0,hz1,hz2⟩:=Tryz.info64';have HI:=Hi hi;have HZ0:=Hi hz0;have HZ1:=Hi hz1;have HZ2:=Hi hz2;have hcap:=h.fit;have HO:=Hi h;have HX:=Hi hx;clear h hx hi hz0 hz1 hz2;go_enter Tryz.func135,Tryz.ntmps135;go_wp2;go_loopw [5,10] (fun ov iv wr=>∃(k over:Nat) (rs:List Nat),k<=ws.length/\iv=.int .i64 k/\ov=.int .u64 over/\over<18446744073709551616/\OwnB wr B g cap rs/\rs.length=ws.length/\Small 18446744073709551616 rs/\(∀p,k<=p->rs.getD p 0=ws.getD p 0)/\val 18446744073709551616 (rs.take k)+18446744073709551616 ^ k*over=val 18446744073709551616 (ws.take k)*10000000000000000000+chunk/\Only g w wr) (fun _ iv _=>ws.length - (intOf iv).toNat)
 case atStart=>exact⟨0,chunk,ws,by omega,rfl,rfl,hc,HO.out,rfl,HX.out.small,fun _ _=>rfl,by simp[val],Only.refl _ _⟩
 case round=>
  obtain⟨k,over,rs,hk,rfl,rfl,hov,hown,hrl,hrs,hun,hv,hon⟩:=hrel;have HOW:=Hi hown;have HRL:=Hi hrl;have HRS:=Hi hrs;have HUN:=Hi hun;have HV:=Hi hv;have HON:=Hi hon;have hgl:=hown.lt;clear hown hrl hrs hun hv hon;by_cases hlt:k<ws.length
  ·
   obtain⟨d,hd⟩:=nm (ws.getD k 0);have hdb:d<18446744073709551616:=by rw[<-hd];exact HX.out.small.getD (by omega) k
   have g1:=HOW.out.free k;have g2:=HOW.out.at k (by have:=HRL.out;omega);rw[HUN.out k lZ,hd] at g2;obtain⟨h,l,hh,hl',hhl,hcm⟩:=Qcs d 10000000000000000000 over hdb (by decide) hov;have HCM:=Hi hcm;have HD:=Hi hd;have HHL:=Hi hhl;clear hcm hd hhl;go_wp2_with fail;go_fit (HCM.out _);rintro e w2 ⟨rfl,hw2⟩;subst hw2;clear HCM;go_wp2;go_roundw
   case rel=>
    refine⟨k+1,h,rs.set k l,by omega,by go_num,rfl,hh,HOW.out.set k l,by rw[List.length_set];exact HRL.out,HRS.out.set _ hl',?_,Qq9 (by have:=HRL.out;omega) HD.out HHL.out HV.out,HON.out.setCell _ _⟩;intro p hp;rw[getD_set_ne _ _ _ _ (by omega)];exact HUN.out p (by omega)
   case measure=>simp[intOf];omega
  ·
   have hk':k=ws.length:=by omega
   subst hk';have HV2:Hid (val 18446744073709551616 rs+18446744073709551616 ^ rs.length*over=x*10000000000000000000+chunk):=Hi (by
    have:=HV.out;rw[List.take_of_length_le (by rw[HRL.out];exact Nat.le_refl _),List.take_length,HX.out.eq] at this
    rw[HRL.out];exact this)
   by_cases ho0:over=0
   ·
    subst ho0;go_wp2;go_ret;have hv3:=HV2.out;rw[Nat.mul_zero,Nat.add_zero] at hv3;refine⟨⟨g,cap,rs,by rw[HRL.out];rfl,HOW.out,Qq8 HRS.out hv3 ?_,by rw[HRL.out];omega⟩,HON.out.below HO.out.base hBw,HON.out.size⟩;by_cases hz:rs.length=0
    · exact .inl hz
    right;rw[HRL.out] at hz ⊢;have h1:18446744073709551616 ^ (ws.length - 1)<=x:=by have:=HX.out.trim.pow_le (B:=18446744073709551616) (by omega);rw[HX.out.eq] at this;exact this
    omega
   ·
    have q0:((over:Int) != 0)=true:=by rw[bne_iff_ne];omega
    have HLE:=Hi HRL.out;have hsz:=HON.out.size;rw[<-HRL.out];have hrl2:rs.length<1099511627770:=by rw[HRL.out];exact hl
    go_wp2_with (at_builtin;refine wpList_append_lies _ rfl _ _ 101 rfl B 123 i0 (.int .u64 0) 1 8 Tryz.underlying101 HI.out HZ0.out HZ1.out HZ2.out rfl (by decide) _ rs.length (rs.map (fun n:Nat=>Value.int .u64 n)) rfl (Qcj HOW.out.owns (bR.alloc lZ _)) ⟨wr.heap.size,0,none⟩ 1 1 [Value.int .u64 (over:Int)] rfl rfl ?c1 ?c2 (by decide) ?c3 ?c4 ?c5 _ rfl ?_)
    case c1=>exact World.news_of_block (heap_alloc_new wr _)
    case c2=>intro u hu;rw[List.mem_singleton.1 hu];rfl
    case c3=>unfold maxLen;omega
    case c4=>omega
    case c5=>rw[World.size_alloc];omega
    intro g2 cap2 w3 hown3 hgrow hat hlt3;have HO3:Hid (OwnB w3 B g2 cap2 (rs++ [over])):=Hi (OwnB.of (n:=rs.length+1) (by simp) (by rw[List.map_append];exact hown3));have HG:=Hi hgrow;clear hown3 hgrow hat hlt3;go_wp2;go_ret;have hBB:Below B w w3:=Below.grown ((HON.out.below HO.out.base hBw).alloc (by omega) _) HG.out (by rw[World.size_alloc];omega) (fun q hq=>by
     simp[Value.ownBlock] at hq;subst hq;exact HO.out.base)
    refine⟨⟨g2,cap2,rs++ [over],by simp,HO3.out,?_,by rw[List.length_append,HRL.out];simp⟩,hBB,hBB.size⟩;refine⟨HRS.out.append (fun e he=>by rw[List.mem_singleton.1 he];exact hov),.inr ?_,by rw[Qal];exact HV2.out⟩;simp;omega
theorem Qra(L:Int)(n:Nat)(hL:L=n)(hn:n<=2199023255552)(w:World):
 (Instr.makeSlice 101 (.int .i64 0) (.int .i64 L)).run Tryz.prog w=.ok (.slice (some ⟨w.heap.size,0,none⟩) 0 n) (w.alloc (.cells (wordCells .u64 (zeros n)) 123)):=by
 subst hL;obtain⟨i,hi,hz,hs,hb⟩:=Tryz.info64';have hr:=run_make (P:=Tryz.prog) w 101 123 i (.int .u64 0) Tryz.underlying101 hi hz .i64 .i64 0 n (by omega) (by omega) (by rw[hb];omega) (by omega);simp only[Int.toNat_natCast,hs,Nat.mul_one] at hr;rw[<-Qdw];exact hr
theorem Qjk(l:List UInt8):decVal (48 :: l)=decVal l:=by
 unfold decVal;rw[List.foldl_cons];rfl
theorem Qrb(l:List UInt8):decVal (Lib.trimLeftB l 48)=decVal l:=by
 induction l with
 |nil=>rfl
 |cons c l ih=>
  unfold Lib.trimLeftB at ih ⊢;rw[List.dropWhile_cons]
  split
  ·
   rename_i h;have:c=48:=by simpa using h
   rw[ih,this,Qjk]
  · rfl
theorem Qrc{l:List UInt8}(h:AllDigits l):AllDigits (Lib.trimLeftB l 48):=fun c hc=>h c ((List.dropWhile_sublist _).mem hc)
theorem Qrd(l:List UInt8):(Lib.trimLeftB l 48).length<=l.length:=(List.dropWhile_sublist _).length_le
theorem Qah(s:ByteArray):s.data.toList.length=s.size:=by simp
theorem Qjl(r:ByteArray)(N:Nat)(hN:N<=r.size):r.data.toList=(r.extract 0 N).data.toList++(r.extract N r.size).data.toList/\(r.extract 0 N).size=N/\(r.extract N r.size).size=r.size - N:=by
 have hl:=Qah r;refine⟨?_,by simp;omega,by simp⟩;rw[Lib.extract_data,Lib.extract_data,List.drop_zero,Nat.sub_zero,List.take_of_length_le (l:=r.data.toList.drop N) (by rw[List.length_drop];omega),List.take_append_drop]
def strLen:Value->Nat
 | .string s=>s.size
 |_=>0
theorem Qre(s:ByteArray)(w:World):
 Calls Tryz.prog 134 #[.string s,.string ⟨#[48]⟩] w fun e w'=>e=.returned (.string ⟨(Lib.trimLeftB s.data.toList 48).toArray⟩)/\w'=w:=Any.strings_TrimLeft_one Tryz.lays161 s 48 (by decide) w
set_option maxRecDepth 100000 in
set_option maxHeartbeats 1000000 in
theorem Qjm(s:ByteArray)(w:World)(hs:s.size<=1073741824)(hd:AllDigits s.data.toList):
 Calls Tryz.prog 94 #[.string s] w (Nat64 w (decVal s.data.toList)):=by
 obtain⟨t,ht⟩:=nm ((⟨(Lib.trimLeftB s.data.toList 48).toArray⟩:ByteArray));have hte:t.data.toList=Lib.trimLeftB s.data.toList 48:=by rw[<-ht]
 have hts:t.size<=1073741824:=by
  have:=Qrd s.data.toList;rw[<-hte,Qah,Qah] at this;omega
 have HV:=Hi (show decVal t.data.toList=decVal s.data.toList by rw[hte,Qrb]);have HD:=Hi (show AllDigits t.data.toList by rw[hte];exact Qrc hd);have HTR:=Hi (Qre s w);rw[ht] at HTR;clear ht hte hd;obtain⟨q,hq⟩:∃q:Nat,t.size / 19=q:=⟨_,rfl⟩;have q1:(t.size:Int) / 19=(q:Int):=by omega
 have q2:Int.tdiv (t.size:Int) 19=(q:Int):=by rw[<-q1];exact Int.tdiv_eq_ediv_of_nonneg (by omega)
 have hqb:q<=1073741824:=by omega
 have hmk:∀w,(Instr.makeSlice 101 (.int .i64 0) (.int .i64 ((q:Int)+1))).run Tryz.prog w=.ok (.slice (some ⟨w.heap.size,0,none⟩) 0 (q+1)) (w.alloc (.cells (wordCells .u64 (zeros (q+1))) 123)):=
  fun w=>Qra _ (q+1) (by omega) (by omega) w
 go_enter Tryz.func94,Tryz.ntmps94;go_wp2_with fail;go_fit HTR.out;rintro e w ⟨rfl,hw⟩;subst hw;clear HTR;go_wp2_with fail;clear hmk q1 q2;go_loopw [0,3] (fun sv xv wr=>∃(r:ByteArray) (pre:List UInt8) (g cap:Nat) (ws:List Nat),sv=.string r/\xv=.slice (some ⟨g,0,none⟩) ws.length cap/\t.data.toList=pre++r.data.toList/\(pre= []∨r.size % 19=0)/\OwnB wr w.heap.size g cap ws/\Num 18446744073709551616 ws (decVal pre)/\ws.length<=pre.length/\Below w.heap.size w wr) (fun sv _ _=>strLen sv)
 case atStart=>
  refine⟨t,[],w.heap.size,q+1,[],rfl,rfl,rfl,.inl rfl,⟨Nat.le_refl _,by simp,by unfold maxLen;omega,_,SB.new _ _ _,by simp[wordCells,zeros],by simp⟩,Num.zero _,by simp,bR.alloc lZ _⟩
 case round=>
  obtain⟨r,pre,g,cap,ws,rfl,rfl,hcat,hfst,hown,hnum,hlen,hb⟩:=hrel;have HF:=Hi hfst;clear hfst;have HC:=Hi hcat;have HO:=Hi hown;have HN:=Hi hnum;have HB:=Hi hb;have hpl:pre.length+r.size=t.size:=by rw[<-Qah r,<-Qah t,hcat,List.length_append]
  have HDR:Hid (AllDigits r.data.toList):=Hi (fun c hc=>HD.out c (by rw[hcat];exact List.mem_append_right _ hc));clear hcat hown hnum hb;by_cases h0:r.toList= []
  ·
   go_wp2;go_ret;have hr0:r.data.toList= []:=(Qd1 r).1 h0;have hpre:pre=t.data.toList:=by have:=HC.out;rw[hr0,List.append_nil] at this;exact this.symm
   refine⟨⟨_,_,ws,rfl,HO.out.pre.row _ HO.out.fit,?_,by omega⟩,HB.out⟩;rw[<-HV.out,<-hpre];exact HN.out
  ·
   have hr1:0<r.size:=by
    rcases Nat.eq_zero_or_pos r.size with h|h
    · exact absurd ((Qd1 r).2 (List.length_eq_zero_iff.1 (by rw[Qah];exact h))) h0
    · exact h
   have hne:r.toList.isEmpty=false:=by simp[h0]
   obtain⟨m,hm⟩:∃m:Nat,r.size % 19=m:=⟨_,rfl⟩;have m1:(r.size:Int) % 19=(m:Int):=by omega
   have m2:Int.tmod (r.size:Int) 19=(m:Int):=by rw[<-m1];exact Int.tmod_eq_emod_of_nonneg (by omega)
   by_cases hm0:m=0
   ·
    subst hm0;obtain⟨hcat,hcs,hrs⟩:=Qjl r 19 (by omega);have HCAT:=Hi hcat;have HCD:Hid (AllDigits (r.extract 0 19).data.toList):=Hi (fun c hc=>HDR.out c (by rw[hcat];exact List.mem_append_left _ hc));have HPC:=Hi (fun w=>Qjo (r.extract 0 19) w (by omega) HCD.out);obtain⟨V,hV⟩:=nm (decVal (r.extract 0 19).data.toList);have hVb:V<18446744073709551616:=by
     have h1:=Qaz _ HCD.out;rw[hV,Qah,hcs] at h1;have h3:10 ^ 19<=10 ^ 19:=Nat.pow_le_pow_right (by decide) (by omega);omega
    rw[hV] at HPC;have HVV:=Hi hV;have HCS:=Hi (hcs.trans rfl);obtain⟨CH,hCH⟩:=nm (r.extract 0 19);obtain⟨RS,hRS⟩:=nm (r.extract 19 r.size);rw[hCH,hRS] at HCAT;rw[hCH] at HCS HVV HPC;rw[hRS] at hrs;have HCH:=Hi hCH;have HRS:=Hi hRS;have HAC:=Hi (Qjj w.heap.size g cap ws (decVal pre) V wr HO.out HN.out hVb (by omega) HB.out.size);clear hcat hcs hV hCH hRS;go_wp2_with fail;rw[HCH.out];go_fit (HPC.out _);rintro e w2 ⟨rfl,hw2⟩;subst hw2;clear HPC;go_wp2_with fail;go_fit HAC.out;rintro e w3 ⟨⟨g3,cap3,ws3,rfl,ho3,hn3,hl3⟩,hb3,hsz3⟩;have HO3:=Hi ho3;have HN3:=Hi hn3;have HB3:=Hi (HB.out.trans hb3);clear HAC ho3 hn3 hb3;go_wp2;rw[HRS.out];go_roundw
    case rel=>
     refine⟨RS,pre++CH.data.toList,g3,cap3,ws3,rfl,rfl,?_,.inr (by omega),HO3.out,?_,?_,HB3.out⟩
     · rw[HC.out,HCAT.out,List.append_assoc]
     · rw[Qbz,HVV.out,Qah,HCS.out,show (10:Nat) ^ 19=10000000000000000000 from rfl]
       exact HN3.out
     · rw[List.length_append,Qah,HCS.out];omega
    case measure=>simp[strLen];omega
   ·
    have z0:((m:Int) == 0)=false:=by rw[beq_eq_false_iff_ne];omega
    have hpre:decVal pre*10 ^ m=decVal pre*10000000000000000000:=by rcases HF.out with h|h;rw[h];simp[decVal];omega
    have HPRE:=Hi hpre;clear hpre;obtain⟨hcat,hcs,hrs⟩:=Qjl r m (by omega);have HCAT:=Hi hcat;have HCD:Hid (AllDigits (r.extract 0 m).data.toList):=Hi (fun c hc=>HDR.out c (by rw[hcat];exact List.mem_append_left _ hc));have HPC:=Hi (fun w=>Qjo (r.extract 0 m) w (by omega) HCD.out);obtain⟨V,hV⟩:=nm (decVal (r.extract 0 m).data.toList);have hVb:V<18446744073709551616:=by
     have h1:=Qaz _ HCD.out;rw[hV,Qah,hcs] at h1;have h3:10 ^ m<=10 ^ 19:=Nat.pow_le_pow_right (by decide) (by omega);omega
    rw[hV] at HPC;have HVV:=Hi hV;have HCS:=Hi (hcs.trans rfl);obtain⟨CH,hCH⟩:=nm (r.extract 0 m);obtain⟨RS,hRS⟩:=nm (r.extract m r.size);rw[hCH,hRS] at HCAT;rw[hCH] at HCS HVV HPC;rw[hRS] at hrs;have HCH:=Hi hCH;have HRS:=Hi hRS;have HAC:=Hi (Qjj w.heap.size g cap ws (decVal pre) V wr HO.out HN.out hVb (by omega) HB.out.size);clear hcat hcs hV hCH hRS;go_wp2_with fail;rw[HCH.out];go_fit (HPC.out _);rintro e w2 ⟨rfl,hw2⟩;subst hw2;clear HPC;go_wp2_with fail;go_fit HAC.out;rintro e w3 ⟨⟨g3,cap3,ws3,rfl,ho3,hn3,hl3⟩,hb3,hsz3⟩;have HO3:=Hi ho3;have HN3:=Hi hn3;have HB3:=Hi (HB.out.trans hb3);clear HAC ho3 hn3 hb3;go_wp2;rw[HRS.out];go_roundw
    case rel=>
     refine⟨RS,pre++CH.data.toList,g3,cap3,ws3,rfl,rfl,?_,.inr (by omega),HO3.out,?_,?_,HB3.out⟩
     · rw[HC.out,HCAT.out,List.append_assoc]
     · rw[Qbz,HVV.out,Qah,HCS.out,HPRE.out]
       exact HN3.out
     · rw[List.length_append,Qah,HCS.out];omega
    case measure=>simp[strLen];omega
end Go.Proofs.YtfpcipgoedifaaaGreatDoor
