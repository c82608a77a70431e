/- num's addSigned, reduced, Plus, Times, Over, Minus. -/
import Derived.Test.YtodfmpjhcmapmaaGreatDoorN22Ret2
namespace Go.Proofs.YtodfmpjhcmapmaaGreatDoor
open Go.RowKit
set_option linter.unusedVariables false
set_option linter.unusedSimpArgs false
theorem Qkk{p q:Bool}{x y:Nat}(h:p≠q)(hxy:x≤y):sgn q (y - x)=sgn p x+sgn q y:=by
 cases p<;>cases q<;>simp[sgn] at h ⊢ <;>omega
theorem Qkl{p q:Bool}{x y:Nat}(h:p≠q)(hxy:y≤x):sgn p (x - y)=sgn p x+sgn q y:=by
 cases p<;>cases q<;>simp[sgn] at h ⊢ <;>omega
theorem Qkm(p:Bool)(x y:Nat):sgn p (x+y)=sgn p x+sgn p y:=by
 cases p<;>simp[sgn]<;>omega
theorem Qkn{x j k:Nat}(h:x<2 ^ j)(hk:j≤k):x<2 ^ k:=Nat.lt_of_lt_of_le h (Nat.pow_le_pow_right (by decide) hk)
theorem NBag.grow{w0 w:World}{L:List Ent}{a:Option Addr}{n c x j k:Nat}(h:NBag w0 w (⟨a,n,c,x,j⟩ :: L))(hk:j≤k):NBag w0 w (⟨a,n,c,x,k⟩ :: L):=
 ⟨h.base,fun t ht=>by
   rcases List.mem_cons.1 ht with rfl|ht
   · exact⟨(h.ts _ (List.Mem.head _)).1,Qkn (h.ts _ (List.Mem.head _)).2 hk⟩
   · exact h.ts t (List.mem_cons_of_mem _ ht)⟩
theorem NBag.rebase{w0 w:World}{L:List Ent}(h:NBag w0 w L):NBag w w L:=⟨Below.refl _ _,h.ts⟩
def Signed(w0:World)(L:List Ent)(k:Nat)(z:Int)(e:Ending)(w':World):Prop:=∃r a n c t,e=.returned (.tuple #[.bool r,.slice a n c])∧NBag w0 w' (⟨a,n,c,t,k⟩ :: L)∧sgn r t=z
set_option maxHeartbeats 400000 in
theorem NBag.addSigned{w0 w:World}{L:List Ent}{a1 a2:Option Addr}{n1 n2 c1 c2 x y j k:Nat}{p q:Bool}(h:NBag w0 w L)(hx:⟨a1,n1,c1,x,j⟩∈ L)(hy:⟨a2,n2,c2,y,k⟩∈ L)(hj:j+k<274877906000):
 Calls Tryz.prog 119 #[.bool p,.slice a1 n1 c1,.bool q,.slice a2 n2 c2] w (Signed w0 L (j+k+1) (sgn p x+sgn q y)):=by
 by_cases hpq:p=q
 ·
  subst hpq;have HA:=Hi (h.add hx hy hj);clear h hx hy hj;go_enter Tryz.func119,Tryz.ntmps119;go_wp2_with fail;go_fit HA.out;rintro e w1 ⟨a,n,c,rfl,hb⟩;have HB:=Hi hb;clear hb HA;go_wp2;go_ret2;exact⟨p,a,n,c,x+y,rfl,HB.out,Qkm p x y⟩
 ·
  have hpq':(p == q)=false:=by simpa using hpq
  have HC:=Hi (h.compare hx hy);have HX:=Hi hx;have HY:=Hi hy;have HP:=Hi hpq;clear h hx hy hj hpq;by_cases hlt:x<y
  ·
   have hcmp:cmp3 x y<0:=(Qar x y).2 hlt;go_enter Tryz.func119,Tryz.ntmps119;go_wp2_with fail;go_fit HC.out;rintro e w1 ⟨rfl,hb⟩;have HA:=Hi (hb.sub HY.out HX.out (by omega));clear hb HC;go_wp2_with fail;go_fit HA.out;rintro e w1 ⟨a,n,c,rfl,hb⟩;have HB:=Hi hb;clear hb HA;go_wp2;go_ret2;exact⟨q,a,n,c,y - x,rfl,HB.out.grow (by omega),Qkk HP.out (by omega)⟩
  ·
   have hcmp:¬(cmp3 x y<0):=fun h=>by have:=(Qar x y).1 h;omega
   go_enter Tryz.func119,Tryz.ntmps119;go_wp2_with fail;go_fit HC.out;rintro e w1 ⟨rfl,hb⟩;have HA:=Hi (hb.sub HX.out HY.out (by omega));clear hb HC;go_wp2_with fail;go_fit HA.out;rintro e w1 ⟨a,n,c,rfl,hb⟩;have HB:=Hi hb;clear hb HA;go_wp2;go_ret2;exact⟨p,a,n,c,x - y,rfl,HB.out.grow (by omega),Qkl HP.out (by omega)⟩
theorem Qko{neg:Bool}{t k g:Nat}(hk:0<k)(hg:Nat.gcd t k=g):mkRat (sgn neg (t / g)) (k / g)=mkRat (sgn neg t) k∧Nat.Coprime (t / g) (k / g)∧0<k / g∧0<g:=by
 have gp:0<g:=by rw[←hg];exact Nat.gcd_pos_of_pos_right _ hk
 have d1:g ∣ t:=hg ▸ Nat.gcd_dvd_left _ _;have d2:g ∣ k:=hg ▸ Nat.gcd_dvd_right _ _;have e1:=Nat.div_mul_cancel d1;have e2:=Nat.div_mul_cancel d2;refine⟨?_,by have:=Nat.coprime_div_gcd_div_gcd (m:=t) (n:=k) (by omega);rw[hg] at this;exact this,?_,gp⟩
 ·
  rw[←Rat.mkRat_mul_right (a:=g) (by omega),e2]
  congr 1
  have:=Qb0 neg false (t / g) g;rw[show sgn false g=(g:Int) from rfl,e1,Bool.bne_false] at this;exact this.symm
 ·
  rcases Nat.eq_zero_or_pos (k / g) with h|h
  · rw[h] at e2;omega
  · exact h
theorem NBag.start{w:World}{a b:Option Addr}{n c m d t k i j:Nat}(ht:NumV w a n c t)(hk:NumV w b m d k)(hi:t<2 ^ i)(hj:k<2 ^ j):NBag w w [⟨a,n,c,t,i⟩,⟨b,m,d,k,j⟩]:=by
 refine⟨Below.refl _ _,fun s hs=>?_⟩;simp only[List.mem_cons,List.not_mem_nil,or_false] at hs;rcases hs with rfl|rfl
 · exact⟨ht,hi⟩
 · exact⟨hk,hj⟩
set_option maxHeartbeats 1000000 in
theorem Qkp(neg:Bool)(a b:Option Addr)(n c m d t k i j:Nat)(w:World)(ht:NumV w a n c t)(hk:NumV w b m d k)(hi:t<2 ^ i)(hj:k<2 ^ j)(hij:i+j<137438953000):
 Calls Tryz.prog 70 #[.bool neg,.slice a n c,.slice b m d] w (FNew w (mkRat (sgn neg t) k)):=by
 have hz:=hk.zero_iff;by_cases h0:k=0
 ·
  have hm:m=0:=hz.1 h0;subst h0 hm;rw[Rat.mkRat_zero];have HB:=Hi ((Below.refl w.heap.size w).alloc (Nat.le_refl _) (.cells #[.bool false,.slice none 0 0,.slice none 0 0] 62));clear ht hk hi hj hij hz;go_enter Tryz.func70,Tryz.ntmps70;go_wp2;refine bodyPost_ret (v:=.agg #[.bool false,.slice none 0 0,.slice none 0 0]) (results_cell_row rfl _ _ w.heap.size 62 #[.bool false,.slice none 0 0,.slice none 0 0] (0,0) _ rfl (SB.new w _ _) Tryz.underlying62 rfl Tryz.fracInfo) rfl ?_;exact⟨⟨_,rfl,FracV.zero _⟩,HB.out⟩
 ·
  have hm:((m:Int) == 0)=false:=by rw[beq_eq_false_iff_ne];omega
  obtain⟨G,hG⟩:∃G,Nat.gcd t k=G:=⟨_,rfl⟩;obtain⟨e1,hc,hk0,hg0⟩:=Qko (neg:=neg) (by omega) hG;rw[←e1];have HR:=Hi (((NBag.start ht hk hi hj).alloc (.cells zeroFrac 62)).rebase);obtain⟨wA,hwA⟩:∃wA,w.alloc (.cells zeroFrac 62)=wA:=⟨_,rfl⟩;have HS:=Hi (SB.new w 62 zeroFrac);have HBP:=Hi ((Below.refl w.heap.size w).alloc (Nat.le_refl _) (.cells zeroFrac 62));rw[hwA] at HR HS HBP;have HC:=Hi hc;have HG:=Hi hG;have HWA:=Hi hwA;clear ht hk hi hj hz h0 hc hG e1 hwA;go_enter Tryz.func70,Tryz.ntmps70;go_wp2_with fail;rw[show w.alloc (.cells #[.bool false,.slice none 0 0,.slice none 0 0] 62)=wA from HWA.out];apply Calls.mono;apply NBag.gcd (w0:=wA) HR.out;(focus(repeat(first|exact List.Mem.head _|apply List.Mem.tail)));(focus(repeat(first|exact List.Mem.head _|apply List.Mem.tail)));omega;rw[HG.out];rintro e w1 ⟨aG,nG,cG,rfl,hb⟩;clear HR;have HR:=Hi hb;clear hb;skip;go_wp2_with fail;apply Calls.mono
  apply NBag.quot (w0:=wA) HR.out;(focus(repeat(first|exact List.Mem.head _|apply List.Mem.tail)));(focus(repeat(first|exact List.Mem.head _|apply List.Mem.tail)));omega;(first|assumption|omega);rintro e w2 ⟨aT,nT,cT,rfl,hb⟩;clear HR;have HR:=Hi hb;clear hb;skip;go_wp2_with fail;apply Calls.mono;apply NBag.quot (w0:=wA) HR.out;(focus(repeat(first|exact List.Mem.head _|apply List.Mem.tail)));(focus(repeat(first|exact List.Mem.head _|apply List.Mem.tail)));omega;(first|assumption|omega);rintro e w3 ⟨aL,nL,cL,rfl,hb⟩;clear HR;have HR:=Hi hb;clear hb;skip;go_wp2_with fail;have HS':=Hi (HS.out.below HR.out.base HS.out.lt);have HBP':=Hi (HBP.out.trans (HR.out.base.mono HBP.out.size));clear HS HBP;have HS:=HS';have HBP:=HBP';clear HS' HBP';go_fit (Qcg neg aT aL nT cT nL cL (t / G) (k / G) _ (HR.out.get (List.Mem.tail _ (List.Mem.head _))).1 (.inr ⟨hk0,(HR.out.get (List.Mem.head _)).1⟩) HC.out)
  rintro e w9 ⟨⟨v9,rfl,hv⟩,hb⟩;obtain⟨neg9,a9,n9,c9,b9,m9,d9,rfl,hv⟩:=hv;have hs:=HS.out.below hb HS.out.lt;have k0:=hs.cell 0;have k1:=hs.cell 1;have k2:=hs.cell 2;have f0:=hs.free 0;have f1:=hs.free 1;have f2:=hs.free 2;simp[zeroFrac] at k0 k1 k2;have HV:=Hi hv;have HS9:=Hi hs;have HB9:=Hi (HBP.out.trans (hb.mono HBP.out.size));clear hv hs hb;go_wp2;refine bodyPost_ret (v:=.agg #[.bool neg9,.slice a9 n9 c9,.slice b9 m9 d9]) (results_cell_row rfl _ _ (w.heap.size) 62 #[.bool neg9,.slice a9 n9 c9,.slice b9 m9 d9] (0,0) _ rfl (((HS9.out.set 0 _).set 1 _).set 2 _) Tryz.underlying62 rfl Tryz.fracInfo) rfl ?_;have ho:=(((Only.refl (w.heap.size) w9).setCell 0 (.bool neg9)).setCell 1 (.slice a9 n9 c9)).setCell 2 (.slice b9 m9 d9);exact⟨⟨_,rfl,neg9,a9,n9,c9,b9,m9,d9,rfl,HV.out.only ho HS9.out Qa6⟩,Only.fresh HB9.out ho (by omega)⟩
theorem NBag.under{w0 w:World}{L:List Ent}{neg:Bool}{a b:Option Addr}{n c m d k kb:Nat}(h:NBag w0 w L)(hl:Low w0 b m d k)(hk:k<2 ^ kb):
 Calls Tryz.prog 108 #[.agg #[.bool neg,.slice a n c,.slice b m d]] w (NNew w0 L k kb):=Qf6 neg a b n c m d k kb w0 w L h (hl.below h.base) hk
theorem NBag.built{w0 w:World}{L:List Ent}{neg:Bool}{a b:Option Addr}{n c m d t k i j:Nat}(h:NBag w0 w L)(hx:⟨a,n,c,t,i⟩∈ L)(hy:⟨b,m,d,k,j⟩∈ L)(hk:0<k)(hc:Nat.Coprime t k):
 Calls Tryz.prog 68 #[.bool neg,.slice a n c,.slice b m d] w (FNew w (mkRat (sgn neg t) k)):=Qcg neg a b n c m d t k w (h.get hx).1 (.inr ⟨hk,(h.get hy).1⟩) hc
theorem NBag.isZero{w0 w:World}{L:List Ent}{a b:Option Addr}{n c t k m d:Nat}{neg:Bool}(h:NBag w0 w L)(hx:⟨a,n,c,t,k⟩∈ L):
 Calls Tryz.prog 120 #[.agg #[.bool neg,.slice a n c,.slice b m d]] w (fun e w'=>e=.returned (.bool (decide (t=0)))∧NBag w0 w' L):=by
 refine(Qf7 neg a b n c m d t w (h.get hx).1).mono ?_;rintro e w' ⟨rfl,hb⟩;exact⟨rfl,h.below hb⟩
set_option maxRecDepth 100000 in
set_option maxHeartbeats 1000000 in
theorem Qkq(nx ny:Bool)(ax bx ay b2:Option Addr)(lx cx mx dx ly cy my dy i j:Nat)(p q:Rat)(w:World)(hx:FracAt w nx ax lx cx bx mx dx p)(hy:FracAt w ny ay ly cy b2 my dy q)(hp:Fits p i)(hq:Fits q j)(hij:i+j<68719476000):
 Calls Tryz.prog 64 #[.agg #[.bool nx,.slice ax lx cx,.slice bx mx dx],.agg #[.bool ny,.slice ay ly cy,.slice b2 my dy]] w (FNew w (p*q)):=by
 have HX:=Hi hx;have HY:=Hi hy;have HPF:=Hi hp;have HQF:=Hi hq;obtain⟨CX,hCX⟩:∃CX,#[Value.bool nx,.slice ax lx cx,.slice bx mx dx]=CX:=⟨_,rfl⟩;obtain⟨CY,hCY⟩:∃CY,#[Value.bool ny,.slice ay ly cy,.slice b2 my dy]=CY:=⟨_,rfl⟩;have HR:=Hi ((((((NBag.start hx.top hy.top hp.1 hq.1).alloc (.cells CX 62)).alloc (.cells CY 62)).alloc (.cells zeroFrac 62)).rebase));have HS:=Hi (SB.new3 w 62 62 62 CX CY zeroFrac);have HSY:=Hi ((SB.new2 w 62 62 CX CY).alloc (.cells zeroFrac 62));have HSX:=Hi (((SB.new w 62 CX).alloc (.cells CY 62)).alloc (.cells zeroFrac 62));have HBP:=Hi (Below.new3 w (.cells CX 62) (.cells CY 62) (.cells zeroFrac 62));obtain⟨wA,hwA⟩:∃wA,(((w.alloc (.cells CX 62)).alloc (.cells CY 62)).alloc (.cells zeroFrac 62))=wA:=⟨_,rfl⟩;rw[hwA] at HR HS HSY HSX HBP;subst hCX hCY;have HLX:=Hi (hx.low.below HBP.out);have HLY:=Hi (hy.low.below HBP.out);have ltx:=HSX.out.lt;have lty:=HSY.out.lt
 have KX0:=Hi (HSX.out.cell 0);have KX1:=Hi (HSX.out.cell 1);have KX2:=Hi (HSX.out.cell 2);have KY0:=Hi (HSY.out.cell 0);have KY1:=Hi (HSY.out.cell 1);have KY2:=Hi (HSY.out.cell 2);simp at KX0 KX1 KX2 KY0 KY1 KY2;have HWA:=Hi hwA;have nxr:w.heap.size+1+1≠w.heap.size:=by omega
 have nyr:w.heap.size+1+1≠w.heap.size+1:=by omega
 clear hx hy hp hq hwA;by_cases hp0:p.num.natAbs=0
 ·
  have hpz:p=0:=Rat.num_eq_zero.1 (by omega);rw[show p*q=0 by rw[hpz,Rat.zero_mul]];go_enter Tryz.func64,Tryz.ntmps64;have kx0:=(HR.out.base.cell (p:=⟨w.heap.size,0,none⟩) ltx).trans KX0.out;have kx1:=(HR.out.base.cell (p:=⟨w.heap.size,1,none⟩) ltx).trans KX1.out;have kx2:=(HR.out.base.cell (p:=⟨w.heap.size,2,none⟩) ltx).trans KX2.out;have ky0:=(HR.out.base.cell (p:=⟨w.heap.size+1,0,none⟩) lty).trans KY0.out;have ky1:=(HR.out.base.cell (p:=⟨w.heap.size+1,1,none⟩) lty).trans KY1.out;have ky2:=(HR.out.base.cell (p:=⟨w.heap.size+1,2,none⟩) lty).trans KY2.out;go_wp2_with fail;rw[show (((w.alloc (.cells #[.bool nx,.slice ax lx cx,.slice bx mx dx] 62)).alloc (.cells #[.bool ny,.slice ay ly cy,.slice b2 my dy] 62)).alloc (.cells #[.bool false,.slice none 0 0,.slice none 0 0] 62))=wA from HWA.out];apply Calls.mono;apply NBag.isZero (w0:=wA) HR.out
  (focus(repeat(first|exact List.Mem.head _|apply List.Mem.tail)));rw[(decide_eq_true hp0)];rintro e w1 ⟨rfl,hb⟩;have hs:=HS.out.below hb.base HS.out.lt;have k0:=hs.cell 0;have k1:=hs.cell 1;have k2:=hs.cell 2;have f0:=hs.free 0;have f1:=hs.free 1;have f2:=hs.free 2;simp[zeroFrac] at k0 k1 k2;have HS9:=Hi hs;have HB9:=Hi (HBP.out.trans (hb.base.mono HBP.out.size));clear hb hs HR;go_wp2;refine bodyPost_ret (v:=.agg #[.bool false,.slice none 0 0,.slice none 0 0]) (results_cell_row rfl _ _ (w.heap.size+1+1) 62 #[.bool false,.slice none 0 0,.slice none 0 0] (0,0) _ rfl (((HS9.out.set 0 _).set 1 _).set 2 _) Tryz.underlying62 rfl Tryz.fracInfo) rfl ?_;have ho:=(((Only.refl (w.heap.size+1+1) w1).setCell 0 (.bool false)).setCell 1 (.slice none 0 0)).setCell 2 (.slice none 0 0);exact⟨⟨_,rfl,FracV.zero _⟩,Only.fresh HB9.out ho (by omega)⟩
 ·
  by_cases hq0:q.num.natAbs=0
  ·
   have hqz:q=0:=Rat.num_eq_zero.1 (by omega);rw[show p*q=0 by rw[hqz,Rat.mul_zero]];go_enter Tryz.func64,Tryz.ntmps64;have kx0:=(HR.out.base.cell (p:=⟨w.heap.size,0,none⟩) ltx).trans KX0.out;have kx1:=(HR.out.base.cell (p:=⟨w.heap.size,1,none⟩) ltx).trans KX1.out;have kx2:=(HR.out.base.cell (p:=⟨w.heap.size,2,none⟩) ltx).trans KX2.out;have ky0:=(HR.out.base.cell (p:=⟨w.heap.size+1,0,none⟩) lty).trans KY0.out;have ky1:=(HR.out.base.cell (p:=⟨w.heap.size+1,1,none⟩) lty).trans KY1.out;have ky2:=(HR.out.base.cell (p:=⟨w.heap.size+1,2,none⟩) lty).trans KY2.out;go_wp2_with fail;rw[show (((w.alloc (.cells #[.bool nx,.slice ax lx cx,.slice bx mx dx] 62)).alloc (.cells #[.bool ny,.slice ay ly cy,.slice b2 my dy] 62)).alloc (.cells #[.bool false,.slice none 0 0,.slice none 0 0] 62))=wA from HWA.out];apply Calls.mono;apply NBag.isZero (w0:=wA) HR.out
   (focus(repeat(first|exact List.Mem.head _|apply List.Mem.tail)));rw[(decide_eq_false hp0)];rintro e w1 ⟨rfl,hb⟩;clear HR;have HR:=Hi hb;clear hb;have kx0:=(HR.out.base.cell (p:=⟨w.heap.size,0,none⟩) ltx).trans KX0.out;have kx1:=(HR.out.base.cell (p:=⟨w.heap.size,1,none⟩) ltx).trans KX1.out;have kx2:=(HR.out.base.cell (p:=⟨w.heap.size,2,none⟩) ltx).trans KX2.out;have ky0:=(HR.out.base.cell (p:=⟨w.heap.size+1,0,none⟩) lty).trans KY0.out;have ky1:=(HR.out.base.cell (p:=⟨w.heap.size+1,1,none⟩) lty).trans KY1.out;have ky2:=(HR.out.base.cell (p:=⟨w.heap.size+1,2,none⟩) lty).trans KY2.out;go_wp2_with fail;apply Calls.mono;apply NBag.isZero (w0:=wA) HR.out;(focus(repeat(first|exact List.Mem.head _|apply List.Mem.tail)));rw[(decide_eq_true hq0)];rintro e w2 ⟨rfl,hb⟩;have hs:=HS.out.below hb.base HS.out.lt;have k0:=hs.cell 0;have k1:=hs.cell 1;have k2:=hs.cell 2;have f0:=hs.free 0
   have f1:=hs.free 1;have f2:=hs.free 2;simp[zeroFrac] at k0 k1 k2;have HS9:=Hi hs;have HB9:=Hi (HBP.out.trans (hb.base.mono HBP.out.size));clear hb hs HR;go_wp2;refine bodyPost_ret (v:=.agg #[.bool false,.slice none 0 0,.slice none 0 0]) (results_cell_row rfl _ _ (w.heap.size+1+1) 62 #[.bool false,.slice none 0 0,.slice none 0 0] (0,0) _ rfl (((HS9.out.set 0 _).set 1 _).set 2 _) Tryz.underlying62 rfl Tryz.fracInfo) rfl ?_;have ho:=(((Only.refl (w.heap.size+1+1) w2).setCell 0 (.bool false)).setCell 1 (.slice none 0 0)).setCell 2 (.slice none 0 0);exact⟨⟨_,rfl,FracV.zero _⟩,Only.fresh HB9.out ho (by omega)⟩
  ·
   obtain⟨he,hcp⟩:=Qkt p q rfl rfl;rw[←HX.out.neg,←HY.out.neg] at he;have HE:Hid (mkRat (sgn (!nx == ny) (p.num.natAbs / Nat.gcd p.num.natAbs q.den*(q.num.natAbs / Nat.gcd q.num.natAbs p.den))) (p.den / Nat.gcd q.num.natAbs p.den*(q.den / Nat.gcd p.num.natAbs q.den))=p*q):=Hi he;have HCP:=Hi hcp;have HK0:=Hi (show 0<p.den / Nat.gcd q.num.natAbs p.den*(q.den / Nat.gcd p.num.natAbs q.den) from Nat.mul_pos (Nat.div_pos (Nat.gcd_le_right _ p.den_pos) (Nat.gcd_pos_of_pos_right _ p.den_pos)) (Nat.div_pos (Nat.gcd_le_right _ q.den_pos) (Nat.gcd_pos_of_pos_right _ q.den_pos)));clear he hcp;have HG0:=Hi (show 0<Nat.gcd p.num.natAbs q.den from Nat.gcd_pos_of_pos_right _ q.den_pos);have HH0:=Hi (show 0<Nat.gcd q.num.natAbs p.den from Nat.gcd_pos_of_pos_right _ p.den_pos);go_enter Tryz.func64,Tryz.ntmps64;have kx0:=(HR.out.base.cell (p:=⟨w.heap.size,0,none⟩) ltx).trans KX0.out
   have kx1:=(HR.out.base.cell (p:=⟨w.heap.size,1,none⟩) ltx).trans KX1.out;have kx2:=(HR.out.base.cell (p:=⟨w.heap.size,2,none⟩) ltx).trans KX2.out;have ky0:=(HR.out.base.cell (p:=⟨w.heap.size+1,0,none⟩) lty).trans KY0.out;have ky1:=(HR.out.base.cell (p:=⟨w.heap.size+1,1,none⟩) lty).trans KY1.out;have ky2:=(HR.out.base.cell (p:=⟨w.heap.size+1,2,none⟩) lty).trans KY2.out;go_wp2_with fail;rw[show (((w.alloc (.cells #[.bool nx,.slice ax lx cx,.slice bx mx dx] 62)).alloc (.cells #[.bool ny,.slice ay ly cy,.slice b2 my dy] 62)).alloc (.cells #[.bool false,.slice none 0 0,.slice none 0 0] 62))=wA from HWA.out];apply Calls.mono;apply NBag.isZero (w0:=wA) HR.out;(focus(repeat(first|exact List.Mem.head _|apply List.Mem.tail)));rw[(decide_eq_false hp0)];rintro e w1 ⟨rfl,hb⟩;clear HR;have HR:=Hi hb;clear hb;have kx0:=(HR.out.base.cell (p:=⟨w.heap.size,0,none⟩) ltx).trans KX0.out
   have kx1:=(HR.out.base.cell (p:=⟨w.heap.size,1,none⟩) ltx).trans KX1.out;have kx2:=(HR.out.base.cell (p:=⟨w.heap.size,2,none⟩) ltx).trans KX2.out;have ky0:=(HR.out.base.cell (p:=⟨w.heap.size+1,0,none⟩) lty).trans KY0.out;have ky1:=(HR.out.base.cell (p:=⟨w.heap.size+1,1,none⟩) lty).trans KY1.out;have ky2:=(HR.out.base.cell (p:=⟨w.heap.size+1,2,none⟩) lty).trans KY2.out;go_wp2_with fail;apply Calls.mono;apply NBag.isZero (w0:=wA) HR.out;(focus(repeat(first|exact List.Mem.head _|apply List.Mem.tail)));rw[(decide_eq_false hq0)];rintro e w2 ⟨rfl,hb⟩;clear HR;have HR:=Hi hb;clear hb;have kx0:=(HR.out.base.cell (p:=⟨w.heap.size,0,none⟩) ltx).trans KX0.out;have kx1:=(HR.out.base.cell (p:=⟨w.heap.size,1,none⟩) ltx).trans KX1.out;have kx2:=(HR.out.base.cell (p:=⟨w.heap.size,2,none⟩) ltx).trans KX2.out;have ky0:=(HR.out.base.cell (p:=⟨w.heap.size+1,0,none⟩) lty).trans KY0.out
   have ky1:=(HR.out.base.cell (p:=⟨w.heap.size+1,1,none⟩) lty).trans KY1.out;have ky2:=(HR.out.base.cell (p:=⟨w.heap.size+1,2,none⟩) lty).trans KY2.out;go_wp2_with fail;go_region_held3
    (fun w'=>w'.cell? ⟨w.heap.size,0,none⟩=some (.bool nx)∧w'.cell? ⟨w.heap.size,1,none⟩=some (.slice ax lx cx)∧w'.cell? ⟨w.heap.size,2,none⟩=some (.slice bx mx dx)∧w'.cell? ⟨w.heap.size+1,0,none⟩=some (.bool ny)∧w'.cell? ⟨w.heap.size+1,1,none⟩=some (.slice ay ly cy)∧w'.cell? ⟨w.heap.size+1,2,none⟩=some (.slice b2 my dy)) ((first|(simp [*];done)|go_keep))
    (first
    |
     (go_at_call_of 108 (Value.agg #[.bool nx,.slice ax lx cx,.slice bx mx dx])
      apply Calls.mono;apply NBag.under (w0:=wA) (hl:=HLX.out) (hk:=HPF.out.2);(focus(first|exact HR.out|exact HR.out.drew|exact HR.out.drew.drew));rintro e w3 ⟨aA,nA,cA,rfl,hb⟩;clear HR;have HR:=Hi hb;clear hb;have kx0:=(HR.out.base.cell (p:=⟨w.heap.size,0,none⟩) ltx).trans KX0.out;have kx1:=(HR.out.base.cell (p:=⟨w.heap.size,1,none⟩) ltx).trans KX1.out;have kx2:=(HR.out.base.cell (p:=⟨w.heap.size,2,none⟩) ltx).trans KX2.out;have ky0:=(HR.out.base.cell (p:=⟨w.heap.size+1,0,none⟩) lty).trans KY0.out;have ky1:=(HR.out.base.cell (p:=⟨w.heap.size+1,1,none⟩) lty).trans KY1.out;have ky2:=(HR.out.base.cell (p:=⟨w.heap.size+1,2,none⟩) lty).trans KY2.out
      skip)
    |
     (go_at_call_of 108 (Value.agg #[.bool ny,.slice ay ly cy,.slice b2 my dy])
      apply Calls.mono;apply NBag.under (w0:=wA) (hl:=HLY.out) (hk:=HQF.out.2);(focus(first|exact HR.out|exact HR.out.drew|exact HR.out.drew.drew));rintro e w4 ⟨aB,nB,cB,rfl,hb⟩;clear HR;have HR:=Hi hb;clear hb;have kx0:=(HR.out.base.cell (p:=⟨w.heap.size,0,none⟩) ltx).trans KX0.out;have kx1:=(HR.out.base.cell (p:=⟨w.heap.size,1,none⟩) ltx).trans KX1.out;have kx2:=(HR.out.base.cell (p:=⟨w.heap.size,2,none⟩) ltx).trans KX2.out;have ky0:=(HR.out.base.cell (p:=⟨w.heap.size+1,0,none⟩) lty).trans KY0.out;have ky1:=(HR.out.base.cell (p:=⟨w.heap.size+1,1,none⟩) lty).trans KY1.out;have ky2:=(HR.out.base.cell (p:=⟨w.heap.size+1,2,none⟩) lty).trans KY2.out
      skip)
    )
   go_wp2_with fail;go_region_held3
    (fun w'=>w'.cell? ⟨w.heap.size,0,none⟩=some (.bool nx)∧w'.cell? ⟨w.heap.size,1,none⟩=some (.slice ax lx cx)∧w'.cell? ⟨w.heap.size,2,none⟩=some (.slice bx mx dx)∧w'.cell? ⟨w.heap.size+1,0,none⟩=some (.bool ny)∧w'.cell? ⟨w.heap.size+1,1,none⟩=some (.slice ay ly cy)∧w'.cell? ⟨w.heap.size+1,2,none⟩=some (.slice b2 my dy)) ((first|(simp [*];done)|go_keep))
    ((skip
      first
       |(
        go_at_call 117;apply Calls.mono
        apply NBag.gcd (w0:=wA))
       |(
        go_at_call 118;apply Calls.mono
        apply NBag.quot (w0:=wA))
       |(
        go_at_call 116;apply Calls.mono
        apply NBag.mul (w0:=wA))
      (focus(first|exact HR.out|exact HR.out.drew|exact HR.out.drew.drew));(focus(repeat(first|exact List.Mem.head _|apply List.Mem.tail)));(focus(repeat(first|exact List.Mem.head _|apply List.Mem.tail)));omega
      try (focus(first|exact HG0.out|exact HH0.out))
      rintro e wn ⟨an,nn,cn,rfl,hb⟩;clear HR;have HR:=Hi hb;clear hb;have kx0:=(HR.out.base.cell (p:=⟨w.heap.size,0,none⟩) ltx).trans KX0.out;have kx1:=(HR.out.base.cell (p:=⟨w.heap.size,1,none⟩) ltx).trans KX1.out;have kx2:=(HR.out.base.cell (p:=⟨w.heap.size,2,none⟩) ltx).trans KX2.out;have ky0:=(HR.out.base.cell (p:=⟨w.heap.size+1,0,none⟩) lty).trans KY0.out;have ky1:=(HR.out.base.cell (p:=⟨w.heap.size+1,1,none⟩) lty).trans KY1.out;have ky2:=(HR.out.base.cell (p:=⟨w.heap.size+1,2,none⟩) lty).trans KY2.out
      skip))
   go_wp2_with fail;go_region_held3
    (fun w'=>w'.cell? ⟨w.heap.size,0,none⟩=some (.bool nx)∧w'.cell? ⟨w.heap.size,1,none⟩=some (.slice ax lx cx)∧w'.cell? ⟨w.heap.size,2,none⟩=some (.slice bx mx dx)∧w'.cell? ⟨w.heap.size+1,0,none⟩=some (.bool ny)∧w'.cell? ⟨w.heap.size+1,1,none⟩=some (.slice ay ly cy)∧w'.cell? ⟨w.heap.size+1,2,none⟩=some (.slice b2 my dy)) ((first|(simp [*];done)|go_keep))
    ((skip
      first
       |(
        go_at_call 117;apply Calls.mono
        apply NBag.gcd (w0:=wA))
       |(
        go_at_call 118;apply Calls.mono
        apply NBag.quot (w0:=wA))
       |(
        go_at_call 116;apply Calls.mono
        apply NBag.mul (w0:=wA))
      (focus(first|exact HR.out|exact HR.out.drew|exact HR.out.drew.drew));(focus(repeat(first|exact List.Mem.head _|apply List.Mem.tail)));(focus(repeat(first|exact List.Mem.head _|apply List.Mem.tail)));omega
      try (focus(first|exact HG0.out|exact HH0.out))
      rintro e wn ⟨an,nn,cn,rfl,hb⟩;clear HR;have HR:=Hi hb;clear hb;have kx0:=(HR.out.base.cell (p:=⟨w.heap.size,0,none⟩) ltx).trans KX0.out;have kx1:=(HR.out.base.cell (p:=⟨w.heap.size,1,none⟩) ltx).trans KX1.out;have kx2:=(HR.out.base.cell (p:=⟨w.heap.size,2,none⟩) ltx).trans KX2.out;have ky0:=(HR.out.base.cell (p:=⟨w.heap.size+1,0,none⟩) lty).trans KY0.out;have ky1:=(HR.out.base.cell (p:=⟨w.heap.size+1,1,none⟩) lty).trans KY1.out;have ky2:=(HR.out.base.cell (p:=⟨w.heap.size+1,2,none⟩) lty).trans KY2.out
      skip))
   go_wp2_with
    ((skip
      first
       |(
        go_at_call 117;apply Calls.mono
        apply NBag.gcd (w0:=wA))
       |(
        go_at_call 118;apply Calls.mono
        apply NBag.quot (w0:=wA))
       |(
        go_at_call 116;apply Calls.mono
        apply NBag.mul (w0:=wA))
      (focus(first|exact HR.out|exact HR.out.drew|exact HR.out.drew.drew));(focus(repeat(first|exact List.Mem.head _|apply List.Mem.tail)));(focus(repeat(first|exact List.Mem.head _|apply List.Mem.tail)));omega
      try (focus(first|exact HG0.out|exact HH0.out))
      rintro e wn ⟨an,nn,cn,rfl,hb⟩;clear HR;have HR:=Hi hb;clear hb;have kx0:=(HR.out.base.cell (p:=⟨w.heap.size,0,none⟩) ltx).trans KX0.out;have kx1:=(HR.out.base.cell (p:=⟨w.heap.size,1,none⟩) ltx).trans KX1.out;have kx2:=(HR.out.base.cell (p:=⟨w.heap.size,2,none⟩) ltx).trans KX2.out;have ky0:=(HR.out.base.cell (p:=⟨w.heap.size+1,0,none⟩) lty).trans KY0.out;have ky1:=(HR.out.base.cell (p:=⟨w.heap.size+1,1,none⟩) lty).trans KY1.out;have ky2:=(HR.out.base.cell (p:=⟨w.heap.size+1,2,none⟩) lty).trans KY2.out
      skip))
   have HS':=Hi (HS.out.below HR.out.base HS.out.lt);have HBP':=Hi (HBP.out.trans (HR.out.base.mono HBP.out.size));clear HS HBP;have HS:=HS';have HBP:=HBP';clear HS' HBP';apply Calls.mono;apply NBag.built (w0:=wA) HR.out;(focus(repeat(first|exact List.Mem.head _|apply List.Mem.tail)));(focus(repeat(first|exact List.Mem.head _|apply List.Mem.tail)));(focus(exact HK0.out));(focus(exact HCP.out));rw[HE.out];rintro e w9 ⟨⟨v9,rfl,hv⟩,hb⟩;obtain⟨neg9,a9,n9,c9,b9,m9,d9,rfl,hv⟩:=hv;have hs:=HS.out.below hb HS.out.lt;have k0:=hs.cell 0;have k1:=hs.cell 1;have k2:=hs.cell 2;have f0:=hs.free 0;have f1:=hs.free 1;have f2:=hs.free 2;simp[zeroFrac] at k0 k1 k2;have HV:=Hi hv;have HS9:=Hi hs;have HB9:=Hi (HBP.out.trans (hb.mono HBP.out.size));clear hv hs hb;go_wp2
   refine bodyPost_ret (v:=.agg #[.bool neg9,.slice a9 n9 c9,.slice b9 m9 d9]) (results_cell_row rfl _ _ (w.heap.size+1+1) 62 #[.bool neg9,.slice a9 n9 c9,.slice b9 m9 d9] (0,0) _ rfl (((HS9.out.set 0 _).set 1 _).set 2 _) Tryz.underlying62 rfl Tryz.fracInfo) rfl ?_;have ho:=(((Only.refl (w.heap.size+1+1) w9).setCell 0 (.bool neg9)).setCell 1 (.slice a9 n9 c9)).setCell 2 (.slice b9 m9 d9);exact⟨⟨_,rfl,neg9,a9,n9,c9,b9,m9,d9,rfl,HV.out.only ho HS9.out Qa6⟩,Only.fresh HB9.out ho (by omega)⟩
end Go.Proofs.YtodfmpjhcmapmaaGreatDoor
