/- num's addSigned, reduced, Plus, Times, Over, Minus. -/
import Derived.Test.YtldjeecnapgakaaGreatDoorV19Ret2
namespace Go.Proofs.YtldjeecnapgakaaGreatDoor
open Go.RowKit
open Go.Proofs.Tryz
set_option linter.unusedSimpArgs false
set_option linter.unusedVariables false
set_option maxHeartbeats 8000000
set_option maxRecDepth 1000000
theorem Qnq{p q:Bool}{x y:Nat}(h:p≠q)(hxy:x<=y):sgn q (y - x)=sgn p x+sgn q y:=by
 cases p<;>cases q<;>simp[sgn] at h ⊢ <;>omega
theorem Qnr{p q:Bool}{x y:Nat}(h:p≠q)(hxy:y<=x):sgn p (x - y)=sgn p x+sgn q y:=by
 cases p<;>cases q<;>simp[sgn] at h ⊢ <;>omega
theorem Qns(p:Bool)(x y:Nat):sgn p (x+y)=sgn p x+sgn p y:=by
 cases p<;>simp[sgn]<;>omega
theorem Qnt{x j k:Nat}(h:x<2 ^ j)(hk:j<=k):x<2 ^ k:=Nat.lt_of_lt_of_le h (Nat.pow_le_pow_right (by decide) hk)
theorem NBag.grow{w0 w:World}{L:List Ent}{a:Option Addr}{n c x j k:Nat}(h:NBag w0 w (⟨a,n,c,x,j⟩ :: L))(hk:j<=k):NBag w0 w (⟨a,n,c,x,k⟩ :: L):=
 ⟨h.base,fun t ht=>by
   rcases List.mem_cons.1 ht with rfl|ht
   . exact⟨(h.ts _ (List.Mem.head _)).1,Qnt (h.ts _ (List.Mem.head _)).2 hk⟩
   . exact h.ts t (List.mem_cons_of_mem _ ht)⟩
theorem NBag.rebase{w0 w:World}{L:List Ent}(h:NBag w0 w L):NBag w w L:=⟨Below.refl _ _,h.ts⟩
def Signed(w0:World)(L:List Ent)(k:Nat)(z:Int)(e:Ending)(w':World):Prop:=∃r a n c t,e=.returned (.tuple #[.bool r,.slice a n c])/\NBag w0 w' (⟨a,n,c,t,k⟩ :: L)/\sgn r t=z
theorem NBag.addSigned{w0 w:World}{L:List Ent}{a1 a2:Option Addr}{n1 n2 c1 c2 x y j k:Nat}{p q:Bool}(h:NBag w0 w L)(hx:⟨a1,n1,c1,x,j⟩∈ L)(hy:⟨a2,n2,c2,y,k⟩∈ L)(hj:j+k<274877906000):
 Calls prog 118 #[.bool p,.slice a1 n1 c1,.bool q,.slice a2 n2 c2] w (Signed w0 L (j+k+1) (sgn p x+sgn q y)):=by
 by_cases hpq:p=q
 .
  subst hpq;have HA:=Hi (h.add hx hy hj);clear h hx hy hj;go_enter func118,ntmps118;go_wp2_with fail;go_fit HA.o;rintro e w1 ⟨a,n,c,rfl,hb⟩;have HB:=Hi hb;clear hb HA;go_wp2;go_ret2;exact⟨p,a,n,c,x+y,rfl,HB.o,Qns p x y⟩
 .
  have hpq':(p == q)=false:=by simpa using hpq
  obtain⟨HC,HX,HY,HP⟩:=Ic (h.compare hx hy) hx hy hpq;clear h hx hy hj hpq;by_cases hlt:x<y
  .
   have hcmp:cmp3 x y<0:=(Qav x y).2 hlt;go_enter func118,ntmps118;go_wp2_with fail;go_fit HC.o;rintro e w1 ⟨rfl,hb⟩;have HA:=Hi (hb.sub HY.o HX.o (by omega));clear hb HC;go_wp2_with fail;go_fit HA.o;rintro e w1 ⟨a,n,c,rfl,hb⟩;have HB:=Hi hb;clear hb HA;go_wp2;go_ret2;exact⟨q,a,n,c,y - x,rfl,HB.o.grow (by omega),Qnq HP.o (by omega)⟩
  .
   have hcmp:¬(cmp3 x y<0):=fun h=>by have:=(Qav x y).1 h;omega
   go_enter func118,ntmps118;go_wp2_with fail;go_fit HC.o;rintro e w1 ⟨rfl,hb⟩;have HA:=Hi (hb.sub HX.o HY.o (by omega));clear hb HC;go_wp2_with fail;go_fit HA.o;rintro e w1 ⟨a,n,c,rfl,hb⟩;have HB:=Hi hb;clear hb HA;go_wp2;go_ret2;exact⟨p,a,n,c,x - y,rfl,HB.o.grow (by omega),Qnr HP.o (by omega)⟩
theorem Qnu{neg:Bool}{t k g:Nat}(hk:0<k)(hg:Nat.gcd t k=g):mkRat (sgn neg (t / g)) (k / g)=mkRat (sgn neg t) k/\Nat.Coprime (t / g) (k / g)/\0<k / g/\0<g:=by
 have gp:0<g:=by rw[<-hg];exact Nat.gcd_pos_of_pos_right _ hk
 have d1:g ∣ t:=hg ▸ Nat.gcd_dvd_left _ _;have d2:g ∣ k:=hg ▸ Nat.gcd_dvd_right _ _;have e1:=Nat.div_mul_cancel d1;have e2:=Nat.div_mul_cancel d2;refine⟨?_,by have:=Nat.coprime_div_gcd_div_gcd (m:=t) (n:=k) (by omega);rw[hg] at this;exact this,?_,gp⟩
 .
  rw[<-Rat.mkRat_mul_right (a:=g) (by omega),e2]
  congr 1
  have:=Qb5 neg false (t / g) g;rw[show sgn false g=(g:Int) from rfl,e1,Bool.bne_false] at this;exact this.symm
 .
  rcases Nat.eq_zero_or_pos (k / g) with h|h
  . rw[h] at e2;omega
  . exact h
theorem NBag.start{w:World}{a b:Option Addr}{n c m d t k i j:Nat}(ht:NumV w a n c t)(hk:NumV w b m d k)(hi:t<2 ^ i)(hj:k<2 ^ j):NBag w w [⟨a,n,c,t,i⟩,⟨b,m,d,k,j⟩]:=by
 refine⟨Below.refl _ _,fun s hs=>?_⟩;simp only[List.mem_cons,List.not_mem_nil,or_false] at hs;rcases hs with rfl|rfl
 . exact⟨ht,hi⟩
 . exact⟨hk,hj⟩
theorem Qnv(neg:Bool)(a b:Option Addr)(n c m d t k i j:Nat)(w:World)(ht:NumV w a n c t)(hk:NumV w b m d k)(hi:t<2 ^ i)(hj:k<2 ^ j)(hij:i+j<137438953000):
 Calls prog 80 #[.bool neg,.slice a n c,.slice b m d] w (FNew w (mkRat (sgn neg t) k)):=by
 have hz:=hk.zero_iff;by_cases h0:k=0
 .
  have hm:m=0:=hz.1 h0;subst h0 hm;rw[Rat.mkRat_zero];have HB:=Hi ((Below.refl w.heap.size w).alloc lZ (.cells #[.bool false,.slice none 0 0,.slice none 0 0] 63));clear ht hk hi hj hij hz;go_enter func80,ntmps80;go_wp2;refine bodyPost_ret (v:=.agg #[.bool false,.slice none 0 0,.slice none 0 0]) (results_cell_row rfl _ _ w.heap.size 63 #[.bool false,.slice none 0 0,.slice none 0 0] (0,0) _ rfl (SB.new w _ _) underlying63 rfl Tryz.fracInfo) rfl ?_;exact⟨⟨_,rfl,FracV.zero _⟩,HB.o⟩
 .
  have hm:((m:Int) == 0)=false:=by rw[beq_eq_false_iff_ne];omega
  obtain⟨G,hG⟩:=nm (Nat.gcd t k);obtain⟨e1,hc,hk0,hg0⟩:=Qnu (neg:=neg) (by omega) hG;rw[<-e1];have HR:=Hi (((NBag.start ht hk hi hj).alloc (.cells zeroFrac 63)).rebase);obtain⟨wA,hwA⟩:=nm (w.alloc (.cells zeroFrac 63));obtain⟨HS,HBP⟩:=Ia (SB.new w 63 zeroFrac) ((Below.refl w.heap.size w).alloc lZ (.cells zeroFrac 63));rw[hwA] at HR HS HBP;obtain⟨HC,HG,HWA⟩:=Ib hc hG hwA;clear ht hk hi hj hz h0 hc hG e1 hwA;go_enter func80,ntmps80;go_wp2_with fail;rw[show w.alloc (.cells #[.bool false,.slice none 0 0,.slice none 0 0] 63)=wA from HWA.o];apply cM;apply NBag.gcd (w0:=wA) HR.o;(focus(repeat(first|exact mH|apply mT)));(focus(repeat(first|exact mH|apply mT)));omega;rw[HG.o];rintro e w1 ⟨aG,nG,cG,rfl,hb⟩;clear HR;have HR:=Hi hb;clear hb;go_wp2_with fail;apply cM
  apply NBag.quot (w0:=wA) HR.o;(focus(repeat(first|exact mH|apply mT)));(focus(repeat(first|exact mH|apply mT)));omega;(first|assumption|omega);rintro e w2 ⟨aT,nT,cT,rfl,hb⟩;clear HR;have HR:=Hi hb;clear hb;go_wp2_with fail;apply cM;apply NBag.quot (w0:=wA) HR.o;(focus(repeat(first|exact mH|apply mT)));(focus(repeat(first|exact mH|apply mT)));omega;(first|assumption|omega);rintro e w3 ⟨aL,nL,cL,rfl,hb⟩;clear HR;have HR:=Hi hb;clear hb;go_wp2_with fail;have HS':=Hi (HS.o.below HR.o.base HS.o.lt);have HBP':=Hi (HBP.o.trans (HR.o.base.mono HBP.o.size));clear HS HBP;have HS:=HS';have HBP:=HBP';clear HS' HBP';go_fit (Qck neg aT aL nT cT nL cL (t / G) (k / G) _ (HR.o.get (List.Mem.tail _ (List.Mem.head _))).1 (.inr ⟨hk0,(HR.o.get (List.Mem.head _)).1⟩) HC.o)
  rintro e w9 ⟨⟨v9,rfl,hv⟩,hb⟩;obtain⟨neg9,a9,n9,c9,b9,m9,d9,rfl,hv⟩:=hv;have hs:=HS.o.below hb HS.o.lt;have k0:=hs.cell 0;have k1:=hs.cell 1;have k2:=hs.cell 2;have f0:=hs.free 0;have f1:=hs.free 1;have f2:=hs.free 2;simp[zeroFrac] at k0 k1 k2;obtain⟨HV,HS9,HB9⟩:=Ib hv hs (HBP.o.trans (hb.mono HBP.o.size));clear hv hs hb;go_wp2;refine bodyPost_ret (v:=.agg #[.bool neg9,.slice a9 n9 c9,.slice b9 m9 d9]) (results_cell_row rfl _ _ (w.heap.size) 63 #[.bool neg9,.slice a9 n9 c9,.slice b9 m9 d9] (0,0) _ rfl (((HS9.o.set 0 _).set 1 _).set 2 _) underlying63 rfl Tryz.fracInfo) rfl ?_;have ho:=(((Only.refl (w.heap.size) w9).setCell 0 (.bool neg9)).setCell 1 (.slice a9 n9 c9)).setCell 2 (.slice b9 m9 d9);exact⟨⟨_,rfl,neg9,a9,n9,c9,b9,m9,d9,rfl,HV.o.only ho HS9.o Qbf⟩,Only.fresh HB9.o ho (by omega)⟩
theorem NBag.under{w0 w:World}{L:List Ent}{neg:Bool}{a b:Option Addr}{n c m d k kb:Nat}(h:NBag w0 w L)(hl:Low w0 b m d k)(hk:k<2 ^ kb):
 Calls prog 89 #[.agg #[.bool neg,.slice a n c,.slice b m d]] w (NNew w0 L k kb):=Qno neg a b n c m d k kb w0 w L h (hl.below h.base) hk
theorem NBag.built{w0 w:World}{L:List Ent}{neg:Bool}{a b:Option Addr}{n c m d t k i j:Nat}(h:NBag w0 w L)(hx:⟨a,n,c,t,i⟩∈ L)(hy:⟨b,m,d,k,j⟩∈ L)(hk:0<k)(hc:Nat.Coprime t k):
 Calls prog 73 #[.bool neg,.slice a n c,.slice b m d] w (FNew w (mkRat (sgn neg t) k)):=Qck neg a b n c m d t k w (h.get hx).1 (.inr ⟨hk,(h.get hy).1⟩) hc
theorem NBag.isZero{w0 w:World}{L:List Ent}{a b:Option Addr}{n c t k m d:Nat}{neg:Bool}(h:NBag w0 w L)(hx:⟨a,n,c,t,k⟩∈ L):
 Calls prog 81 #[.agg #[.bool neg,.slice a n c,.slice b m d]] w (fun e w'=>e=.returned (.bool (decide (t=0)))/\NBag w0 w' L):=by
 refine(Qhf neg a b n c m d t w (h.get hx).1).mono ?_;rintro e w' ⟨rfl,hb⟩;exact⟨rfl,h.below hb⟩
theorem Qhg(nx ny:Bool)(ax bx ay b2:Option Addr)(lx cx mx dx ly cy my dy i j:Nat)(p q:Rat)(w:World)(hx:FracAt w nx ax lx cx bx mx dx p)(hy:FracAt w ny ay ly cy b2 my dy q)(hp:Fits p i)(hq:Fits q j)(hij:i+j<68719476000):
 Calls prog 71 #[.agg #[.bool nx,.slice ax lx cx,.slice bx mx dx],.agg #[.bool ny,.slice ay ly cy,.slice b2 my dy]] w (FNew w (p*q)):=by
 obtain⟨HX,HY,HPF,HQF⟩:=Ic hx hy hp hq;obtain⟨CX,hCX⟩:=nm (#[Value.bool nx,.slice ax lx cx,.slice bx mx dx]);obtain⟨CY,hCY⟩:=nm (#[Value.bool ny,.slice ay ly cy,.slice b2 my dy]);obtain⟨HR,HS,HSY,HSX,HBP⟩:=Id ((((((NBag.start hx.top hy.top hp.1 hq.1).alloc (.cells CX 63)).alloc (.cells CY 63)).alloc (.cells zeroFrac 63)).rebase)) (SB.new3 w 63 63 63 CX CY zeroFrac) ((SB.new2 w 63 63 CX CY).alloc (.cells zeroFrac 63)) (((SB.new w 63 CX).alloc (.cells CY 63)).alloc (.cells zeroFrac 63)) (Below.new3 w (.cells CX 63) (.cells CY 63) (.cells zeroFrac 63));obtain⟨wA,hwA⟩:=nm ((((w.alloc (.cells CX 63)).alloc (.cells CY 63)).alloc (.cells zeroFrac 63)));rw[hwA] at HR HS HSY HSX HBP;subst hCX hCY;obtain⟨HLX,HLY⟩:=Ia (hx.low.below HBP.o) (hy.low.below HBP.o);have ltx:=HSX.o.lt;have lty:=HSY.o.lt
 obtain⟨KX0,KX1,KX2,KY0,KY1,KY2⟩:=Ie (HSX.o.cell 0) (HSX.o.cell 1) (HSX.o.cell 2) (HSY.o.cell 0) (HSY.o.cell 1) (HSY.o.cell 2);simp at KX0 KX1 KX2 KY0 KY1 KY2;have HWA:=Hi hwA;have nxr:w.heap.size+1+1≠w.heap.size:=by omega
 have nyr:w.heap.size+1+1≠w.heap.size+1:=by omega
 clear hx hy hp hq hwA;by_cases hp0:p.num.natAbs=0
 .
  have hpz:p=0:=Rat.num_eq_zero.1 (by omega);rw[show p*q=0 by rw[hpz,Rat.zero_mul]];go_enter func71,ntmps71;obtain⟨kx0,kx1,kx2⟩:=Jb HR.o.base ltx KX0.o KX1.o KX2.o;obtain⟨ky0,ky1,ky2⟩:=Jb HR.o.base lty KY0.o KY1.o KY2.o;go_wp2_with fail;rw[show (((w.alloc (.cells #[.bool nx,.slice ax lx cx,.slice bx mx dx] 63)).alloc (.cells #[.bool ny,.slice ay ly cy,.slice b2 my dy] 63)).alloc (.cells #[.bool false,.slice none 0 0,.slice none 0 0] 63))=wA from HWA.o];apply cM;apply NBag.isZero (w0:=wA) HR.o
  (focus(repeat(first|exact mH|apply mT)));rw[(decide_eq_true hp0)];rintro e w1 ⟨rfl,hb⟩;have hs:=HS.o.below hb.base HS.o.lt;have k0:=hs.cell 0;have k1:=hs.cell 1;have k2:=hs.cell 2;have f0:=hs.free 0;have f1:=hs.free 1;have f2:=hs.free 2;simp[zeroFrac] at k0 k1 k2;obtain⟨HS9,HB9⟩:=Ia hs (HBP.o.trans (hb.base.mono HBP.o.size));clear hb hs HR;go_wp2;refine bodyPost_ret (v:=.agg #[.bool false,.slice none 0 0,.slice none 0 0]) (results_cell_row rfl _ _ (w.heap.size+1+1) 63 #[.bool false,.slice none 0 0,.slice none 0 0] (0,0) _ rfl (((HS9.o.set 0 _).set 1 _).set 2 _) underlying63 rfl Tryz.fracInfo) rfl ?_;have ho:=(((Only.refl (w.heap.size+1+1) w1).setCell 0 (.bool false)).setCell 1 (.slice none 0 0)).setCell 2 (.slice none 0 0);exact⟨⟨_,rfl,FracV.zero _⟩,Only.fresh HB9.o ho (by omega)⟩
 .
  by_cases hq0:q.num.natAbs=0
  .
   have hqz:q=0:=Rat.num_eq_zero.1 (by omega);rw[show p*q=0 by rw[hqz,Rat.mul_zero]];go_enter func71,ntmps71;obtain⟨kx0,kx1,kx2⟩:=Jb HR.o.base ltx KX0.o KX1.o KX2.o;obtain⟨ky0,ky1,ky2⟩:=Jb HR.o.base lty KY0.o KY1.o KY2.o;go_wp2_with fail;rw[show (((w.alloc (.cells #[.bool nx,.slice ax lx cx,.slice bx mx dx] 63)).alloc (.cells #[.bool ny,.slice ay ly cy,.slice b2 my dy] 63)).alloc (.cells #[.bool false,.slice none 0 0,.slice none 0 0] 63))=wA from HWA.o];apply cM;apply NBag.isZero (w0:=wA) HR.o
   (focus(repeat(first|exact mH|apply mT)));rw[(decide_eq_false hp0)];rintro e w1 ⟨rfl,hb⟩;clear HR;have HR:=Hi hb;clear hb;obtain⟨kx0,kx1,kx2⟩:=Jb HR.o.base ltx KX0.o KX1.o KX2.o;obtain⟨ky0,ky1,ky2⟩:=Jb HR.o.base lty KY0.o KY1.o KY2.o;go_wp2_with fail;apply cM;apply NBag.isZero (w0:=wA) HR.o;(focus(repeat(first|exact mH|apply mT)));rw[(decide_eq_true hq0)];rintro e w2 ⟨rfl,hb⟩;have hs:=HS.o.below hb.base HS.o.lt;have k0:=hs.cell 0;have k1:=hs.cell 1;have k2:=hs.cell 2;have f0:=hs.free 0
   have f1:=hs.free 1;have f2:=hs.free 2;simp[zeroFrac] at k0 k1 k2;obtain⟨HS9,HB9⟩:=Ia hs (HBP.o.trans (hb.base.mono HBP.o.size));clear hb hs HR;go_wp2;refine bodyPost_ret (v:=.agg #[.bool false,.slice none 0 0,.slice none 0 0]) (results_cell_row rfl _ _ (w.heap.size+1+1) 63 #[.bool false,.slice none 0 0,.slice none 0 0] (0,0) _ rfl (((HS9.o.set 0 _).set 1 _).set 2 _) underlying63 rfl Tryz.fracInfo) rfl ?_;have ho:=(((Only.refl (w.heap.size+1+1) w2).setCell 0 (.bool false)).setCell 1 (.slice none 0 0)).setCell 2 (.slice none 0 0);exact⟨⟨_,rfl,FracV.zero _⟩,Only.fresh HB9.o ho (by omega)⟩
  .
   obtain⟨he,hcp⟩:=Qny p q rfl rfl;rw[<-HX.o.neg,<-HY.o.neg] at he;have HE:O (mkRat (sgn (!nx == ny) (p.num.natAbs / Nat.gcd p.num.natAbs q.den*(q.num.natAbs / Nat.gcd q.num.natAbs p.den))) (p.den / Nat.gcd q.num.natAbs p.den*(q.den / Nat.gcd p.num.natAbs q.den))=p*q):=Hi he;obtain⟨HCP,HK0⟩:=Ia hcp (show 0<p.den / Nat.gcd q.num.natAbs p.den*(q.den / Nat.gcd p.num.natAbs q.den) from Nat.mul_pos (Nat.div_pos (Nat.gcd_le_right _ p.den_pos) (Nat.gcd_pos_of_pos_right _ p.den_pos)) (Nat.div_pos (Nat.gcd_le_right _ q.den_pos) (Nat.gcd_pos_of_pos_right _ q.den_pos)));clear he hcp;obtain⟨HG0,HH0⟩:=Ia (show 0<Nat.gcd p.num.natAbs q.den from Nat.gcd_pos_of_pos_right _ q.den_pos) (show 0<Nat.gcd q.num.natAbs p.den from Nat.gcd_pos_of_pos_right _ p.den_pos);go_enter func71,ntmps71;have kx0:=ce HR.o.base ltx KX0.o
   obtain⟨kx1,kx2⟩:=Ja HR.o.base ltx KX1.o KX2.o;obtain⟨ky0,ky1,ky2⟩:=Jb HR.o.base lty KY0.o KY1.o KY2.o;go_wp2_with fail;rw[show (((w.alloc (.cells #[.bool nx,.slice ax lx cx,.slice bx mx dx] 63)).alloc (.cells #[.bool ny,.slice ay ly cy,.slice b2 my dy] 63)).alloc (.cells #[.bool false,.slice none 0 0,.slice none 0 0] 63))=wA from HWA.o];apply cM;apply NBag.isZero (w0:=wA) HR.o;(focus(repeat(first|exact mH|apply mT)));rw[(decide_eq_false hp0)];rintro e w1 ⟨rfl,hb⟩;clear HR;have HR:=Hi hb;clear hb;have kx0:=ce HR.o.base ltx KX0.o
   obtain⟨kx1,kx2⟩:=Ja HR.o.base ltx KX1.o KX2.o;obtain⟨ky0,ky1,ky2⟩:=Jb HR.o.base lty KY0.o KY1.o KY2.o;go_wp2_with fail;apply cM;apply NBag.isZero (w0:=wA) HR.o;(focus(repeat(first|exact mH|apply mT)));rw[(decide_eq_false hq0)];rintro e w2 ⟨rfl,hb⟩;clear HR;have HR:=Hi hb;clear hb;obtain⟨kx0,kx1,kx2⟩:=Jb HR.o.base ltx KX0.o KX1.o KX2.o;have ky0:=ce HR.o.base lty KY0.o
   obtain⟨ky1,ky2⟩:=Ja HR.o.base lty KY1.o KY2.o;go_wp2_with fail;go_region_held3
    (fun w'=>w'.cell? ⟨w.heap.size,0,none⟩=some (.bool nx)/\w'.cell? ⟨w.heap.size,1,none⟩=some (.slice ax lx cx)/\w'.cell? ⟨w.heap.size,2,none⟩=some (.slice bx mx dx)/\w'.cell? ⟨w.heap.size+1,0,none⟩=some (.bool ny)/\w'.cell? ⟨w.heap.size+1,1,none⟩=some (.slice ay ly cy)/\w'.cell? ⟨w.heap.size+1,2,none⟩=some (.slice b2 my dy)) ((first|(simp [*];done)|go_keep))
    (first
    |
     (go_at_call_of 89 (Value.agg #[.bool nx,.slice ax lx cx,.slice bx mx dx])
      apply cM;apply NBag.under (w0:=wA) (hl:=HLX.o) (hk:=HPF.o.2);(focus(first|exact HR.o|exact HR.o.drew|exact HR.o.drew.drew));rintro e w3 ⟨aA,nA,cA,rfl,hb⟩;clear HR;have HR:=Hi hb;clear hb;obtain⟨kx0,kx1,kx2⟩:=Jb HR.o.base ltx KX0.o KX1.o KX2.o;obtain⟨ky0,ky1,ky2⟩:=Jb HR.o.base lty KY0.o KY1.o KY2.o
      skip)
    |
     (go_at_call_of 89 (Value.agg #[.bool ny,.slice ay ly cy,.slice b2 my dy])
      apply cM;apply NBag.under (w0:=wA) (hl:=HLY.o) (hk:=HQF.o.2);(focus(first|exact HR.o|exact HR.o.drew|exact HR.o.drew.drew));rintro e w4 ⟨aB,nB,cB,rfl,hb⟩;clear HR;have HR:=Hi hb;clear hb;obtain⟨kx0,kx1,kx2⟩:=Jb HR.o.base ltx KX0.o KX1.o KX2.o;obtain⟨ky0,ky1,ky2⟩:=Jb HR.o.base lty KY0.o KY1.o KY2.o
      skip)
    )
   go_wp2_with fail;go_region_held3
    (fun w'=>w'.cell? ⟨w.heap.size,0,none⟩=some (.bool nx)/\w'.cell? ⟨w.heap.size,1,none⟩=some (.slice ax lx cx)/\w'.cell? ⟨w.heap.size,2,none⟩=some (.slice bx mx dx)/\w'.cell? ⟨w.heap.size+1,0,none⟩=some (.bool ny)/\w'.cell? ⟨w.heap.size+1,1,none⟩=some (.slice ay ly cy)/\w'.cell? ⟨w.heap.size+1,2,none⟩=some (.slice b2 my dy)) ((first|(simp [*];done)|go_keep))
    ((skip
      first
       |(
        go_at_call 116;apply cM
        apply NBag.gcd (w0:=wA))
       |(
        go_at_call 117;apply cM
        apply NBag.quot (w0:=wA))
       |(
        go_at_call 88;apply cM
        apply NBag.mul (w0:=wA))
      (focus(first|exact HR.o|exact HR.o.drew|exact HR.o.drew.drew));(focus(repeat(first|exact mH|apply mT)));(focus(repeat(first|exact mH|apply mT)));omega
      try (focus(first|exact HG0.o|exact HH0.o))
      rintro e wn ⟨an,nn,cn,rfl,hb⟩;clear HR;have HR:=Hi hb;clear hb;obtain⟨kx0,kx1,kx2⟩:=Jb HR.o.base ltx KX0.o KX1.o KX2.o;obtain⟨ky0,ky1,ky2⟩:=Jb HR.o.base lty KY0.o KY1.o KY2.o
      skip))
   go_wp2_with fail;go_region_held3
    (fun w'=>w'.cell? ⟨w.heap.size,0,none⟩=some (.bool nx)/\w'.cell? ⟨w.heap.size,1,none⟩=some (.slice ax lx cx)/\w'.cell? ⟨w.heap.size,2,none⟩=some (.slice bx mx dx)/\w'.cell? ⟨w.heap.size+1,0,none⟩=some (.bool ny)/\w'.cell? ⟨w.heap.size+1,1,none⟩=some (.slice ay ly cy)/\w'.cell? ⟨w.heap.size+1,2,none⟩=some (.slice b2 my dy)) ((first|(simp [*];done)|go_keep))
    ((skip
      first
       |(
        go_at_call 116;apply cM
        apply NBag.gcd (w0:=wA))
       |(
        go_at_call 117;apply cM
        apply NBag.quot (w0:=wA))
       |(
        go_at_call 88;apply cM
        apply NBag.mul (w0:=wA))
      (focus(first|exact HR.o|exact HR.o.drew|exact HR.o.drew.drew));(focus(repeat(first|exact mH|apply mT)));(focus(repeat(first|exact mH|apply mT)));omega
      try (focus(first|exact HG0.o|exact HH0.o))
      rintro e wn ⟨an,nn,cn,rfl,hb⟩;clear HR;have HR:=Hi hb;clear hb;obtain⟨kx0,kx1,kx2⟩:=Jb HR.o.base ltx KX0.o KX1.o KX2.o;obtain⟨ky0,ky1,ky2⟩:=Jb HR.o.base lty KY0.o KY1.o KY2.o
      skip))
   go_wp2_with
    ((skip
      first
       |(
        go_at_call 116;apply cM
        apply NBag.gcd (w0:=wA))
       |(
        go_at_call 117;apply cM
        apply NBag.quot (w0:=wA))
       |(
        go_at_call 88;apply cM
        apply NBag.mul (w0:=wA))
      (focus(first|exact HR.o|exact HR.o.drew|exact HR.o.drew.drew));(focus(repeat(first|exact mH|apply mT)));(focus(repeat(first|exact mH|apply mT)));omega
      try (focus(first|exact HG0.o|exact HH0.o))
      rintro e wn ⟨an,nn,cn,rfl,hb⟩;clear HR;have HR:=Hi hb;clear hb;obtain⟨kx0,kx1,kx2⟩:=Jb HR.o.base ltx KX0.o KX1.o KX2.o;obtain⟨ky0,ky1,ky2⟩:=Jb HR.o.base lty KY0.o KY1.o KY2.o
      skip))
   have HS':=Hi (HS.o.below HR.o.base HS.o.lt);have HBP':=Hi (HBP.o.trans (HR.o.base.mono HBP.o.size));clear HS HBP;have HS:=HS';have HBP:=HBP';clear HS' HBP';apply cM;apply NBag.built (w0:=wA) HR.o;(focus(repeat(first|exact mH|apply mT)));(focus(repeat(first|exact mH|apply mT)));(focus(exact HK0.o));(focus(exact HCP.o));rw[HE.o];rintro e w9 ⟨⟨v9,rfl,hv⟩,hb⟩;obtain⟨neg9,a9,n9,c9,b9,m9,d9,rfl,hv⟩:=hv;have hs:=HS.o.below hb HS.o.lt;have k0:=hs.cell 0;have k1:=hs.cell 1;have k2:=hs.cell 2;have f0:=hs.free 0;have f1:=hs.free 1;have f2:=hs.free 2;simp[zeroFrac] at k0 k1 k2;obtain⟨HV,HS9,HB9⟩:=Ib hv hs (HBP.o.trans (hb.mono HBP.o.size));clear hv hs hb;go_wp2
   refine bodyPost_ret (v:=.agg #[.bool neg9,.slice a9 n9 c9,.slice b9 m9 d9]) (results_cell_row rfl _ _ (w.heap.size+1+1) 63 #[.bool neg9,.slice a9 n9 c9,.slice b9 m9 d9] (0,0) _ rfl (((HS9.o.set 0 _).set 1 _).set 2 _) underlying63 rfl Tryz.fracInfo) rfl ?_;have ho:=(((Only.refl (w.heap.size+1+1) w9).setCell 0 (.bool neg9)).setCell 1 (.slice a9 n9 c9)).setCell 2 (.slice b9 m9 d9);exact⟨⟨_,rfl,neg9,a9,n9,c9,b9,m9,d9,rfl,HV.o.only ho HS9.o Qbf⟩,Only.fresh HB9.o ho (by omega)⟩
end Go.Proofs.YtldjeecnapgakaaGreatDoor
