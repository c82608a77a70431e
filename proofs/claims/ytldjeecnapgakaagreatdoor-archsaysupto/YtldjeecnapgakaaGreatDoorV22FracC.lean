/- num's Plus, Minus, Over. -/
import Derived.Test.YtldjeecnapgakaaGreatDoorV20FracB
namespace Go.Proofs.YtldjeecnapgakaaGreatDoor
open Go.RowKit
open Go.Proofs.Tryz
set_option linter.unusedSimpArgs false
set_option linter.unusedVariables false
set_option maxHeartbeats 8000000
set_option maxRecDepth 1000000
theorem FracAt.drew{w:World}{neg:Bool}{a b:Option Addr}{n c m d:Nat}{q:Rat}(h:FracAt w neg a n c b m d q):FracAt w.drew neg a n c b m d q:=h.below bR.drew
theorem Qn0{p q:Rat}{nx ny r:Bool}{t:Nat}(hx:nx=decide (p.num<0))(hy:ny=decide (q.num<0))(h:sgn r t=sgn nx (p.num.natAbs*(q.den / Nat.gcd p.den q.den))+sgn ny (q.num.natAbs*(p.den / Nat.gcd p.den q.den))):
 mkRat (sgn r (t / Nat.gcd t (Nat.gcd p.den q.den))) (p.den / Nat.gcd p.den q.den*(q.den / Nat.gcd t (Nat.gcd p.den q.den)))=p+q/\Nat.Coprime (t / Nat.gcd t (Nat.gcd p.den q.den)) (p.den / Nat.gcd p.den q.den*(q.den / Nat.gcd t (Nat.gcd p.den q.den))):=by
 refine Qnz p q rfl ?_ rfl;have e:∀(b:Bool) (u v:Nat),sgn b (u*v)=sgn b u*(v:Int):=fun b u v=>by have:=Qb5 b false u v;rw[Bool.bne_false] at this;exact this
 rw[h,e,e,hx,hy,Qbs,Qbs]
theorem Qhk(nx ny:Bool)(ax bx ay b2:Option Addr)(lx cx mx dx ly cy my dy i j:Nat)(p q:Rat)(w:World)(hx:FracAt w nx ax lx cx bx mx dx p)(hy:FracAt w ny ay ly cy b2 my dy q)(hp:Fits p i)(hq:Fits q j)(hij:i+j<68719476000):
 Calls prog 72 #[.agg #[.bool nx,.slice ax lx cx,.slice bx mx dx],.agg #[.bool ny,.slice ay ly cy,.slice b2 my dy]] w (FNew w (p+q)):=by
 obtain⟨HX,HY,HPF,HQF⟩:=Ic hx hy hp hq;obtain⟨CX,hCX⟩:=nm (#[Value.bool nx,.slice ax lx cx,.slice bx mx dx]);obtain⟨CY,hCY⟩:=nm (#[Value.bool ny,.slice ay ly cy,.slice b2 my dy]);obtain⟨HR,HS,HSY,HSX,HBP⟩:=Id ((((((NBag.start hx.top hy.top hp.1 hq.1).alloc (.cells CX 63)).alloc (.cells CY 63)).alloc (.cells zeroFrac 63)).rebase)) (SB.new3 w 63 63 63 CX CY zeroFrac) ((SB.new2 w 63 63 CX CY).alloc (.cells zeroFrac 63)) (((SB.new w 63 CX).alloc (.cells CY 63)).alloc (.cells zeroFrac 63)) (Below.new3 w (.cells CX 63) (.cells CY 63) (.cells zeroFrac 63));obtain⟨wA,hwA⟩:=nm ((((w.alloc (.cells CX 63)).alloc (.cells CY 63)).alloc (.cells zeroFrac 63)));rw[hwA] at HR HS HSY HSX HBP;subst hCX hCY;obtain⟨HLX,HLY⟩:=Ia (hx.low.below HBP.o) (hy.low.below HBP.o);have ltx:=HSX.o.lt;have lty:=HSY.o.lt
 obtain⟨KX0,KX1,KX2,KY0,KY1,KY2⟩:=Ie (HSX.o.cell 0) (HSX.o.cell 1) (HSX.o.cell 2) (HSY.o.cell 0) (HSY.o.cell 1) (HSY.o.cell 2);simp at KX0 KX1 KX2 KY0 KY1 KY2;have HWA:=Hi hwA;have nxr:w.heap.size+1+1≠w.heap.size:=by omega
 have nyr:w.heap.size+1+1≠w.heap.size+1:=by omega
 clear hx hy hp hq hwA;have HG0:=Hi (show 0<Nat.gcd p.den q.den from Nat.gcd_pos_of_pos_right _ q.den_pos);go_enter func72,ntmps72;obtain⟨kx0,kx1,kx2⟩:=Jb HR.o.base ltx KX0.o KX1.o KX2.o;obtain⟨ky0,ky1,ky2⟩:=Jb HR.o.base lty KY0.o KY1.o KY2.o;go_wp2_with fail;rw[show (((w.alloc (.cells #[.bool nx,.slice ax lx cx,.slice bx mx dx] 63)).alloc (.cells #[.bool ny,.slice ay ly cy,.slice b2 my dy] 63)).alloc (.cells #[.bool false,.slice none 0 0,.slice none 0 0] 63))=wA from HWA.o];go_region_held3
  (fun w'=>w'.cell? ⟨w.heap.size,0,none⟩=some (.bool nx)/\w'.cell? ⟨w.heap.size,1,none⟩=some (.slice ax lx cx)/\w'.cell? ⟨w.heap.size,2,none⟩=some (.slice bx mx dx)/\w'.cell? ⟨w.heap.size+1,0,none⟩=some (.bool ny)/\w'.cell? ⟨w.heap.size+1,1,none⟩=some (.slice ay ly cy)/\w'.cell? ⟨w.heap.size+1,2,none⟩=some (.slice b2 my dy)) ((first|(simp [*];done)|go_keep))
  (first
  |
   (go_at_call_of 89 (Value.agg #[.bool nx,.slice ax lx cx,.slice bx mx dx])
    apply cM;apply NBag.under (w0:=wA) (hl:=HLX.o) (hk:=HPF.o.2);(focus(first|exact HR.o|exact HR.o.drew|exact HR.o.drew.drew));rintro e w3 ⟨aA,nA,cA,rfl,hb⟩;clear HR;have HR:=Hi hb;clear hb;obtain⟨kx0,kx1,kx2⟩:=Jb HR.o.base ltx KX0.o KX1.o KX2.o;obtain⟨ky0,ky1,ky2⟩:=Jb HR.o.base lty KY0.o KY1.o KY2.o
    skip)
  |
   (go_at_call_of 89 (Value.agg #[.bool ny,.slice ay ly cy,.slice b2 my dy])
    apply cM;apply NBag.under (w0:=wA) (hl:=HLY.o) (hk:=HQF.o.2);(focus(first|exact HR.o|exact HR.o.drew|exact HR.o.drew.drew));rintro e w4 ⟨aB,nB,cB,rfl,hb⟩;clear HR;have HR:=Hi hb;clear hb;obtain⟨kx0,kx1,kx2⟩:=Jb HR.o.base ltx KX0.o KX1.o KX2.o;obtain⟨ky0,ky1,ky2⟩:=Jb HR.o.base lty KY0.o KY1.o KY2.o
    skip)
  )
 go_wp2_with
  ((skip
    first
     |(
      go_at_call 116;apply cM
      apply NBag.gcd (w0:=wA))
     |(
      go_at_call 117;apply cM
      apply NBag.quot (w0:=wA))
     |(
      go_at_call 88;apply cM
      apply NBag.mul (w0:=wA))
     |(
      go_at_call 118;apply cM
      apply NBag.addSigned (w0:=wA))
    (focus(first|exact HR.o|exact HR.o.drew|exact HR.o.drew.drew));(focus(repeat(first|exact mH|apply mT)));(focus(repeat(first|exact mH|apply mT)));omega
    try (focus(exact HG0.o))
    first
     |rintro e wn ⟨an,nn,cn,rfl,hb⟩
     |(
      rintro e wn ⟨r,aT,nT,cT,t,rfl,hb,ht⟩;have HT:=Hi ht
      clear ht)
    clear HR;have HR:=Hi hb;clear hb;obtain⟨kx0,kx1,kx2⟩:=Jb HR.o.base ltx KX0.o KX1.o KX2.o;obtain⟨ky0,ky1,ky2⟩:=Jb HR.o.base lty KY0.o KY1.o KY2.o
    skip))
 go_region_held3
  (fun w'=>w'.cell? ⟨w.heap.size,0,none⟩=some (.bool nx)/\w'.cell? ⟨w.heap.size,1,none⟩=some (.slice ax lx cx)/\w'.cell? ⟨w.heap.size,2,none⟩=some (.slice bx mx dx)/\w'.cell? ⟨w.heap.size+1,0,none⟩=some (.bool ny)/\w'.cell? ⟨w.heap.size+1,1,none⟩=some (.slice ay ly cy)/\w'.cell? ⟨w.heap.size+1,2,none⟩=some (.slice b2 my dy)) ((first|(simp [*];done)|go_keep))
  ((skip
    first
     |(
      go_at_call 116;apply cM
      apply NBag.gcd (w0:=wA))
     |(
      go_at_call 117;apply cM
      apply NBag.quot (w0:=wA))
     |(
      go_at_call 88;apply cM
      apply NBag.mul (w0:=wA))
     |(
      go_at_call 118;apply cM
      apply NBag.addSigned (w0:=wA))
    (focus(first|exact HR.o|exact HR.o.drew|exact HR.o.drew.drew));(focus(repeat(first|exact mH|apply mT)));(focus(repeat(first|exact mH|apply mT)));omega
    try (focus(exact HG0.o))
    first
     |rintro e wn ⟨an,nn,cn,rfl,hb⟩
     |(
      rintro e wn ⟨r,aT,nT,cT,t,rfl,hb,ht⟩;have HT:=Hi ht
      clear ht)
    clear HR;have HR:=Hi hb;clear hb;obtain⟨kx0,kx1,kx2⟩:=Jb HR.o.base ltx KX0.o KX1.o KX2.o;obtain⟨ky0,ky1,ky2⟩:=Jb HR.o.base lty KY0.o KY1.o KY2.o
    skip))
 have hE:=Qn0 HX.o.neg HY.o.neg HT.o;have hH0:0<Nat.gcd t (Nat.gcd p.den q.den):=Nat.gcd_pos_of_pos_right _ HG0.o;have HZ:=Hi (HR.o.get (List.Mem.head _)).1.zero_iff;obtain⟨HH0,HE,HCP,HK0⟩:=Ic hH0 hE.1 hE.2 (show 0<p.den / Nat.gcd p.den q.den*(q.den / Nat.gcd t (Nat.gcd p.den q.den)) from Nat.mul_pos (Nat.div_pos (Nat.gcd_le_left _ p.den_pos) HG0.o) (Nat.div_pos (Nat.le_trans (Nat.gcd_le_right _ HG0.o) (Nat.gcd_le_right _ q.den_pos)) hH0));clear hE hH0;by_cases ht0:t=0
 .
  have hn0:((nT:Int) == 0)=true:=by have:=HZ.o.1 ht0;simp[this]
  have HZERO:O (p+q=0):=Hi (by rw[<-HE.o,ht0,Nat.zero_div,Qhh,Rat.zero_mkRat]);clear HE HCP ht0;have hs:=HS.o.below HR.o.base HS.o.lt;have k0:=hs.cell 0;have k1:=hs.cell 1;have k2:=hs.cell 2;have f0:=hs.free 0;have f1:=hs.free 1;have f2:=hs.free 2;simp[zeroFrac] at k0 k1 k2;obtain⟨HS9,HB9⟩:=Ia hs (HBP.o.trans (HR.o.base.mono HBP.o.size));clear hs HR;go_wp2;refine bodyPost_ret (v:=.agg #[.bool false,.slice none 0 0,.slice none 0 0]) (results_cell_row rfl _ _ (w.heap.size+1+1) 63 #[.bool false,.slice none 0 0,.slice none 0 0] (0,0) _ rfl (((HS9.o.set 0 _).set 1 _).set 2 _) underlying63 rfl Tryz.fracInfo) rfl ?_;have ho:=(((Only.refl (w.heap.size+1+1) wn).setCell 0 (.bool false)).setCell 1 (.slice none 0 0)).setCell 2 (.slice none 0 0);exact⟨⟨_,rfl,by first|exact FracV.zero _|(rw [HZERO.o];exact FracV.zero _)⟩,Only.fresh HB9.o ho (by omega)⟩
 .
  have hn0:((nT:Int) == 0)=false:=by rw[beq_eq_false_iff_ne];have:=HZ.o.2;omega
  clear ht0;go_wp2_with
   ((skip
     first
      |(
       go_at_call 116;apply cM
       apply NBag.gcd (w0:=wA))
      |(
       go_at_call 117;apply cM
       apply NBag.quot (w0:=wA))
      |(
       go_at_call 88;apply cM
       apply NBag.mul (w0:=wA))
      |(
       go_at_call 118;apply cM
       apply NBag.addSigned (w0:=wA))
     (focus(first|exact HR.o|exact HR.o.drew|exact HR.o.drew.drew));(focus(repeat(first|exact mH|apply mT)));(focus(repeat(first|exact mH|apply mT)));omega
     try (focus(first|exact HG0.o|exact HH0.o))
     first
      |rintro e wn ⟨an,nn,cn,rfl,hb⟩
      |(
       rintro e wn ⟨r,aT,nT,cT,t,rfl,hb,ht⟩;have HT:=Hi ht
       clear ht)
     clear HR;have HR:=Hi hb;clear hb;obtain⟨kx0,kx1,kx2⟩:=Jb HR.o.base ltx KX0.o KX1.o KX2.o;obtain⟨ky0,ky1,ky2⟩:=Jb HR.o.base lty KY0.o KY1.o KY2.o
     skip))
  have HS':=Hi (HS.o.below HR.o.base HS.o.lt);have HBP':=Hi (HBP.o.trans (HR.o.base.mono HBP.o.size));clear HS HBP;have HS:=HS';have HBP:=HBP';clear HS' HBP';apply cM;apply NBag.built (w0:=wA) HR.o;(focus(repeat(first|exact mH|apply mT)));(focus(repeat(first|exact mH|apply mT)));(focus(exact HK0.o));(focus(exact HCP.o));rw[HE.o];rintro e w9 ⟨⟨v9,rfl,hv⟩,hb⟩;obtain⟨neg9,a9,n9,c9,b9,m9,d9,rfl,hv⟩:=hv;have hs:=HS.o.below hb HS.o.lt;have k0:=hs.cell 0;have k1:=hs.cell 1;have k2:=hs.cell 2;have f0:=hs.free 0;have f1:=hs.free 1;have f2:=hs.free 2;simp[zeroFrac] at k0 k1 k2;obtain⟨HV,HS9,HB9⟩:=Ib hv hs (HBP.o.trans (hb.mono HBP.o.size));clear hv hs hb;go_wp2
  refine bodyPost_ret (v:=.agg #[.bool neg9,.slice a9 n9 c9,.slice b9 m9 d9]) (results_cell_row rfl _ _ (w.heap.size+1+1) 63 #[.bool neg9,.slice a9 n9 c9,.slice b9 m9 d9] (0,0) _ rfl (((HS9.o.set 0 _).set 1 _).set 2 _) underlying63 rfl Tryz.fracInfo) rfl ?_;have ho:=(((Only.refl (w.heap.size+1+1) w9).setCell 0 (.bool neg9)).setCell 1 (.slice a9 n9 c9)).setCell 2 (.slice b9 m9 d9);exact⟨⟨_,rfl,neg9,a9,n9,c9,b9,m9,d9,rfl,HV.o.only ho HS9.o Qbf⟩,Only.fresh HB9.o ho (by omega)⟩
theorem Qn1{v1 v2:Value}{i j:Nat}{p q:Rat}{w:World}(hx:FracV w v1 p)(hy:FracV w v2 q)(hp:Fits p i)(hq:Fits q j)(hij:i+j<68719476000):Calls prog 72 #[v1,v2] w (FNew w (p+q)):=by
 obtain⟨nx,ax,lx,cx,bx,mx,dx,rfl,hx⟩:=hx;obtain⟨ny,ay,ly,cy,b2,my,dy,rfl,hy⟩:=hy;exact Qhk nx ny ax bx ay b2 lx cx mx dx ly cy my dy i j p q w hx hy hp hq hij
theorem Qn2{v1 v2:Value}{i j:Nat}{p q:Rat}{w:World}(hx:FracV w v1 p)(hy:FracV w v2 q)(hp:Fits p i)(hq:Fits q j)(hij:i+j<68719476000):Calls prog 71 #[v1,v2] w (FNew w (p*q)):=by
 obtain⟨nx,ax,lx,cx,bx,mx,dx,rfl,hx⟩:=hx;obtain⟨ny,ay,ly,cy,b2,my,dy,rfl,hy⟩:=hy;exact Qhg nx ny ax bx ay b2 lx cx mx dx ly cy my dy i j p q w hx hy hp hq hij
theorem Qn3(nx ny:Bool)(ax bx ay b2:Option Addr)(lx cx mx dx ly cy my dy i j:Nat)(p q:Rat)(w:World)(hx:FracAt w nx ax lx cx bx mx dx p)(hy:FracAt w ny ay ly cy b2 my dy q)(hp:Fits p i)(hq:Fits q j)(hij:i+j<68719476000):
 Calls prog 70 #[.agg #[.bool nx,.slice ax lx cx,.slice bx mx dx],.agg #[.bool ny,.slice ay ly cy,.slice b2 my dy]] w (FNew w (p - q)):=by
 rw[Rat.sub_eq_add_neg];obtain⟨HX,HY,HPF,HQF⟩:=Ic hx hy hp hq;obtain⟨CX,hCX⟩:=nm (#[Value.bool nx,.slice ax lx cx,.slice bx mx dx]);obtain⟨CY,hCY⟩:=nm (#[Value.bool ny,.slice ay ly cy,.slice b2 my dy]);obtain⟨HR,HS,HSY,HSX,HBP⟩:=Id ((((((NBag.start hx.top hy.top hp.1 hq.1).alloc (.cells CX 63)).alloc (.cells CY 63)).alloc (.cells zeroFrac 63)).rebase)) (SB.new3 w 63 63 63 CX CY zeroFrac) ((SB.new2 w 63 63 CX CY).alloc (.cells zeroFrac 63)) (((SB.new w 63 CX).alloc (.cells CY 63)).alloc (.cells zeroFrac 63)) (Below.new3 w (.cells CX 63) (.cells CY 63) (.cells zeroFrac 63));obtain⟨wA,hwA⟩:=nm ((((w.alloc (.cells CX 63)).alloc (.cells CY 63)).alloc (.cells zeroFrac 63)));rw[hwA] at HR HS HSY HSX HBP;subst hCX hCY;obtain⟨HLX,HLY⟩:=Ia (hx.low.below HBP.o) (hy.low.below HBP.o);have ltx:=HSX.o.lt
 have lty:=HSY.o.lt;obtain⟨KX0,KX1,KX2,KY0,KY1,KY2⟩:=Ie (HSX.o.cell 0) (HSX.o.cell 1) (HSX.o.cell 2) (HSY.o.cell 0) (HSY.o.cell 1) (HSY.o.cell 2);simp at KX0 KX1 KX2 KY0 KY1 KY2;have HWA:=Hi hwA;have nxr:w.heap.size+1+1≠w.heap.size:=by omega
 have nyr:w.heap.size+1+1≠w.heap.size+1:=by omega
 clear hx hy hp hq hwA;go_enter func70,ntmps70;obtain⟨kx0,kx1,kx2⟩:=Jb HR.o.base ltx KX0.o KX1.o KX2.o;obtain⟨ky0,ky1,ky2⟩:=Jb HR.o.base lty KY0.o KY1.o KY2.o;go_wp2_with fail;rw[show (((w.alloc (.cells #[.bool nx,.slice ax lx cx,.slice bx mx dx] 63)).alloc (.cells #[.bool ny,.slice ay ly cy,.slice b2 my dy] 63)).alloc (.cells #[.bool false,.slice none 0 0,.slice none 0 0] 63))=wA from HWA.o];have HFP:=HPF;obtain⟨HFQ,HXA,HYA⟩:=Ib HQF.o.neg (HX.o.below HBP.o) (HY.o.below HBP.o);go_region_held3
  (fun w'=>w'.cell? ⟨w.heap.size,0,none⟩=some (.bool nx)/\w'.cell? ⟨w.heap.size,1,none⟩=some (.slice ax lx cx)/\w'.cell? ⟨w.heap.size,2,none⟩=some (.slice bx mx dx)/\w'.cell? ⟨w.heap.size+1,0,none⟩=some (.bool ny)/\w'.cell? ⟨w.heap.size+1,1,none⟩=some (.slice ay ly cy)/\w'.cell? ⟨w.heap.size+1,2,none⟩=some (.slice b2 my dy)) ((first|(simp [*];done)|go_keep))
  (first
  |(
   go_at_call 115;apply cM;apply Qnp;(focus(first|exact HYA.o|exact HYA.o.drew|exact HYA.o.drew.drew));rintro e w4 ⟨⟨v4,rfl,hv⟩,hb⟩;obtain⟨neg4,a4,n4,c4,b4,m4,d4,rfl,hv⟩:=hv;have HYC:=Hi hv
   first
    |have HBC:O (Below wA.heap.size wA w4):=Hi hb
    |have HBC:O (Below wA.heap.size wA w4):=Hi ((Below.refl _ wA).drew.trans hb)
    |have HBC:O (Below wA.heap.size wA w4):=Hi ((Below.refl _ wA).drew.drew.trans hb)
   have HXC:=Hi (HXA.o.below HBC.o);clear hv hb HR;obtain⟨kx0,kx1,kx2⟩:=Jb HBC.o ltx KX0.o KX1.o KX2.o;obtain⟨ky0,ky1,ky2⟩:=Jb HBC.o lty KY0.o KY1.o KY2.o
   skip)
  |
   (go_at_call 72
    apply cM;apply Qhk (i:=i) (j:=j);(focus(first|exact HXC.o|exact HXC.o.drew|exact HXC.o.drew.drew));(focus(first|exact HYC.o|exact HYC.o.drew|exact HYC.o.drew.drew));(focus(exact HFP.o));(focus(exact HFQ.o));omega;rintro e w9 ⟨⟨v9,rfl,hv⟩,hb⟩;obtain⟨neg9,a9,n9,c9,b9,m9,d9,rfl,hv⟩:=hv
    first
     |have hb9:=HBC.o.trans (hb.mono HBC.o.size)
     |have hb9:=HBC.o.drew.trans (hb.mono HBC.o.size)
     |have hb9:=HBC.o.drew.drew.trans (hb.mono HBC.o.size)
    have hs:=HS.o.below hb9 HS.o.lt;have k0:=hs.cell 0;have k1:=hs.cell 1;have k2:=hs.cell 2;have f0:=hs.free 0;have f1:=hs.free 1;have f2:=hs.free 2;obtain⟨kx0,kx1,kx2⟩:=Jb hb9 ltx KX0.o KX1.o KX2.o;obtain⟨ky0,ky1,ky2⟩:=Jb hb9 lty KY0.o KY1.o KY2.o;simp[zeroFrac] at k0 k1 k2;obtain⟨HV,HS9,HB9⟩:=Ib hv hs (HBP.o.trans (hb9.mono HBP.o.size))
    clear hv hs hb hb9)
  )
 all_goals
  go_wp2;refine bodyPost_ret (v:=.agg #[.bool neg9,.slice a9 n9 c9,.slice b9 m9 d9]) (results_cell_row rfl _ _ (w.heap.size+1+1) 63 #[.bool neg9,.slice a9 n9 c9,.slice b9 m9 d9] (0,0) _ rfl (((HS9.o.set 0 _).set 1 _).set 2 _) underlying63 rfl Tryz.fracInfo) rfl ?_;have ho:=(((Only.refl (w.heap.size+1+1) w9).setCell 0 (.bool neg9)).setCell 1 (.slice a9 n9 c9)).setCell 2 (.slice b9 m9 d9);exact⟨⟨_,rfl,neg9,a9,n9,c9,b9,m9,d9,rfl,HV.o.only ho HS9.o Qbf⟩,Only.fresh HB9.o ho (by omega)⟩
theorem Qn4(q:Rat)(hq:q≠0){ny:Bool}(hn:ny=decide (q.num<0)):mkRat (sgn ny q.den) q.num.natAbs=q⁻¹:=by rw[hn];exact(Qhj hq).1
theorem Fits.inv{q:Rat}{j:Nat}(h:Fits q j)(hq:q≠0):Fits q⁻¹ j:=by
 obtain⟨h1,h2,h3⟩:=Qhj hq;obtain⟨e1,e2⟩:=Qhi (neg:=decide (q.num<0)) h3 h2;rw[h1] at e1 e2;exact⟨by rw[e1,Qdn];exact h.2,by rw[e2];exact h.1⟩
theorem Qn5(nx ny:Bool)(ax bx ay b2:Option Addr)(lx cx mx dx ly cy my dy i j:Nat)(p q:Rat)(w:World)(hx:FracAt w nx ax lx cx bx mx dx p)(hy:FracAt w ny ay ly cy b2 my dy q)(hp:Fits p i)(hq:Fits q j)(hij:i+j<68719476000):
 Calls prog 83 #[.agg #[.bool nx,.slice ax lx cx,.slice bx mx dx],.agg #[.bool ny,.slice ay ly cy,.slice b2 my dy]] w (FNew w (p / q)):=by
 obtain⟨HX,HY,HPF,HQF⟩:=Ic hx hy hp hq;obtain⟨CX,hCX⟩:=nm (#[Value.bool nx,.slice ax lx cx,.slice bx mx dx]);obtain⟨CY,hCY⟩:=nm (#[Value.bool ny,.slice ay ly cy,.slice b2 my dy]);obtain⟨HR,HS,HSY,HSX,HBP⟩:=Id ((((((NBag.start hx.top hy.top hp.1 hq.1).alloc (.cells CX 63)).alloc (.cells CY 63)).alloc (.cells zeroFrac 63)).rebase)) (SB.new3 w 63 63 63 CX CY zeroFrac) ((SB.new2 w 63 63 CX CY).alloc (.cells zeroFrac 63)) (((SB.new w 63 CX).alloc (.cells CY 63)).alloc (.cells zeroFrac 63)) (Below.new3 w (.cells CX 63) (.cells CY 63) (.cells zeroFrac 63));obtain⟨wA,hwA⟩:=nm ((((w.alloc (.cells CX 63)).alloc (.cells CY 63)).alloc (.cells zeroFrac 63)));rw[hwA] at HR HS HSY HSX HBP;subst hCX hCY;obtain⟨HLX,HLY⟩:=Ia (hx.low.below HBP.o) (hy.low.below HBP.o);have ltx:=HSX.o.lt;have lty:=HSY.o.lt
 obtain⟨KX0,KX1,KX2,KY0,KY1,KY2⟩:=Ie (HSX.o.cell 0) (HSX.o.cell 1) (HSX.o.cell 2) (HSY.o.cell 0) (HSY.o.cell 1) (HSY.o.cell 2);simp at KX0 KX1 KX2 KY0 KY1 KY2;have HWA:=Hi hwA;have nxr:w.heap.size+1+1≠w.heap.size:=by omega
 have nyr:w.heap.size+1+1≠w.heap.size+1:=by omega
 clear hx hy hp hq hwA;by_cases hq0:q.num.natAbs=0
 .
  have hqz:q=0:=Rat.num_eq_zero.1 (by omega);rw[show p / q=0 by rw[hqz,Rat.div_def,Rat.inv_zero,Rat.mul_zero]];go_enter func83,ntmps83;obtain⟨kx0,kx1,kx2⟩:=Jb HR.o.base ltx KX0.o KX1.o KX2.o;obtain⟨ky0,ky1,ky2⟩:=Jb HR.o.base lty KY0.o KY1.o KY2.o;go_wp2_with fail;rw[show (((w.alloc (.cells #[.bool nx,.slice ax lx cx,.slice bx mx dx] 63)).alloc (.cells #[.bool ny,.slice ay ly cy,.slice b2 my dy] 63)).alloc (.cells #[.bool false,.slice none 0 0,.slice none 0 0] 63))=wA from HWA.o];apply cM;apply NBag.isZero (w0:=wA) HR.o
  (focus(repeat(first|exact mH|apply mT)));rw[(decide_eq_true hq0)];rintro e w2 ⟨rfl,hb⟩;have hs:=HS.o.below hb.base HS.o.lt;have k0:=hs.cell 0;have k1:=hs.cell 1;have k2:=hs.cell 2;have f0:=hs.free 0;have f1:=hs.free 1;have f2:=hs.free 2;simp[zeroFrac] at k0 k1 k2;obtain⟨HS9,HB9⟩:=Ia hs (HBP.o.trans (hb.base.mono HBP.o.size));clear hb hs HR;go_wp2;refine bodyPost_ret (v:=.agg #[.bool false,.slice none 0 0,.slice none 0 0]) (results_cell_row rfl _ _ (w.heap.size+1+1) 63 #[.bool false,.slice none 0 0,.slice none 0 0] (0,0) _ rfl (((HS9.o.set 0 _).set 1 _).set 2 _) underlying63 rfl Tryz.fracInfo) rfl ?_;have ho:=(((Only.refl (w.heap.size+1+1) w2).setCell 0 (.bool false)).setCell 1 (.slice none 0 0)).setCell 2 (.slice none 0 0);exact⟨⟨_,rfl,FracV.zero _⟩,Only.fresh HB9.o ho (by omega)⟩
 .
  have hqz:q≠0:=fun h=>hq0 (by rw[h];rfl)
  go_enter func83,ntmps83;obtain⟨kx0,kx1,kx2⟩:=Jb HR.o.base ltx KX0.o KX1.o KX2.o;obtain⟨ky0,ky1,ky2⟩:=Jb HR.o.base lty KY0.o KY1.o KY2.o;go_wp2_with fail;rw[show (((w.alloc (.cells #[.bool nx,.slice ax lx cx,.slice bx mx dx] 63)).alloc (.cells #[.bool ny,.slice ay ly cy,.slice b2 my dy] 63)).alloc (.cells #[.bool false,.slice none 0 0,.slice none 0 0] 63))=wA from HWA.o];apply cM;apply NBag.isZero (w0:=wA) HR.o;(focus(repeat(first|exact mH|apply mT)));rw[(decide_eq_false hq0)];rintro e w2 ⟨rfl,hb⟩;clear HR
  have HR:=Hi hb;clear hb;obtain⟨kx0,kx1,kx2⟩:=Jb HR.o.base ltx KX0.o KX1.o KX2.o;obtain⟨ky0,ky1,ky2⟩:=Jb HR.o.base lty KY0.o KY1.o KY2.o;go_wp2_with fail;rw[Rat.div_def];obtain⟨HIN,HCQ,HN0⟩:=Ib (Qn4 q hqz HY.o.neg) (Nat.Coprime.symm q.reduced) (show 0<q.num.natAbs by omega);have HFP:=HPF;obtain⟨HFQ,HXA⟩:=Ia (HQF.o.inv hqz) (HX.o.below HBP.o);clear hqz hq0;go_region_held3
   (fun w'=>w'.cell? ⟨w.heap.size,0,none⟩=some (.bool nx)/\w'.cell? ⟨w.heap.size,1,none⟩=some (.slice ax lx cx)/\w'.cell? ⟨w.heap.size,2,none⟩=some (.slice bx mx dx)/\w'.cell? ⟨w.heap.size+1,0,none⟩=some (.bool ny)/\w'.cell? ⟨w.heap.size+1,1,none⟩=some (.slice ay ly cy)/\w'.cell? ⟨w.heap.size+1,2,none⟩=some (.slice b2 my dy)) ((first|(simp [*];done)|go_keep))
   (first
   |
    (go_at_call_of 89 (Value.agg #[.bool ny,.slice ay ly cy,.slice b2 my dy])
     apply cM;apply NBag.under (w0:=wA) (hl:=HLY.o) (hk:=HQF.o.2);(focus(first|exact HR.o|exact HR.o.drew|exact HR.o.drew.drew));rintro e w3 ⟨aB,nB,cB,rfl,hb⟩;clear HR;have HR:=Hi hb;clear hb;obtain⟨kx0,kx1,kx2⟩:=Jb HR.o.base ltx KX0.o KX1.o KX2.o;obtain⟨ky0,ky1,ky2⟩:=Jb HR.o.base lty KY0.o KY1.o KY2.o
     skip)
   |(
    go_at_call 73;apply cM;apply NBag.built (w0:=wA);(focus(first|exact HR.o|exact HR.o.drew|exact HR.o.drew.drew));(focus(repeat(first|exact mH|apply mT)));(focus(repeat(first|exact mH|apply mT)));(focus(exact HN0.o));(focus(exact HCQ.o));rw[HIN.o];rintro e w4 ⟨⟨v4,rfl,hv⟩,hb⟩;obtain⟨neg4,a4,n4,c4,b4,m4,d4,rfl,hv⟩:=hv;have HYC:=Hi hv
    first
     |have HBC:O (Below wA.heap.size wA w4):=Hi (HR.o.base.trans (hb.mono HR.o.base.size))
     |have HBC:O (Below wA.heap.size wA w4):=Hi (HR.o.base.drew.trans (hb.mono HR.o.base.size))
     |have HBC:O (Below wA.heap.size wA w4):=Hi (HR.o.base.drew.drew.trans (hb.mono HR.o.base.size))
    have HXC:=Hi (HXA.o.below HBC.o);clear hv hb HR;obtain⟨kx0,kx1,kx2⟩:=Jb HBC.o ltx KX0.o KX1.o KX2.o;obtain⟨ky0,ky1,ky2⟩:=Jb HBC.o lty KY0.o KY1.o KY2.o
    skip)
   |
    (go_at_call 71
     apply cM;apply Qhg (i:=i) (j:=j);(focus(first|exact HXC.o|exact HXC.o.drew|exact HXC.o.drew.drew));(focus(first|exact HYC.o|exact HYC.o.drew|exact HYC.o.drew.drew));(focus(exact HFP.o));(focus(exact HFQ.o));omega;rintro e w9 ⟨⟨v9,rfl,hv⟩,hb⟩;obtain⟨neg9,a9,n9,c9,b9,m9,d9,rfl,hv⟩:=hv
     first
      |have hb9:=HBC.o.trans (hb.mono HBC.o.size)
      |have hb9:=HBC.o.drew.trans (hb.mono HBC.o.size)
      |have hb9:=HBC.o.drew.drew.trans (hb.mono HBC.o.size)
     have hs:=HS.o.below hb9 HS.o.lt;have k0:=hs.cell 0;have k1:=hs.cell 1;have k2:=hs.cell 2;have f0:=hs.free 0;have f1:=hs.free 1;have f2:=hs.free 2;obtain⟨kx0,kx1,kx2⟩:=Jb hb9 ltx KX0.o KX1.o KX2.o;obtain⟨ky0,ky1,ky2⟩:=Jb hb9 lty KY0.o KY1.o KY2.o;simp[zeroFrac] at k0 k1 k2;obtain⟨HV,HS9,HB9⟩:=Ib hv hs (HBP.o.trans (hb9.mono HBP.o.size))
     clear hv hs hb hb9)
   )
  all_goals
   go_wp2;refine bodyPost_ret (v:=.agg #[.bool neg9,.slice a9 n9 c9,.slice b9 m9 d9]) (results_cell_row rfl _ _ (w.heap.size+1+1) 63 #[.bool neg9,.slice a9 n9 c9,.slice b9 m9 d9] (0,0) _ rfl (((HS9.o.set 0 _).set 1 _).set 2 _) underlying63 rfl Tryz.fracInfo) rfl ?_;have ho:=(((Only.refl (w.heap.size+1+1) w9).setCell 0 (.bool neg9)).setCell 1 (.slice a9 n9 c9)).setCell 2 (.slice b9 m9 d9);exact⟨⟨_,rfl,neg9,a9,n9,c9,b9,m9,d9,rfl,HV.o.only ho HS9.o Qbf⟩,Only.fresh HB9.o ho (by omega)⟩
theorem Qn6{v1 v2:Value}{i j:Nat}{p q:Rat}{w:World}(hx:FracV w v1 p)(hy:FracV w v2 q)(hp:Fits p i)(hq:Fits q j)(hij:i+j<68719476000):Calls prog 70 #[v1,v2] w (FNew w (p - q)):=by
 obtain⟨nx,ax,lx,cx,bx,mx,dx,rfl,hx⟩:=hx;obtain⟨ny,ay,ly,cy,b2,my,dy,rfl,hy⟩:=hy;exact Qn3 nx ny ax bx ay b2 lx cx mx dx ly cy my dy i j p q w hx hy hp hq hij
theorem Qn7{v1 v2:Value}{i j:Nat}{p q:Rat}{w:World}(hx:FracV w v1 p)(hy:FracV w v2 q)(hp:Fits p i)(hq:Fits q j)(hij:i+j<68719476000):Calls prog 83 #[v1,v2] w (FNew w (p / q)):=by
 obtain⟨nx,ax,lx,cx,bx,mx,dx,rfl,hx⟩:=hx;obtain⟨ny,ay,ly,cy,b2,my,dy,rfl,hy⟩:=hy;exact Qn5 nx ny ax bx ay b2 lx cx mx dx ly cy my dy i j p q w hx hy hp hq hij
theorem Qhl{v1:Value}{p:Rat}{w:World}(hx:FracV w v1 p):Calls prog 81 #[v1] w fun e w'=>e=.returned (.bool (decide (p=0)))/\Below w.heap.size w w':=by
 obtain⟨nx,ax,lx,cx,bx,mx,dx,rfl,hx⟩:=hx;have e:decide (p.num.natAbs=0)=decide (p=0):=by
  by_cases h:p=0
  . subst h;rfl
  . have:p.num≠0:=fun hc=>h (Rat.num_eq_zero.1 hc)
    rw[decide_eq_false h,decide_eq_false (by omega)]
 rw[<-e];exact Qhf nx ax bx lx cx mx dx _ w hx.top
end Go.Proofs.YtldjeecnapgakaaGreatDoor
