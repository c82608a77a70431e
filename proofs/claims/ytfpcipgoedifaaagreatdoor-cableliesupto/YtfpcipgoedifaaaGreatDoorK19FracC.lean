/- num's Plus, Minus, Over. -/
import Derived.Test.YtfpcipgoedifaaaGreatDoorK18NumNat
namespace Go.Proofs.YtfpcipgoedifaaaGreatDoor
open Go.RowKit
set_option linter.unusedVariables false
set_option linter.unusedSimpArgs false
theorem FracAt.drew{w:World}{neg:Bool}{a b:Option Addr}{n c m d:Nat}{q:Rat}(h:FracAt w neg a n c b m d q):FracAt w.drew neg a n c b m d q:=h.below bR.drew
theorem Qot{p q:Rat}{nx ny r:Bool}{t:Nat}(hx:nx=decide (p.num<0))(hy:ny=decide (q.num<0))(h:sgn r t=sgn nx (p.num.natAbs*(q.den / Nat.gcd p.den q.den))+sgn ny (q.num.natAbs*(p.den / Nat.gcd p.den q.den))):
 mkRat (sgn r (t / Nat.gcd t (Nat.gcd p.den q.den))) (p.den / Nat.gcd p.den q.den*(q.den / Nat.gcd t (Nat.gcd p.den q.den)))=p+q/\Nat.Coprime (t / Nat.gcd t (Nat.gcd p.den q.den)) (p.den / Nat.gcd p.den q.den*(q.den / Nat.gcd t (Nat.gcd p.den q.den))):=by
 refine Qos p q rfl ?_ rfl;have e:∀(b:Bool) (u v:Nat),sgn b (u*v)=sgn b u*(v:Int):=fun b u v=>by have:=Qb3 b false u v;rw[Bool.bne_false] at this;exact this
 rw[h,e,e,hx,hy,Qbm,Qbm]
set_option maxRecDepth 100000 in
set_option maxHeartbeats 1000000 in
theorem Qh7(nx ny:Bool)(ax bx ay b2:Option Addr)(lx cx mx dx ly cy my dy i j:Nat)(p q:Rat)(w:World)(hx:FracAt w nx ax lx cx bx mx dx p)(hy:FracAt w ny ay ly cy b2 my dy q)(hp:Fits p i)(hq:Fits q j)(hij:i+j<68719476000):
 Calls Tryz.prog 49 #[.agg #[.bool nx,.slice ax lx cx,.slice bx mx dx],.agg #[.bool ny,.slice ay ly cy,.slice b2 my dy]] w (FNew w (p+q)):=by
 have HX:=Hi hx;have HY:=Hi hy;have HPF:=Hi hp;have HQF:=Hi hq;obtain⟨CX,hCX⟩:=nm (#[Value.bool nx,.slice ax lx cx,.slice bx mx dx]);obtain⟨CY,hCY⟩:=nm (#[Value.bool ny,.slice ay ly cy,.slice b2 my dy]);have HR:=Hi ((((((NBag.start hx.top hy.top hp.1 hq.1).alloc (.cells CX 103)).alloc (.cells CY 103)).alloc (.cells zeroFrac 103)).rebase));have HS:=Hi (SB.new3 w 103 103 103 CX CY zeroFrac);have HSY:=Hi ((SB.new2 w 103 103 CX CY).alloc (.cells zeroFrac 103));have HSX:=Hi (((SB.new w 103 CX).alloc (.cells CY 103)).alloc (.cells zeroFrac 103));have HBP:=Hi (Below.new3 w (.cells CX 103) (.cells CY 103) (.cells zeroFrac 103));obtain⟨wA,hwA⟩:=nm ((((w.alloc (.cells CX 103)).alloc (.cells CY 103)).alloc (.cells zeroFrac 103)));rw[hwA] at HR HS HSY HSX HBP;subst hCX hCY;have HLX:=Hi (hx.low.below HBP.out);have HLY:=Hi (hy.low.below HBP.out);have ltx:=HSX.out.lt
 have lty:=HSY.out.lt;have KX0:=Hi (HSX.out.cell 0);have KX1:=Hi (HSX.out.cell 1);have KX2:=Hi (HSX.out.cell 2);have KY0:=Hi (HSY.out.cell 0);have KY1:=Hi (HSY.out.cell 1);have KY2:=Hi (HSY.out.cell 2);simp at KX0 KX1 KX2 KY0 KY1 KY2;have HWA:=Hi hwA;have nxr:w.heap.size+1+1≠w.heap.size:=by omega
 have nyr:w.heap.size+1+1≠w.heap.size+1:=by omega
 clear hx hy hp hq hwA;have HG0:=Hi (show 0<Nat.gcd p.den q.den from Nat.gcd_pos_of_pos_right _ q.den_pos);go_enter Tryz.func49,Tryz.ntmps49;have kx0:=ce HR.out.base ltx KX0.out;have kx1:=ce HR.out.base ltx KX1.out;have kx2:=ce HR.out.base ltx KX2.out;have ky0:=ce HR.out.base lty KY0.out;have ky1:=ce HR.out.base lty KY1.out;have ky2:=ce HR.out.base lty KY2.out;go_wp2_with fail;rw[show (((w.alloc (.cells #[.bool nx,.slice ax lx cx,.slice bx mx dx] 103)).alloc (.cells #[.bool ny,.slice ay ly cy,.slice b2 my dy] 103)).alloc (.cells #[.bool false,.slice none 0 0,.slice none 0 0] 103))=wA from HWA.out];go_region_held3
  (fun w'=>w'.cell? ⟨w.heap.size,0,none⟩=some (.bool nx)/\w'.cell? ⟨w.heap.size,1,none⟩=some (.slice ax lx cx)/\w'.cell? ⟨w.heap.size,2,none⟩=some (.slice bx mx dx)/\w'.cell? ⟨w.heap.size+1,0,none⟩=some (.bool ny)/\w'.cell? ⟨w.heap.size+1,1,none⟩=some (.slice ay ly cy)/\w'.cell? ⟨w.heap.size+1,2,none⟩=some (.slice b2 my dy)) ((first|(simp [*];done)|go_keep))
  (first
  |
   (go_at_call_of 84 (Value.agg #[.bool nx,.slice ax lx cx,.slice bx mx dx])
    apply cM;apply NBag.under (w0:=wA) (hl:=HLX.out) (hk:=HPF.out.2);(focus(first|exact HR.out|exact HR.out.drew|exact HR.out.drew.drew));rintro e w3 ⟨aA,nA,cA,rfl,hb⟩;clear HR;have HR:=Hi hb;clear hb;have kx0:=ce HR.out.base ltx KX0.out;have kx1:=ce HR.out.base ltx KX1.out;have kx2:=ce HR.out.base ltx KX2.out;have ky0:=ce HR.out.base lty KY0.out;have ky1:=ce HR.out.base lty KY1.out;have ky2:=ce HR.out.base lty KY2.out
    skip)
  |
   (go_at_call_of 84 (Value.agg #[.bool ny,.slice ay ly cy,.slice b2 my dy])
    apply cM;apply NBag.under (w0:=wA) (hl:=HLY.out) (hk:=HQF.out.2);(focus(first|exact HR.out|exact HR.out.drew|exact HR.out.drew.drew));rintro e w4 ⟨aB,nB,cB,rfl,hb⟩;clear HR;have HR:=Hi hb;clear hb;have kx0:=ce HR.out.base ltx KX0.out;have kx1:=ce HR.out.base ltx KX1.out;have kx2:=ce HR.out.base ltx KX2.out;have ky0:=ce HR.out.base lty KY0.out;have ky1:=ce HR.out.base lty KY1.out;have ky2:=ce HR.out.base lty KY2.out
    skip)
  )
 go_wp2_with
  ((skip
    first
     |(
      go_at_call 85;apply cM
      apply NBag.gcd (w0:=wA))
     |(
      go_at_call 86;apply cM
      apply NBag.quot (w0:=wA))
     |(
      go_at_call 88;apply cM
      apply NBag.mul (w0:=wA))
     |(
      go_at_call 87;apply cM
      apply NBag.addSigned (w0:=wA))
    (focus(first|exact HR.out|exact HR.out.drew|exact HR.out.drew.drew));(focus(repeat(first|exact List.Mem.head _|apply List.Mem.tail)));(focus(repeat(first|exact List.Mem.head _|apply List.Mem.tail)));omega
    try (focus(exact HG0.out))
    first
     |rintro e wn ⟨an,nn,cn,rfl,hb⟩
     |(
      rintro e wn ⟨r,aT,nT,cT,t,rfl,hb,ht⟩;have HT:=Hi ht
      clear ht)
    clear HR;have HR:=Hi hb;clear hb;have kx0:=ce HR.out.base ltx KX0.out;have kx1:=ce HR.out.base ltx KX1.out;have kx2:=ce HR.out.base ltx KX2.out;have ky0:=ce HR.out.base lty KY0.out;have ky1:=ce HR.out.base lty KY1.out;have ky2:=ce HR.out.base lty KY2.out
    skip))
 go_region_held3
  (fun w'=>w'.cell? ⟨w.heap.size,0,none⟩=some (.bool nx)/\w'.cell? ⟨w.heap.size,1,none⟩=some (.slice ax lx cx)/\w'.cell? ⟨w.heap.size,2,none⟩=some (.slice bx mx dx)/\w'.cell? ⟨w.heap.size+1,0,none⟩=some (.bool ny)/\w'.cell? ⟨w.heap.size+1,1,none⟩=some (.slice ay ly cy)/\w'.cell? ⟨w.heap.size+1,2,none⟩=some (.slice b2 my dy)) ((first|(simp [*];done)|go_keep))
  ((skip
    first
     |(
      go_at_call 85;apply cM
      apply NBag.gcd (w0:=wA))
     |(
      go_at_call 86;apply cM
      apply NBag.quot (w0:=wA))
     |(
      go_at_call 88;apply cM
      apply NBag.mul (w0:=wA))
     |(
      go_at_call 87;apply cM
      apply NBag.addSigned (w0:=wA))
    (focus(first|exact HR.out|exact HR.out.drew|exact HR.out.drew.drew));(focus(repeat(first|exact List.Mem.head _|apply List.Mem.tail)));(focus(repeat(first|exact List.Mem.head _|apply List.Mem.tail)));omega
    try (focus(exact HG0.out))
    first
     |rintro e wn ⟨an,nn,cn,rfl,hb⟩
     |(
      rintro e wn ⟨r,aT,nT,cT,t,rfl,hb,ht⟩;have HT:=Hi ht
      clear ht)
    clear HR;have HR:=Hi hb;clear hb;have kx0:=ce HR.out.base ltx KX0.out;have kx1:=ce HR.out.base ltx KX1.out;have kx2:=ce HR.out.base ltx KX2.out;have ky0:=ce HR.out.base lty KY0.out;have ky1:=ce HR.out.base lty KY1.out;have ky2:=ce HR.out.base lty KY2.out
    skip))
 have hE:=Qot HX.out.neg HY.out.neg HT.out;have hH0:0<Nat.gcd t (Nat.gcd p.den q.den):=Nat.gcd_pos_of_pos_right _ HG0.out;have HZ:=Hi (HR.out.get (List.Mem.head _)).1.zero_iff;have HH0:=Hi hH0;have HE:=Hi hE.1;have HCP:=Hi hE.2;have HK0:=Hi (show 0<p.den / Nat.gcd p.den q.den*(q.den / Nat.gcd t (Nat.gcd p.den q.den)) from Nat.mul_pos (Nat.div_pos (Nat.gcd_le_left _ p.den_pos) HG0.out) (Nat.div_pos (Nat.le_trans (Nat.gcd_le_right _ HG0.out) (Nat.gcd_le_right _ q.den_pos)) hH0));clear hE hH0;by_cases ht0:t=0
 ·
  have hn0:((nT:Int) == 0)=true:=by have:=HZ.out.1 ht0;simp[this]
  have HZERO:Hid (p+q=0):=Hi (by rw[<-HE.out,ht0,Nat.zero_div,Qh4,Rat.zero_mkRat]);clear HE HCP ht0;have hs:=HS.out.below HR.out.base HS.out.lt;have k0:=hs.cell 0;have k1:=hs.cell 1;have k2:=hs.cell 2;have f0:=hs.free 0;have f1:=hs.free 1;have f2:=hs.free 2;simp[zeroFrac] at k0 k1 k2;have HS9:=Hi hs;have HB9:=Hi (HBP.out.trans (HR.out.base.mono HBP.out.size));clear hs HR;go_wp2;refine bodyPost_ret (v:=.agg #[.bool false,.slice none 0 0,.slice none 0 0]) (results_cell_row rfl _ _ (w.heap.size+1+1) 103 #[.bool false,.slice none 0 0,.slice none 0 0] (0,0) _ rfl (((HS9.out.set 0 _).set 1 _).set 2 _) Tryz.underlying103 rfl Tryz.fracInfo) rfl ?_;have ho:=(((Only.refl (w.heap.size+1+1) wn).setCell 0 (.bool false)).setCell 1 (.slice none 0 0)).setCell 2 (.slice none 0 0);exact⟨⟨_,rfl,by first|exact FracV.zero _|(rw [HZERO.out];exact FracV.zero _)⟩,Only.fresh HB9.out ho (by omega)⟩
 ·
  have hn0:((nT:Int) == 0)=false:=by rw[beq_eq_false_iff_ne];have:=HZ.out.2;omega
  clear ht0;go_wp2_with
   ((skip
     first
      |(
       go_at_call 85;apply cM
       apply NBag.gcd (w0:=wA))
      |(
       go_at_call 86;apply cM
       apply NBag.quot (w0:=wA))
      |(
       go_at_call 88;apply cM
       apply NBag.mul (w0:=wA))
      |(
       go_at_call 87;apply cM
       apply NBag.addSigned (w0:=wA))
     (focus(first|exact HR.out|exact HR.out.drew|exact HR.out.drew.drew));(focus(repeat(first|exact List.Mem.head _|apply List.Mem.tail)));(focus(repeat(first|exact List.Mem.head _|apply List.Mem.tail)));omega
     try (focus(first|exact HG0.out|exact HH0.out))
     first
      |rintro e wn ⟨an,nn,cn,rfl,hb⟩
      |(
       rintro e wn ⟨r,aT,nT,cT,t,rfl,hb,ht⟩;have HT:=Hi ht
       clear ht)
     clear HR;have HR:=Hi hb;clear hb;have kx0:=ce HR.out.base ltx KX0.out;have kx1:=ce HR.out.base ltx KX1.out;have kx2:=ce HR.out.base ltx KX2.out;have ky0:=ce HR.out.base lty KY0.out;have ky1:=ce HR.out.base lty KY1.out;have ky2:=ce HR.out.base lty KY2.out
     skip))
  have HS':=Hi (HS.out.below HR.out.base HS.out.lt);have HBP':=Hi (HBP.out.trans (HR.out.base.mono HBP.out.size));clear HS HBP;have HS:=HS';have HBP:=HBP';clear HS' HBP';apply cM;apply NBag.built (w0:=wA) HR.out;(focus(repeat(first|exact List.Mem.head _|apply List.Mem.tail)));(focus(repeat(first|exact List.Mem.head _|apply List.Mem.tail)));(focus(exact HK0.out));(focus(exact HCP.out));rw[HE.out];rintro e w9 ⟨⟨v9,rfl,hv⟩,hb⟩;obtain⟨neg9,a9,n9,c9,b9,m9,d9,rfl,hv⟩:=hv;have hs:=HS.out.below hb HS.out.lt;have k0:=hs.cell 0;have k1:=hs.cell 1;have k2:=hs.cell 2;have f0:=hs.free 0;have f1:=hs.free 1;have f2:=hs.free 2;simp[zeroFrac] at k0 k1 k2;have HV:=Hi hv;have HS9:=Hi hs;have HB9:=Hi (HBP.out.trans (hb.mono HBP.out.size));clear hv hs hb;go_wp2
  refine bodyPost_ret (v:=.agg #[.bool neg9,.slice a9 n9 c9,.slice b9 m9 d9]) (results_cell_row rfl _ _ (w.heap.size+1+1) 103 #[.bool neg9,.slice a9 n9 c9,.slice b9 m9 d9] (0,0) _ rfl (((HS9.out.set 0 _).set 1 _).set 2 _) Tryz.underlying103 rfl Tryz.fracInfo) rfl ?_;have ho:=(((Only.refl (w.heap.size+1+1) w9).setCell 0 (.bool neg9)).setCell 1 (.slice a9 n9 c9)).setCell 2 (.slice b9 m9 d9);exact⟨⟨_,rfl,neg9,a9,n9,c9,b9,m9,d9,rfl,HV.out.only ho HS9.out Qbg⟩,Only.fresh HB9.out ho (by omega)⟩
theorem Qou{v1 v2:Value}{i j:Nat}{p q:Rat}{w:World}(hx:FracV w v1 p)(hy:FracV w v2 q)(hp:Fits p i)(hq:Fits q j)(hij:i+j<68719476000):Calls Tryz.prog 49 #[v1,v2] w (FNew w (p+q)):=by
 obtain⟨nx,ax,lx,cx,bx,mx,dx,rfl,hx⟩:=hx;obtain⟨ny,ay,ly,cy,b2,my,dy,rfl,hy⟩:=hy;exact Qh7 nx ny ax bx ay b2 lx cx mx dx ly cy my dy i j p q w hx hy hp hq hij
theorem Qdl{v1 v2:Value}{i j:Nat}{p q:Rat}{w:World}(hx:FracV w v1 p)(hy:FracV w v2 q)(hp:Fits p i)(hq:Fits q j)(hij:i+j<68719476000):Calls Tryz.prog 96 #[v1,v2] w (FNew w (p*q)):=by
 obtain⟨nx,ax,lx,cx,bx,mx,dx,rfl,hx⟩:=hx;obtain⟨ny,ay,ly,cy,b2,my,dy,rfl,hy⟩:=hy;exact Qh3 nx ny ax bx ay b2 lx cx mx dx ly cy my dy i j p q w hx hy hp hq hij
set_option maxRecDepth 100000 in
set_option maxHeartbeats 1000000 in
theorem Qov(nx ny:Bool)(ax bx ay b2:Option Addr)(lx cx mx dx ly cy my dy i j:Nat)(p q:Rat)(w:World)(hx:FracAt w nx ax lx cx bx mx dx p)(hy:FracAt w ny ay ly cy b2 my dy q)(hp:Fits p i)(hq:Fits q j)(hij:i+j<68719476000):
 Calls Tryz.prog 50 #[.agg #[.bool nx,.slice ax lx cx,.slice bx mx dx],.agg #[.bool ny,.slice ay ly cy,.slice b2 my dy]] w (FNew w (p - q)):=by
 rw[Rat.sub_eq_add_neg];have HX:=Hi hx;have HY:=Hi hy;have HPF:=Hi hp;have HQF:=Hi hq;obtain⟨CX,hCX⟩:=nm (#[Value.bool nx,.slice ax lx cx,.slice bx mx dx]);obtain⟨CY,hCY⟩:=nm (#[Value.bool ny,.slice ay ly cy,.slice b2 my dy]);have HR:=Hi ((((((NBag.start hx.top hy.top hp.1 hq.1).alloc (.cells CX 103)).alloc (.cells CY 103)).alloc (.cells zeroFrac 103)).rebase));have HS:=Hi (SB.new3 w 103 103 103 CX CY zeroFrac);have HSY:=Hi ((SB.new2 w 103 103 CX CY).alloc (.cells zeroFrac 103));have HSX:=Hi (((SB.new w 103 CX).alloc (.cells CY 103)).alloc (.cells zeroFrac 103));have HBP:=Hi (Below.new3 w (.cells CX 103) (.cells CY 103) (.cells zeroFrac 103));obtain⟨wA,hwA⟩:=nm ((((w.alloc (.cells CX 103)).alloc (.cells CY 103)).alloc (.cells zeroFrac 103)));rw[hwA] at HR HS HSY HSX HBP;subst hCX hCY;have HLX:=Hi (hx.low.below HBP.out);have HLY:=Hi (hy.low.below HBP.out)
 have ltx:=HSX.out.lt;have lty:=HSY.out.lt;have KX0:=Hi (HSX.out.cell 0);have KX1:=Hi (HSX.out.cell 1);have KX2:=Hi (HSX.out.cell 2);have KY0:=Hi (HSY.out.cell 0);have KY1:=Hi (HSY.out.cell 1);have KY2:=Hi (HSY.out.cell 2);simp at KX0 KX1 KX2 KY0 KY1 KY2;have HWA:=Hi hwA;have nxr:w.heap.size+1+1≠w.heap.size:=by omega
 have nyr:w.heap.size+1+1≠w.heap.size+1:=by omega
 clear hx hy hp hq hwA;go_enter Tryz.func50,Tryz.ntmps50;have kx0:=ce HR.out.base ltx KX0.out;have kx1:=ce HR.out.base ltx KX1.out;have kx2:=ce HR.out.base ltx KX2.out;have ky0:=ce HR.out.base lty KY0.out;have ky1:=ce HR.out.base lty KY1.out;have ky2:=ce HR.out.base lty KY2.out;go_wp2_with fail;rw[show (((w.alloc (.cells #[.bool nx,.slice ax lx cx,.slice bx mx dx] 103)).alloc (.cells #[.bool ny,.slice ay ly cy,.slice b2 my dy] 103)).alloc (.cells #[.bool false,.slice none 0 0,.slice none 0 0] 103))=wA from HWA.out];have HFP:=HPF;have HFQ:=Hi HQF.out.neg;have HXA:=Hi (HX.out.below HBP.out);have HYA:=Hi (HY.out.below HBP.out);go_region_held3
  (fun w'=>w'.cell? ⟨w.heap.size,0,none⟩=some (.bool nx)/\w'.cell? ⟨w.heap.size,1,none⟩=some (.slice ax lx cx)/\w'.cell? ⟨w.heap.size,2,none⟩=some (.slice bx mx dx)/\w'.cell? ⟨w.heap.size+1,0,none⟩=some (.bool ny)/\w'.cell? ⟨w.heap.size+1,1,none⟩=some (.slice ay ly cy)/\w'.cell? ⟨w.heap.size+1,2,none⟩=some (.slice b2 my dy)) ((first|(simp [*];done)|go_keep))
  (first
  |(
   go_at_call 90;apply cM;apply Qoi;(focus(first|exact HYA.out|exact HYA.out.drew|exact HYA.out.drew.drew));rintro e w4 ⟨⟨v4,rfl,hv⟩,hb⟩;obtain⟨neg4,a4,n4,c4,b4,m4,d4,rfl,hv⟩:=hv;have HYC:=Hi hv
   first
    |have HBC:Hid (Below wA.heap.size wA w4):=Hi hb
    |have HBC:Hid (Below wA.heap.size wA w4):=Hi ((Below.refl _ wA).drew.trans hb)
    |have HBC:Hid (Below wA.heap.size wA w4):=Hi ((Below.refl _ wA).drew.drew.trans hb)
   have HXC:=Hi (HXA.out.below HBC.out);clear hv hb HR;have kx0:=ce HBC.out ltx KX0.out;have kx1:=ce HBC.out ltx KX1.out;have kx2:=ce HBC.out ltx KX2.out;have ky0:=ce HBC.out lty KY0.out;have ky1:=ce HBC.out lty KY1.out;have ky2:=ce HBC.out lty KY2.out
   skip)
  |
   (go_at_call 49
    apply cM;apply Qh7 (i:=i) (j:=j);(focus(first|exact HXC.out|exact HXC.out.drew|exact HXC.out.drew.drew));(focus(first|exact HYC.out|exact HYC.out.drew|exact HYC.out.drew.drew));(focus(exact HFP.out));(focus(exact HFQ.out));omega;rintro e w9 ⟨⟨v9,rfl,hv⟩,hb⟩;obtain⟨neg9,a9,n9,c9,b9,m9,d9,rfl,hv⟩:=hv
    first
     |have hb9:=HBC.out.trans (hb.mono HBC.out.size)
     |have hb9:=HBC.out.drew.trans (hb.mono HBC.out.size)
     |have hb9:=HBC.out.drew.drew.trans (hb.mono HBC.out.size)
    have hs:=HS.out.below hb9 HS.out.lt;have k0:=hs.cell 0;have k1:=hs.cell 1;have k2:=hs.cell 2;have f0:=hs.free 0;have f1:=hs.free 1;have f2:=hs.free 2;have kx0:=ce hb9 ltx KX0.out;have kx1:=ce hb9 ltx KX1.out;have kx2:=ce hb9 ltx KX2.out;have ky0:=ce hb9 lty KY0.out;have ky1:=ce hb9 lty KY1.out;have ky2:=ce hb9 lty KY2.out;simp[zeroFrac] at k0 k1 k2;have HV:=Hi hv;have HS9:=Hi hs;have HB9:=Hi (HBP.out.trans (hb9.mono HBP.out.size))
    clear hv hs hb hb9)
  )
 all_goals
  go_wp2;refine bodyPost_ret (v:=.agg #[.bool neg9,.slice a9 n9 c9,.slice b9 m9 d9]) (results_cell_row rfl _ _ (w.heap.size+1+1) 103 #[.bool neg9,.slice a9 n9 c9,.slice b9 m9 d9] (0,0) _ rfl (((HS9.out.set 0 _).set 1 _).set 2 _) Tryz.underlying103 rfl Tryz.fracInfo) rfl ?_;have ho:=(((Only.refl (w.heap.size+1+1) w9).setCell 0 (.bool neg9)).setCell 1 (.slice a9 n9 c9)).setCell 2 (.slice b9 m9 d9);exact⟨⟨_,rfl,neg9,a9,n9,c9,b9,m9,d9,rfl,HV.out.only ho HS9.out Qbg⟩,Only.fresh HB9.out ho (by omega)⟩
theorem Qow(q:Rat)(hq:q≠0){ny:Bool}(hn:ny=decide (q.num<0)):mkRat (sgn ny q.den) q.num.natAbs=q⁻¹:=by rw[hn];exact(Qh6 hq).1
theorem Fits.inv{q:Rat}{j:Nat}(h:Fits q j)(hq:q≠0):Fits q⁻¹ j:=by
 obtain⟨h1,h2,h3⟩:=Qh6 hq;obtain⟨e1,e2⟩:=Qh5 (neg:=decide (q.num<0)) h3 h2;rw[h1] at e1 e2;exact⟨by rw[e1,Qdn];exact h.2,by rw[e2];exact h.1⟩
set_option maxRecDepth 100000 in
set_option maxHeartbeats 1000000 in
theorem Qox(nx ny:Bool)(ax bx ay b2:Option Addr)(lx cx mx dx ly cy my dy i j:Nat)(p q:Rat)(w:World)(hx:FracAt w nx ax lx cx bx mx dx p)(hy:FracAt w ny ay ly cy b2 my dy q)(hp:Fits p i)(hq:Fits q j)(hij:i+j<68719476000):
 Calls Tryz.prog 115 #[.agg #[.bool nx,.slice ax lx cx,.slice bx mx dx],.agg #[.bool ny,.slice ay ly cy,.slice b2 my dy]] w (FNew w (p / q)):=by
 have HX:=Hi hx;have HY:=Hi hy;have HPF:=Hi hp;have HQF:=Hi hq;obtain⟨CX,hCX⟩:=nm (#[Value.bool nx,.slice ax lx cx,.slice bx mx dx]);obtain⟨CY,hCY⟩:=nm (#[Value.bool ny,.slice ay ly cy,.slice b2 my dy]);have HR:=Hi ((((((NBag.start hx.top hy.top hp.1 hq.1).alloc (.cells CX 103)).alloc (.cells CY 103)).alloc (.cells zeroFrac 103)).rebase));have HS:=Hi (SB.new3 w 103 103 103 CX CY zeroFrac);have HSY:=Hi ((SB.new2 w 103 103 CX CY).alloc (.cells zeroFrac 103));have HSX:=Hi (((SB.new w 103 CX).alloc (.cells CY 103)).alloc (.cells zeroFrac 103));have HBP:=Hi (Below.new3 w (.cells CX 103) (.cells CY 103) (.cells zeroFrac 103));obtain⟨wA,hwA⟩:=nm ((((w.alloc (.cells CX 103)).alloc (.cells CY 103)).alloc (.cells zeroFrac 103)));rw[hwA] at HR HS HSY HSX HBP;subst hCX hCY;have HLX:=Hi (hx.low.below HBP.out);have HLY:=Hi (hy.low.below HBP.out);have ltx:=HSX.out.lt
 have lty:=HSY.out.lt;have KX0:=Hi (HSX.out.cell 0);have KX1:=Hi (HSX.out.cell 1);have KX2:=Hi (HSX.out.cell 2);have KY0:=Hi (HSY.out.cell 0);have KY1:=Hi (HSY.out.cell 1);have KY2:=Hi (HSY.out.cell 2);simp at KX0 KX1 KX2 KY0 KY1 KY2;have HWA:=Hi hwA;have nxr:w.heap.size+1+1≠w.heap.size:=by omega
 have nyr:w.heap.size+1+1≠w.heap.size+1:=by omega
 clear hx hy hp hq hwA;by_cases hq0:q.num.natAbs=0
 ·
  have hqz:q=0:=Rat.num_eq_zero.1 (by omega);rw[show p / q=0 by rw[hqz,Rat.div_def,Rat.inv_zero,Rat.mul_zero]];go_enter Tryz.func115,Tryz.ntmps115;have kx0:=ce HR.out.base ltx KX0.out;have kx1:=ce HR.out.base ltx KX1.out;have kx2:=ce HR.out.base ltx KX2.out;have ky0:=ce HR.out.base lty KY0.out;have ky1:=ce HR.out.base lty KY1.out;have ky2:=ce HR.out.base lty KY2.out;go_wp2_with fail;rw[show (((w.alloc (.cells #[.bool nx,.slice ax lx cx,.slice bx mx dx] 103)).alloc (.cells #[.bool ny,.slice ay ly cy,.slice b2 my dy] 103)).alloc (.cells #[.bool false,.slice none 0 0,.slice none 0 0] 103))=wA from HWA.out];apply cM;apply NBag.isZero (w0:=wA) HR.out
  (focus(repeat(first|exact List.Mem.head _|apply List.Mem.tail)));rw[(decide_eq_true hq0)];rintro e w2 ⟨rfl,hb⟩;have hs:=HS.out.below hb.base HS.out.lt;have k0:=hs.cell 0;have k1:=hs.cell 1;have k2:=hs.cell 2;have f0:=hs.free 0;have f1:=hs.free 1;have f2:=hs.free 2;simp[zeroFrac] at k0 k1 k2;have HS9:=Hi hs;have HB9:=Hi (HBP.out.trans (hb.base.mono HBP.out.size));clear hb hs HR;go_wp2;refine bodyPost_ret (v:=.agg #[.bool false,.slice none 0 0,.slice none 0 0]) (results_cell_row rfl _ _ (w.heap.size+1+1) 103 #[.bool false,.slice none 0 0,.slice none 0 0] (0,0) _ rfl (((HS9.out.set 0 _).set 1 _).set 2 _) Tryz.underlying103 rfl Tryz.fracInfo) rfl ?_;have ho:=(((Only.refl (w.heap.size+1+1) w2).setCell 0 (.bool false)).setCell 1 (.slice none 0 0)).setCell 2 (.slice none 0 0);exact⟨⟨_,rfl,FracV.zero _⟩,Only.fresh HB9.out ho (by omega)⟩
 ·
  have hqz:q≠0:=fun h=>hq0 (by rw[h];rfl)
  go_enter Tryz.func115,Tryz.ntmps115;have kx0:=ce HR.out.base ltx KX0.out;have kx1:=ce HR.out.base ltx KX1.out;have kx2:=ce HR.out.base ltx KX2.out;have ky0:=ce HR.out.base lty KY0.out;have ky1:=ce HR.out.base lty KY1.out;have ky2:=ce HR.out.base lty KY2.out;go_wp2_with fail;rw[show (((w.alloc (.cells #[.bool nx,.slice ax lx cx,.slice bx mx dx] 103)).alloc (.cells #[.bool ny,.slice ay ly cy,.slice b2 my dy] 103)).alloc (.cells #[.bool false,.slice none 0 0,.slice none 0 0] 103))=wA from HWA.out];apply cM;apply NBag.isZero (w0:=wA) HR.out;(focus(repeat(first|exact List.Mem.head _|apply List.Mem.tail)));rw[(decide_eq_false hq0)];rintro e w2 ⟨rfl,hb⟩;clear HR
  have HR:=Hi hb;clear hb;have kx0:=ce HR.out.base ltx KX0.out;have kx1:=ce HR.out.base ltx KX1.out;have kx2:=ce HR.out.base ltx KX2.out;have ky0:=ce HR.out.base lty KY0.out;have ky1:=ce HR.out.base lty KY1.out;have ky2:=ce HR.out.base lty KY2.out;go_wp2_with fail;rw[Rat.div_def];have HIN:=Hi (Qow q hqz HY.out.neg);have HCQ:=Hi (Nat.Coprime.symm q.reduced);have HN0:=Hi (show 0<q.num.natAbs by omega);have HFP:=HPF;have HFQ:=Hi (HQF.out.inv hqz);have HXA:=Hi (HX.out.below HBP.out);clear hqz hq0;go_region_held3
   (fun w'=>w'.cell? ⟨w.heap.size,0,none⟩=some (.bool nx)/\w'.cell? ⟨w.heap.size,1,none⟩=some (.slice ax lx cx)/\w'.cell? ⟨w.heap.size,2,none⟩=some (.slice bx mx dx)/\w'.cell? ⟨w.heap.size+1,0,none⟩=some (.bool ny)/\w'.cell? ⟨w.heap.size+1,1,none⟩=some (.slice ay ly cy)/\w'.cell? ⟨w.heap.size+1,2,none⟩=some (.slice b2 my dy)) ((first|(simp [*];done)|go_keep))
   (first
   |
    (go_at_call_of 84 (Value.agg #[.bool ny,.slice ay ly cy,.slice b2 my dy])
     apply cM;apply NBag.under (w0:=wA) (hl:=HLY.out) (hk:=HQF.out.2);(focus(first|exact HR.out|exact HR.out.drew|exact HR.out.drew.drew));rintro e w3 ⟨aB,nB,cB,rfl,hb⟩;clear HR;have HR:=Hi hb;clear hb;have kx0:=ce HR.out.base ltx KX0.out;have kx1:=ce HR.out.base ltx KX1.out;have kx2:=ce HR.out.base ltx KX2.out;have ky0:=ce HR.out.base lty KY0.out;have ky1:=ce HR.out.base lty KY1.out;have ky2:=ce HR.out.base lty KY2.out
     skip)
   |(
    go_at_call 89;apply cM;apply NBag.built (w0:=wA);(focus(first|exact HR.out|exact HR.out.drew|exact HR.out.drew.drew));(focus(repeat(first|exact List.Mem.head _|apply List.Mem.tail)));(focus(repeat(first|exact List.Mem.head _|apply List.Mem.tail)));(focus(exact HN0.out));(focus(exact HCQ.out));rw[HIN.out];rintro e w4 ⟨⟨v4,rfl,hv⟩,hb⟩;obtain⟨neg4,a4,n4,c4,b4,m4,d4,rfl,hv⟩:=hv;have HYC:=Hi hv
    first
     |have HBC:Hid (Below wA.heap.size wA w4):=Hi (HR.out.base.trans (hb.mono HR.out.base.size))
     |have HBC:Hid (Below wA.heap.size wA w4):=Hi (HR.out.base.drew.trans (hb.mono HR.out.base.size))
     |have HBC:Hid (Below wA.heap.size wA w4):=Hi (HR.out.base.drew.drew.trans (hb.mono HR.out.base.size))
    have HXC:=Hi (HXA.out.below HBC.out);clear hv hb HR;have kx0:=ce HBC.out ltx KX0.out;have kx1:=ce HBC.out ltx KX1.out;have kx2:=ce HBC.out ltx KX2.out;have ky0:=ce HBC.out lty KY0.out;have ky1:=ce HBC.out lty KY1.out;have ky2:=ce HBC.out lty KY2.out
    skip)
   |
    (go_at_call 96
     apply cM;apply Qh3 (i:=i) (j:=j);(focus(first|exact HXC.out|exact HXC.out.drew|exact HXC.out.drew.drew));(focus(first|exact HYC.out|exact HYC.out.drew|exact HYC.out.drew.drew));(focus(exact HFP.out));(focus(exact HFQ.out));omega;rintro e w9 ⟨⟨v9,rfl,hv⟩,hb⟩;obtain⟨neg9,a9,n9,c9,b9,m9,d9,rfl,hv⟩:=hv
     first
      |have hb9:=HBC.out.trans (hb.mono HBC.out.size)
      |have hb9:=HBC.out.drew.trans (hb.mono HBC.out.size)
      |have hb9:=HBC.out.drew.drew.trans (hb.mono HBC.out.size)
     have hs:=HS.out.below hb9 HS.out.lt;have k0:=hs.cell 0;have k1:=hs.cell 1;have k2:=hs.cell 2;have f0:=hs.free 0;have f1:=hs.free 1;have f2:=hs.free 2;have kx0:=ce hb9 ltx KX0.out;have kx1:=ce hb9 ltx KX1.out;have kx2:=ce hb9 ltx KX2.out;have ky0:=ce hb9 lty KY0.out;have ky1:=ce hb9 lty KY1.out;have ky2:=ce hb9 lty KY2.out;simp[zeroFrac] at k0 k1 k2;have HV:=Hi hv;have HS9:=Hi hs;have HB9:=Hi (HBP.out.trans (hb9.mono HBP.out.size))
     clear hv hs hb hb9)
   )
  all_goals
   go_wp2;refine bodyPost_ret (v:=.agg #[.bool neg9,.slice a9 n9 c9,.slice b9 m9 d9]) (results_cell_row rfl _ _ (w.heap.size+1+1) 103 #[.bool neg9,.slice a9 n9 c9,.slice b9 m9 d9] (0,0) _ rfl (((HS9.out.set 0 _).set 1 _).set 2 _) Tryz.underlying103 rfl Tryz.fracInfo) rfl ?_;have ho:=(((Only.refl (w.heap.size+1+1) w9).setCell 0 (.bool neg9)).setCell 1 (.slice a9 n9 c9)).setCell 2 (.slice b9 m9 d9);exact⟨⟨_,rfl,neg9,a9,n9,c9,b9,m9,d9,rfl,HV.out.only ho HS9.out Qbg⟩,Only.fresh HB9.out ho (by omega)⟩
theorem Qdm{v1 v2:Value}{i j:Nat}{p q:Rat}{w:World}(hx:FracV w v1 p)(hy:FracV w v2 q)(hp:Fits p i)(hq:Fits q j)(hij:i+j<68719476000):Calls Tryz.prog 50 #[v1,v2] w (FNew w (p - q)):=by
 obtain⟨nx,ax,lx,cx,bx,mx,dx,rfl,hx⟩:=hx;obtain⟨ny,ay,ly,cy,b2,my,dy,rfl,hy⟩:=hy;exact Qov nx ny ax bx ay b2 lx cx mx dx ly cy my dy i j p q w hx hy hp hq hij
theorem Qb4{v1 v2:Value}{i j:Nat}{p q:Rat}{w:World}(hx:FracV w v1 p)(hy:FracV w v2 q)(hp:Fits p i)(hq:Fits q j)(hij:i+j<68719476000):Calls Tryz.prog 115 #[v1,v2] w (FNew w (p / q)):=by
 obtain⟨nx,ax,lx,cx,bx,mx,dx,rfl,hx⟩:=hx;obtain⟨ny,ay,ly,cy,b2,my,dy,rfl,hy⟩:=hy;exact Qox nx ny ax bx ay b2 lx cx mx dx ly cy my dy i j p q w hx hy hp hq hij
theorem Qbn{v1:Value}{p:Rat}{w:World}(hx:FracV w v1 p):Calls Tryz.prog 79 #[v1] w fun e w'=>e=.returned (.bool (decide (p=0)))/\Below w.heap.size w w':=by
 obtain⟨nx,ax,lx,cx,bx,mx,dx,rfl,hx⟩:=hx;have e:decide (p.num.natAbs=0)=decide (p=0):=by
  by_cases h:p=0
  · subst h;rfl
  · have:p.num≠0:=fun hc=>h (Rat.num_eq_zero.1 hc)
    rw[decide_eq_false h,decide_eq_false (by omega)]
 rw[<-e];exact Qh2 nx ax bx lx cx mx dx _ w hx.top
end Go.Proofs.YtfpcipgoedifaaaGreatDoor
