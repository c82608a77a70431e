/- num's manySteps, none, apply. -/
import Derived.Test.YtbbkamnfjejceaaGreatDoorS26NatHigh
namespace Go.Proofs.YtbbkamnfjejceaaGreatDoor
open Go.RowKit
set_option linter.unusedVariables false
set_option linter.unusedSimpArgs false
theorem SB.apart{w:World}{b g:Nat}{t:TypeId}{C:Array Value}(h:SB w b t C)(hne:b≠g)(i:Nat)(v:Value):SB (w.setCell ⟨g,i,none⟩ v) b t C:=by
 unfold SB at h ⊢;rw[Below.heap_setCell _ _ _ _ hne];exact h
def StepsVal(odd:Bool)(xx xy yx yy:Nat):Value:=.agg #[.int .u64 xx,.int .u64 xy,.int .u64 yx,.int .u64 yy,.bool odd]
structure Steps (x y:Nat) (odd:Bool) (xx xy yx yy:Nat):Prop where
 bxx:xx<18446744073709551616
 bxy:xy<18446744073709551616
 byx:yx<18446744073709551616
 byy:yy<18446744073709551616
 go:0<xy→∃X Y,Lehm odd xx xy yx yy x y X Y
def StepsSaid(x y:Nat)(w:World)(e:Ending)(w':World):Prop:=(∃odd xx xy yx yy,e=.returned (StepsVal odd xx xy yx yy)∧Steps x y odd xx xy yx yy)∧Below w.heap.size w w'
theorem LInv.small{a0 b0 st:Nat}{odd:Bool}{xx xy yx yy nX nY a b pa:Nat}(h:LInv a0 b0 st odd xx xy yx yy nX nY a b pa)(hb:1≤b):nX≤a0∧nY+yy≤a0∧yx≤a0+1:=by
 have h1:=h.whole;have h2:=h.ab;have h3:nY*1≤nY*a:=Nat.mul_le_mul_left _ (by omega);have h4:yy*1≤yy*b:=Nat.mul_le_mul_left _ hb;have h5:=h.n1;have h6:yx≤yy+1:=by
  rcases(show st=0∨1≤st by omega) with h0|h0
  · have:=h.s0 h0;omega
  · have:=h.s1 h0;omega
 refine⟨by omega,by omega,by have:=h.n2;omega⟩
theorem LInv.step{a0 b0 st:Nat}{odd:Bool}{xx xy yx yy nX nY a b pa:Nat}(h:LInv a0 b0 st odd xx xy yx yy nX nY a b pa)(hb:nY≤b)(hab:b+yy+nY≤a):∃q r u v nX' nY':Nat,(a:Int) / (b:Int)=(q:Int)∧Int.tdiv (a:Int) (b:Int)=(q:Int)∧(a:Int) % (b:Int)=(r:Int)∧Int.tmod (a:Int) (b:Int)=(r:Int)∧(q:Int)*(nX:Int)=(u:Int)∧(q:Int)*(nY:Int)=(v:Int)∧(yx:Int)+(u:Int)=(nX':Int)∧(yy:Int)+(v:Int)=(nY':Int)∧
 nX'≤a0∧nY'≤a0∧u≤nX'∧v≤nY'∧r<b∧q≤a∧LInv a0 b0 (min (st+1) 2) (!odd) yx yy nX nY nX' nY' b r a:=by
 have hn2:=h.n2;have hq:a / b*b+a % b=a:=by rw[Nat.mul_comm];exact Nat.div_add_mod a b
 have hr:a % b<b:=Nat.mod_lt _ (by omega);have hq1:1≤a / b:=(Nat.one_le_div_iff (by omega)).2 (by omega);have hN:=h.next hb hab hq hr hq1;have hw:=hN.whole;have h1:=hN.n1;have h2:(yy+a / b*nY)*1≤(yy+a / b*nY)*b:=Nat.mul_le_mul_left _ (by omega);refine⟨a / b,a % b,a / b*nX,a / b*nY,yx+a / b*nX,yy+a / b*nY,rfl,rfl,rfl,rfl,(Int.natCast_mul _ _).symm,(Int.natCast_mul _ _).symm,(Int.natCast_add _ _).symm,(Int.natCast_add _ _).symm,by omega,by omega,by omega,by omega,hr,Nat.div_le_self _ _,hN⟩
theorem Tryz.stepsInfo:(Tryz.prog.info? 240).map (·.size)=some 5:=by kernel_rfl
theorem LInv.steps{a0 b0 st:Nat}{odd:Bool}{xx xy yx yy nX nY a b pa P x' y' x y:Nat}(h:LInv a0 b0 st odd xx xy yx yy nX nY a b pa)(H:Highs x y a0 b0 P x' y')(hxx:xx<18446744073709551616)(hxy:xy<18446744073709551616)(hyx:yx<18446744073709551616)(hyy:yy<18446744073709551616):Steps x y odd xx xy yx yy:=by
 refine⟨by omega,by omega,by omega,by omega,fun h0=>?_⟩;rcases(show st=0∨st=1∨2≤st by omega) with h1|h1|h1
 · have:=h.s0 h1;omega
 · have:=h.s2 h1;omega
 · exact h.done h1 H.hx H.hy H.hx' H.hy'
set_option maxRecDepth 100000 in
set_option maxHeartbeats 1000000 in
theorem Ql9(a1 a2:Option Addr)(c1 c2 N:Nat)(l m:List Nat)(x y:Nat)(w:World)(h1:U64 w a1 c1 l x)(h2:U64 w a2 c2 m y)(hle:y≤x)(hl:l.length=N+2):
 Calls Tryz.prog 184 #[.slice a1 l.length c1,.slice a2 m.length c2] w (StepsSaid x y w):=by
 obtain⟨a0,b0,⟨P,x',y',hH⟩,hC⟩:=Ql5 N l m x y h1.num h2.num hle hl h1.short;have HC:=Hi hC;have HH:=Hi hH;have ha0:=hH.ha;have hb0:=hH.ab;have H1:=Hi h1;have H2:=Hi h2;clear hH hC h1 h2 hle hl;go_enter Tryz.func184,Tryz.ntmps184;go_wp2_with fail;go_fit (HC.out a1 a2 c1 c2 _ (H1.out.below ((Below.refl _ _).alloc (Nat.le_refl _) _)) (H2.out.below ((Below.refl _ _).alloc (Nat.le_refl _) _)));rintro e w1 ⟨rfl,hb⟩;have HB:Hid (Below w.heap.size w w1):=Hi (((Below.refl _ _).alloc (Nat.le_refl _) _).trans (hb.mono (by rw[World.size_alloc];omega)));have hs:=SB.below (SB.new w _ _) hb (by rw[World.size_alloc];omega);obtain⟨R,hR⟩:∃R,w.heap.size=R:=⟨_,rfl⟩;obtain⟨g,hg⟩:∃g,w1.heap.size=g:=⟨_,rfl⟩;have hRg:R<g:=by rw[←hg,←hR];exact hs.lt
 have HS:=Hi hs;rw[hR] at HB HS;clear hb HC hs;go_wp2_with fail
 try rw[hg]
 try rw[hR]
 have HG:=Hi hg;have HR:=Hi hR;clear hg hR;go_loopw [5,6,8,9] (fun av bv nxv nyv wr=>∃(st:Nat) (odd:Bool) (xx xy yx yy nX nY a b pa:Nat),av=.int .u64 a∧bv=.int .u64 b∧nxv=.int .u64 nX∧nyv=.int .u64 nY∧a≤a0∧nX<18446744073709551616∧nY<18446744073709551616∧xx<18446744073709551616∧xy<18446744073709551616∧yx<18446744073709551616∧yy<18446744073709551616∧LInv a0 b0 st odd xx xy yx yy nX nY a b pa∧
  SB wr g 240 #[.int .u64 xx,.int .u64 xy,.int .u64 yx,.int .u64 yy,.bool odd]∧SB wr R 240 #[.int .u64 0,.int .u64 0,.int .u64 0,.int .u64 0,.bool false]∧Below R w wr) (fun _ bv _ _ _=>(intOf bv).toNat)
 case atStart=>
  refine⟨0,true,0,0,1,0,0,1,a0,b0,0,rfl,rfl,rfl,rfl,by omega,by omega,by omega,by omega,by omega,by omega,by omega,LInv.start a0 b0 hb0,?_,HS.out.alloc _,HB.out.alloc (by rw[HG.out];omega) _⟩;rw[←HG.out];exact SB.new _ _ _
 case round=>
  obtain⟨st,odd,xx,xy,yx,yy,nX,nY,a,b,pa,rfl,rfl,rfl,rfl,haa,hnx,hny,hxx,hxy,hyx,hyy,hL,hs,hr,hb⟩:=hrel;have HL:=Hi hL;have HS2:=Hi hs;have HR2:=Hi hr;have HB2:=Hi hb;have k0:=hs.cell 0;have k1:=hs.cell 1;have k2:=hs.cell 2;have k3:=hs.cell 3;have k4:=hs.cell 4;have f0:=hs.free 0;have f1:=hs.free 1;have f2:=hs.free 2;have f3:=hs.free 3;have f4:=hs.free 4;have r0:=hr.cell 0;have r1:=hr.cell 1;have r2:=hr.cell 2;have r3:=hr.cell 3;have r4:=hr.cell 4;have q0:=hr.free 0;have q1:=hr.free 1;have q2:=hr.free 2;have q3:=hr.free 3;have q4:=hr.free 4;simp at k0 k1 k2 k3 k4 r0 r1 r2 r3 r4;have hab:=hL.ab;clear hs hr hb hL;by_cases hc1:nY≤b
  ·
   have hsm:=HL.out.small (by have:=HL.out.n2;omega);obtain⟨hsm1,hsm2,hsm3⟩:=hsm;by_cases hc2:b+yy+nY≤a
   ·
    obtain⟨q,r,u,v,nX',nY',d1,d2,d3,d4,d5,d6,d7,d8,hnx',hny',hu,hv,hr,hqa,hN⟩:=HL.out.step hc1 hc2;have HN:=Hi hN;clear hN;have t1:((b:Int) == 0)=false:=by rw[beq_eq_false_iff_ne];have:=HL.out.n2;omega
    have t2:decide ((yy:Int)+(nY:Int)≤(a:Int) - (b:Int))=true:=by simp;omega
    clear r0 r1 r2 r3 r4 q0 q1 q2 q3 q4;go_wp2_with fail;go_region
    all_goals
     go_wp2;refine⟨⟨min (st+1) 2,!odd,yx,yy,nX,nY,nX',nY',b,r,a,rfl,rfl,rfl,rfl,by omega,by omega,by omega,hyx,hyy,hnx,hny,HN.out,?_,?_,?_⟩,?_⟩
     · exact SB.drew (((((HS2.out.set 0 _).set 2 _).set 1 _).set 3 _).set 4 _)
     · refine SB.drew (SB.apart (SB.apart (SB.apart (SB.apart (SB.apart HR2.out ?_ 0 _) ?_ 2 _) ?_ 1 _) ?_ 3 _) ?_ 4 _)
       all_goals omega
     · exact(((((HB2.out.setCell (Nat.le_of_lt hRg) _).setCell (Nat.le_of_lt hRg) _).setCell (Nat.le_of_lt hRg) _).setCell (Nat.le_of_lt hRg) _).setCell (Nat.le_of_lt hRg) _).drew
     · simp[intOf];omega
   ·
    have t1:((a:Int) - (b:Int)≥(yy:Int)+(nY:Int))=False:=by simp;omega
    have t2:decide ((yy:Int)+(nY:Int)≤(a:Int) - (b:Int))=false:=by simp;omega
    go_wp2;refine bodyPost_ret (v:=StepsVal odd xx xy yx yy) (results_cell_row rfl _ _ R 240 #[.int .u64 xx,.int .u64 xy,.int .u64 yx,.int .u64 yy,.bool odd] (0,0) _ rfl (((((HR2.out.set 0 _).set 1 _).set 2 _).set 3 _).set 4 _) Tryz.underlying240 rfl Tryz.stepsInfo) rfl ?_;exact⟨⟨odd,xx,xy,yx,yy,rfl,HL.out.steps HH.out hxx hxy hyx hyy⟩,by rw[HR.out];exact((((HB2.out.setCell (Nat.le_refl _) _).setCell (Nat.le_refl _) _).setCell (Nat.le_refl _) _).setCell (Nat.le_refl _) _).setCell (Nat.le_refl _) _⟩
  ·
   go_wp2;refine bodyPost_ret (v:=StepsVal odd xx xy yx yy) (results_cell_row rfl _ _ R 240 #[.int .u64 xx,.int .u64 xy,.int .u64 yx,.int .u64 yy,.bool odd] (0,0) _ rfl (((((HR2.out.set 0 _).set 1 _).set 2 _).set 3 _).set 4 _) Tryz.underlying240 rfl Tryz.stepsInfo) rfl ?_;exact⟨⟨odd,xx,xy,yx,yy,rfl,HL.out.steps HH.out hxx hxy hyx hyy⟩,by rw[HR.out];exact((((HB2.out.setCell (Nat.le_refl _) _).setCell (Nat.le_refl _) _).setCell (Nat.le_refl _) _).setCell (Nat.le_refl _) _).setCell (Nat.le_refl _) _⟩
set_option maxHeartbeats 400000 in
theorem Qma(odd:Bool)(xx xy yx yy:Nat)(w:World):
 Calls Tryz.prog 185 #[StepsVal odd xx xy yx yy] w fun e w'=>e=.returned (.bool (decide (xy=0)))∧Below w.heap.size w w':=by
 rw[show (decide (xy=0))=((xy:Int) == 0) by by_cases h:xy=0<;>simp[h]];unfold StepsVal;go_enter Tryz.func185,Tryz.ntmps185;go_wp2;go_ret;exact⟨rfl,(Below.refl _ _).alloc (Nat.le_refl _) _⟩
theorem Qgv{w:World}{g cap n:Nat}{C l:List Nat}{x:Nat}(h:ON w g cap C l x)(hn:n≤l.length):∃t,x=val 18446744073709551616 (C.take n)+18446744073709551616 ^ n*t:=by
 refine⟨val 18446744073709551616 (l.drop n),?_⟩;have e:C.take n=l.take n:=by
  have:=congrArg (List.take n) h.fro;rw[List.take_take,Nat.min_eq_left hn] at this;exact this
 rw[e,←Qai _ _ _ hn];exact h.num.eq.symm
theorem ON.lt{w:World}{g cap:Nat}{C l:List Nat}{x:Nat}(h:ON w g cap C l x):x<18446744073709551616 ^ l.length:=by
 have:=Qab (B:=18446744073709551616) (by decide) h.num.small;rw[h.num.eq] at this;exact this
def Both(w:World)(gx gy X Y:Nat)(e:Ending):Prop:=∃ga gb ca cb Ca Cb la lb,e=.returned (.tuple #[.slice (some ⟨ga,0,none⟩) (List.length la) ca,.slice (some ⟨gb,0,none⟩) (List.length lb) cb])∧ON w ga ca Ca la X∧ON w gb cb Cb lb Y∧((ga=gx∧gb=gy)∨(ga=gy∧gb=gx))
set_option maxRecDepth 100000 in
set_option maxHeartbeats 1000000 in
theorem Qmb(odd:Bool)(xx xy yx yy:Nat)(gx gy cx cy:Nat)(Cx Cy l m:List Nat)(x y X Y:Nat)(w:World)(h1:ON w gx cx Cx l x)(h2:ON w gy cy Cy m y)(hne:gx≠gy)(hyx:y≤x)(hS:Steps x y odd xx xy yx yy)(hL:Lehm odd xx xy yx yy x y X Y)(hy:0<y)(B:Nat)(hBx:B≤gx)(hBy:B≤gy):
 Calls Tryz.prog 187 #[StepsVal odd xx xy yx yy,.slice (some ⟨gx,0,none⟩) l.length cx,.slice (some ⟨gy,0,none⟩) m.length cy] w fun e w'=>Both w' gx gy X Y e∧Below B w w':=by
 have hl:=hL.less hy;have hml:m.length≤l.length:=h2.num.length_le_of_lt (by decide) (Nat.lt_of_le_of_lt hyx h1.lt);have hm1:=h1.fit;have hm2:=h2.fit;have hc1:=h1.le;have hc2:=h2.le;have hs1:=h1.len;have hs2:=h2.len;have hbX:X<18446744073709551616 ^ m.length:=Nat.lt_of_le_of_lt hl.1 h2.lt;have hbY:Y<18446744073709551616 ^ m.length:=Nat.lt_of_le_of_lt (by have:=hL.le;omega) hbX;have tx:=Qgv h1 hml;have ty:=Qgv h2 (Nat.le_refl _);have fx:=hL.fx;have fy:=hL.fy;have HT:=Hi (⟨hbX,hbY,tx,ty⟩:X<18446744073709551616 ^ m.length∧Y<18446744073709551616 ^ m.length∧_∧_);obtain⟨wa,hwa⟩:∃wa,w.alloc (.cells #[Value.int .u64 xx,.int .u64 xy,.int .u64 yx,.int .u64 yy,.bool odd] 240)=wa:=⟨_,rfl⟩;obtain⟨gs,hg⟩:∃gs,w.heap.size=gs:=⟨_,rfl⟩;have hbw:Below w.heap.size w wa:=by rw[←hwa];exact(Below.refl _ _).alloc (Nat.le_refl _) _
 have hsb:SB wa gs 240 #[Value.int .u64 xx,.int .u64 xy,.int .u64 yx,.int .u64 yy,.bool odd]:=by rw[←hwa,←hg];exact SB.new _ _ _
 have p1:=h1.pre.below hbw h1.pre.lt;have p2:=h2.pre.below hbw h2.pre.lt;have HB:Hid (Below B w wa):=Hi (hbw.mono (by have:=h1.pre.lt;omega));have HWB:Hid (B≤wa.heap.size):=Hi (by have:=h1.pre.lt;have:=hbw.size;omega);have k0:=hsb.cell 0;have k1:=hsb.cell 1;have k2:=hsb.cell 2;have k3:=hsb.cell 3;have k4:=hsb.cell 4;simp at k0 k1 k2 k3 k4;have HW:=Hi hwa;have HG:=Hi hg;have HS1:=Hi hs1;have HS2:=Hi hs2;have HC1:=Hi hc1;have HC2:=Hi hc2;have HM1:=Hi hm1;have HM2:=Hi hm2;have hmcx:m.length≤cx:=by omega
 have hmcy:m.length≤cy:=by omega
 have HMX:=Hi hmcx;have HMY:=Hi hmcy;have im:(m.length:Int)≤(cx:Int):=by omega
 have im0:(0:Int)≤(m.length:Int):=by omega
 unfold StepsVal;cases odd
 ·
  simp only[Bool.false_eq_true,if_false] at fx fy;have HTK:=Hi (Qgu gx gy m.length cx cy xx xy yy yx Cx Cy wa p1 p2 hne h1.small h2.small (by omega) (by omega) (by omega) (by omega) (by omega) hS.bxx hS.bxy hS.byy hS.byx);have HFX:=Hi fx;have HFY:=Hi fy;clear h1 h2 hS hL hl hbX hbY tx ty fx fy p1 p2 hbw hsb hwa hg hs1 hs2 hc1 hc2 hm1 hm2;go_enter Tryz.func187,Tryz.ntmps187;go_wp2_with fail;rw[HW.out,HG.out];go_wp2_with fail;go_fit HTK.out;rintro e w2 ⟨rfl,X2,Y2,hX2,hY2,lX,lY,sX,sY,oX,oY,h2w⟩;have HR1:=Hi (Qcd gx m.length cx X X2 w2 hX2 sX (by rw[lX];exact HS1.out) (by rw[lX];have:=HC1.out;omega) HMX.out (oX.end sX (by rw[lX];have:=HC1.out;omega) HT.out.2.2.1 HT.out.2.2.2 HFX.out HT.out.1));have HR2:=Hi (Qcd gy m.length cy Y Y2 w2 hY2 sY (by rw[lY];exact HS2.out) (by rw[lY];have:=HC2.out;omega) HMY.out (oY.end sY (by rw[lY];have:=HC2.out;omega) HT.out.2.2.2 HT.out.2.2.1 HFY.out HT.out.2.1))
  have HB2:=Hi (HB.out.trans (h2w.below hBx hBy HWB.out));clear hX2 hY2 lX lY sX sY oX oY h2w HTK k0 k1 k2 k3 k4;go_wp2_with fail;go_fit HR1.out;rintro e w3 ⟨⟨r1,rfl,ho1,_⟩,hw3⟩;subst hw3;have HO1:=Hi ho1;clear ho1;go_wp2_with fail;go_fit HR2.out;rintro e w3 ⟨⟨r2,rfl,ho2,_⟩,hw3⟩;subst hw3;have HO2:=Hi ho2;clear ho2;go_wp2;go_ret2;exact⟨⟨gx,gy,cx,cy,X2,Y2,r1,r2,rfl,HO1.out,HO2.out,.inl ⟨rfl,rfl⟩⟩,HB2.out⟩
 ·
  simp only[if_true] at fx fy;have HTK:=Hi (Qgu gy gx m.length cy cx xy xx yx yy Cy Cx wa p2 p1 (fun h=>hne h.symm) h2.small h1.small (by omega) (by omega) (by omega) (by omega) (by omega) hS.bxy hS.bxx hS.byx hS.byy);have HFX:=Hi fx;have HFY:=Hi fy;clear h1 h2 hS hL hl hbX hbY tx ty fx fy p1 p2 hbw hsb hwa hg hs1 hs2 hc1 hc2 hm1 hm2;go_enter Tryz.func187,Tryz.ntmps187;go_wp2_with fail;rw[HW.out,HG.out];go_wp2_with fail;go_fit HTK.out;rintro e w2 ⟨rfl,X2,Y2,hX2,hY2,lX,lY,sX,sY,oX,oY,h2w⟩;have HR1:=Hi (Qcd gy m.length cy X X2 w2 hX2 sX (by rw[lX];exact HS2.out) (by rw[lX];have:=HC2.out;omega) HMY.out (oX.end sX (by rw[lX];have:=HC2.out;omega) HT.out.2.2.2 HT.out.2.2.1 HFX.out HT.out.1));have HR2:=Hi (Qcd gx m.length cx Y Y2 w2 hY2 sY (by rw[lY];exact HS1.out) (by rw[lY];have:=HC1.out;omega) HMX.out (oY.end sY (by rw[lY];have:=HC1.out;omega) HT.out.2.2.1 HT.out.2.2.2 HFY.out HT.out.2.1))
  have HB2:=Hi (HB.out.trans (h2w.below hBy hBx HWB.out));clear hX2 hY2 lX lY sX sY oX oY h2w HTK k0 k1 k2 k3 k4;go_wp2_with fail;go_fit HR1.out;rintro e w3 ⟨⟨r1,rfl,ho1,_⟩,hw3⟩;subst hw3;have HO1:=Hi ho1;clear ho1;go_wp2_with fail;go_fit HR2.out;rintro e w3 ⟨⟨r2,rfl,ho2,_⟩,hw3⟩;subst hw3;have HO2:=Hi ho2;clear ho2;go_wp2;go_ret2;exact⟨⟨gy,gx,cy,cx,X2,Y2,r1,r2,rfl,HO1.out,HO2.out,.inr ⟨rfl,rfl⟩⟩,HB2.out⟩
end Go.Proofs.YtbbkamnfjejceaaGreatDoor
