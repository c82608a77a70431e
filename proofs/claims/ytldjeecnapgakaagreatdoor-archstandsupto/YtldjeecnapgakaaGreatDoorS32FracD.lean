/- num's Compare; cmp.Compare of ints. -/
import Derived.Test.YtldjeecnapgakaaGreatDoorS31ReadA
namespace Go.Proofs.YtldjeecnapgakaaGreatDoor
open Go.RowKit
set_option linter.unusedVariables false
set_option linter.unusedSimpArgs false
def cmpQ(p q:Rat):Int:=cmpZ (p.num*(q.den:Int)) (q.num*(p.den:Int))
theorem Qbv(p q:Rat):cmpQ p q<0↔p<q:=by
 rw[Rat.lt_iff];unfold cmpQ cmpZ
 split
 · simp[*]
 · split<;>simp[*]
theorem Qbb(p q:Rat):0<cmpQ p q↔q<p:=by
 rw[Rat.lt_iff];unfold cmpQ cmpZ
 split
 ·
  constructor
  · intro h;omega
  · intro h;omega
 ·
  split
  ·
   constructor
   · intro h;omega
   · intro h;omega
  ·
   constructor
   · intro h;omega
   · intro h;omega
theorem Qek(X:Int):(X<0∧sgn3 X= -1)∨(X=0∧sgn3 X=0)∨(0<X∧sgn3 X=1):=by
 unfold sgn3;rcases Int.lt_trichotomy X 0 with h|h|h
 · exact .inl ⟨h,by rw[if_pos h]⟩
 · exact .inr (.inl ⟨h,by rw[if_neg (by omega),if_pos h]⟩)
 · exact .inr (.inr ⟨h,by rw[if_neg (by omega),if_neg (by omega)]⟩)
theorem Qgz{X d:Int}(hd:0<d):sgn3 (X*d)=sgn3 X:=by
 rcases Qek X with ⟨h,e⟩|⟨h,e⟩|⟨h,e⟩<;>rw[e]
 ·
  have:=Int.mul_neg_of_neg_of_pos h hd;unfold sgn3;rw[if_pos this]
 · rw[h,Int.zero_mul]
   rfl
 ·
  have:=Int.mul_pos h hd;unfold sgn3;rw[if_neg (by omega),if_neg (by omega)]
theorem Qm0{X Y:Int}(h:sgn3 X≠sgn3 Y):cmpZ X Y=cmpZ (sgn3 X) (sgn3 Y):=by
 rcases Qek X with ⟨h1,e1⟩|⟨h1,e1⟩|⟨h1,e1⟩<;>rcases Qek Y with ⟨h2,e2⟩|⟨h2,e2⟩|⟨h2,e2⟩<;>rw[e1,e2] at h ⊢ <;>first|exact absurd rfl h|(unfold cmpZ;first|(rw [if_pos (by omega)];rfl)|(rw [if_neg (by omega),if_neg (by omega)];rfl))
theorem Qm1{p q:Rat}(h:sgn3 p.num≠sgn3 q.num):cmpQ p q=cmpZ (sgn3 p.num) (sgn3 q.num):=by
 have e1:sgn3 (p.num*(q.den:Int))=sgn3 p.num:=Qgz (Int.ofNat_lt.2 q.den_pos);have e2:sgn3 (q.num*(p.den:Int))=sgn3 q.num:=Qgz (Int.ofNat_lt.2 p.den_pos);rw[←e1,←e2] at h ⊢;exact Qm0 h
theorem Qm2{p q:Rat}(h:sgn3 p.num=sgn3 q.num):cmpQ p q=if p.num<0 then -cmp3 (p.num.natAbs*q.den) (q.num.natAbs*p.den) else cmp3 (p.num.natAbs*q.den) (q.num.natAbs*p.den):=by
 have e1:((p.num.natAbs*q.den:Nat):Int)=(p.num.natAbs:Int)*(q.den:Int):=by simp
 have e2:((q.num.natAbs*p.den:Nat):Int)=(q.num.natAbs:Int)*(p.den:Int):=by simp
 by_cases hn:p.num<0
 ·
  have hm:q.num<0:=by
   unfold sgn3 at h;rw[if_pos hn] at h;by_cases k:q.num<0
   · exact k
   · rw[if_neg k] at h
     split at h<;>omega
  rw[if_pos hn];have f1:p.num*(q.den:Int)= -((p.num.natAbs*q.den:Nat):Int):=by rw[e1,show (p.num.natAbs:Int)= -p.num by omega,Int.neg_mul,Int.neg_neg]
  have f2:q.num*(p.den:Int)= -((q.num.natAbs*p.den:Nat):Int):=by rw[e2,show (q.num.natAbs:Int)= -q.num by omega,Int.neg_mul,Int.neg_neg]
  unfold cmpQ;rw[f1,f2];unfold cmpZ cmp3
  split<;>split<;>(try split)<;>(try split)<;>omega
 ·
  have hm:¬q.num<0:=by
   unfold sgn3 at h;rw[if_neg hn] at h;intro k;rw[if_pos k] at h
   split at h<;>omega
  rw[if_neg hn];have f1:p.num*(q.den:Int)=((p.num.natAbs*q.den:Nat):Int):=by rw[e1,show (p.num.natAbs:Int)=p.num by omega]
  have f2:q.num*(p.den:Int)=((q.num.natAbs*p.den:Nat):Int):=by rw[e2,show (q.num.natAbs:Int)=q.num by omega]
  unfold cmpQ;rw[f1,f2];unfold cmpZ cmp3
  split<;>split<;>(try split)<;>(try split)<;>omega
theorem Qm3(x y:Int)(w:World):Calls Tryz.prog 86 #[.int .i64 x,.int .i64 y] w fun e w'=>e=.returned (.int .i64 (cmpZ x y))∧Below w.heap.size w w':=by
 have HN:∀(z:Int) (v:World),Hid (Calls Tryz.prog 129 #[.int .i64 z] v fun e w'=>e=.returned (.bool false)∧w'=v):=fun z v=>Hi (by
  go_enter Tryz.func129,Tryz.ntmps129;go_wp2;go_ret
  exact⟨rfl,rfl⟩)
 have HN1:=HN x w;have HN2:=HN y w;go_enter Tryz.func86,Tryz.ntmps86;go_wp2_with fail;go_fit HN1.out;rintro e w1 ⟨rfl,rfl⟩;go_wp2_with fail;go_fit HN2.out;rintro e w1 ⟨rfl,rfl⟩;clear HN HN1 HN2;by_cases h1:x<y
 ·
  have HC:Hid (cmpZ x y= -1):=Hi (by unfold cmpZ;rw[if_pos h1]);have e1:decide (x<y)=true:=decide_eq_true h1;clear h1;go_wp2;go_ret;exact⟨by rw[HC.out];rfl,Below.refl _ _⟩
 ·
  have e1:decide (x<y)=false:=decide_eq_false h1;by_cases h2:x=y
  ·
   have HC:Hid (cmpZ x y=0):=Hi (by unfold cmpZ;rw[if_neg h1,if_pos h2]);have e2:decide (y<x)=false:=decide_eq_false (by omega);clear h1 h2;go_wp2;go_ret;exact⟨by rw[HC.out];rfl,Below.refl _ _⟩
  ·
   have HC:Hid (cmpZ x y=1):=Hi (by unfold cmpZ;rw[if_neg h1,if_neg h2]);have e2:decide (y<x)=true:=decide_eq_true (by omega);clear h1 h2;go_wp2;go_ret;exact⟨by rw[HC.out];rfl,Below.refl _ _⟩
set_option maxRecDepth 100000 in
set_option maxHeartbeats 2000000 in
theorem Qm4(nx ny:Bool)(ax bx ay b2:Option Addr)(lx cx mx dx ly cy my dy i j:Nat)(p q:Rat)(w:World)(hx:FracAt w nx ax lx cx bx mx dx p)(hy:FracAt w ny ay ly cy b2 my dy q)(hp:Fits p i)(hq:Fits q j)(hij:i+j<68719476000):
 Calls Tryz.prog 41 #[.agg #[.bool nx,.slice ax lx cx,.slice bx mx dx],.agg #[.bool ny,.slice ay ly cy,.slice b2 my dy]] w fun e w'=>e=.returned (.int .i64 (cmpQ p q))∧Below w.heap.size w w':=by
 obtain⟨V,hV⟩:∃V,(w.alloc (.cells #[.bool nx,.slice ax lx cx,.slice bx mx dx] 63)).alloc (.cells #[.bool ny,.slice ay ly cy,.slice b2 my dy] 63)=V:=⟨_,rfl⟩;have HBV:Hid (Below w.heap.size w V):=Hi (by rw[←hV];exact Below.new2 w _ _);have hsx:SB V w.heap.size 63 #[.bool nx,.slice ax lx cx,.slice bx mx dx]:=by rw[←hV];exact(SB.new w _ _).alloc _
 have hsy:SB V (w.heap.size+1) 63 #[.bool ny,.slice ay ly cy,.slice b2 my dy]:=by rw[←hV];exact SB.new2 w _ _ _ _
 have ltx:=hsx.lt;have lty:=hsy.lt;have KX0:Hid (V.cell? ⟨w.heap.size,0,none⟩=some (.bool nx)):=Hi (hsx.cell 0);have KX1:Hid (V.cell? ⟨w.heap.size,1,none⟩=some (.slice ax lx cx)):=Hi (hsx.cell 1);have KX2:Hid (V.cell? ⟨w.heap.size,2,none⟩=some (.slice bx mx dx)):=Hi (hsx.cell 2);have KY0:Hid (V.cell? ⟨w.heap.size+1,0,none⟩=some (.bool ny)):=Hi (hsy.cell 0);have KY1:Hid (V.cell? ⟨w.heap.size+1,1,none⟩=some (.slice ay ly cy)):=Hi (hsy.cell 1);have KY2:Hid (V.cell? ⟨w.heap.size+1,2,none⟩=some (.slice b2 my dy)):=Hi (hsy.cell 2);have HX:=Hi (hx.below HBV.out);have HY:=Hi (hy.below HBV.out);have HPF:=Hi hp;have HQF:=Hi hq;obtain⟨A,hA⟩:∃A,sgn3 p.num=A:=⟨_,rfl⟩;obtain⟨B,hB⟩:∃B,sgn3 q.num=B:=⟨_,rfl⟩;have HGX:Hid (∀u,Below V.heap.size V u→Calls Tryz.prog 35 #[.agg #[.bool nx,.slice ax lx cx,.slice bx mx dx]] u fun e w'=>e=.returned (.int .i64 A)∧Below u.heap.size u w'):=Hi (fun u hu=>by
  rw[←hA]
  exact Qfa ⟨nx,ax,lx,cx,bx,mx,dx,rfl,HX.out.below hu⟩)
 have HGY:Hid (∀u,Below V.heap.size V u→Calls Tryz.prog 35 #[.agg #[.bool ny,.slice ay ly cy,.slice b2 my dy]] u fun e w'=>e=.returned (.int .i64 B)∧Below u.heap.size u w'):=Hi (fun u hu=>by
  rw[←hB]
  exact Qfa ⟨ny,ay,ly,cy,b2,my,dy,rfl,HY.out.below hu⟩)
 have HB:Hid (Below V.heap.size V V):=Hi (Below.refl _ _);have HVE:=Hi hV;have HAE:=Hi hA;have HBE:=Hi hB;clear hx hy hp hq hV hsx hsy hA hB;go_enter Tryz.func41,Tryz.ntmps41;go_wp2_with fail;rw[HVE.out];have kx0:=(HB.out.cell (p:=⟨w.heap.size,0,none⟩) ltx).trans KX0.out;have kx1:=(HB.out.cell (p:=⟨w.heap.size,1,none⟩) ltx).trans KX1.out;have kx2:=(HB.out.cell (p:=⟨w.heap.size,2,none⟩) ltx).trans KX2.out;have ky0:=(HB.out.cell (p:=⟨w.heap.size+1,0,none⟩) lty).trans KY0.out;have ky1:=(HB.out.cell (p:=⟨w.heap.size+1,1,none⟩) lty).trans KY1.out;have ky2:=(HB.out.cell (p:=⟨w.heap.size+1,2,none⟩) lty).trans KY2.out;go_wp2_with fail;go_region_held3
  (fun w'=>w'.cell? ⟨w.heap.size,0,none⟩=some (.bool nx)∧w'.cell? ⟨w.heap.size,1,none⟩=some (.slice ax lx cx)∧w'.cell? ⟨w.heap.size,2,none⟩=some (.slice bx mx dx)∧w'.cell? ⟨w.heap.size+1,0,none⟩=some (.bool ny)∧w'.cell? ⟨w.heap.size+1,1,none⟩=some (.slice ay ly cy)∧w'.cell? ⟨w.heap.size+1,2,none⟩=some (.slice b2 my dy)) ((first|(simp [*];done)|go_keep))
  (first
  |
   (go_at_call_of 35 (Value.agg #[.bool nx,.slice ax lx cx,.slice bx mx dx])
    apply Calls.mono;apply HGX.out;(focus(first|exact HB.out|exact HB.out.drew|exact HB.out.drew.drew));rintro e wn ⟨rfl,hb⟩;have HBn:Hid (Below V.heap.size V wn):=Hi (by first|exact HB.out.trans (hb.mono HB.out.size)|exact HB.out.drew.trans (hb.mono HB.out.size));clear HB hb kx0 kx1 kx2 ky0 ky1 ky2;have HB:=HBn;clear HBn;have kx0:=(HB.out.cell (p:=⟨w.heap.size,0,none⟩) ltx).trans KX0.out;have kx1:=(HB.out.cell (p:=⟨w.heap.size,1,none⟩) ltx).trans KX1.out;have kx2:=(HB.out.cell (p:=⟨w.heap.size,2,none⟩) ltx).trans KX2.out;have ky0:=(HB.out.cell (p:=⟨w.heap.size+1,0,none⟩) lty).trans KY0.out;have ky1:=(HB.out.cell (p:=⟨w.heap.size+1,1,none⟩) lty).trans KY1.out;have ky2:=(HB.out.cell (p:=⟨w.heap.size+1,2,none⟩) lty).trans KY2.out
    skip)
  |
   (go_at_call_of 35 (Value.agg #[.bool ny,.slice ay ly cy,.slice b2 my dy])
    apply Calls.mono;apply HGY.out;(focus(first|exact HB.out|exact HB.out.drew|exact HB.out.drew.drew));rintro e wn ⟨rfl,hb⟩;have HBn:Hid (Below V.heap.size V wn):=Hi (by first|exact HB.out.trans (hb.mono HB.out.size)|exact HB.out.drew.trans (hb.mono HB.out.size));clear HB hb kx0 kx1 kx2 ky0 ky1 ky2;have HB:=HBn;clear HBn;have kx0:=(HB.out.cell (p:=⟨w.heap.size,0,none⟩) ltx).trans KX0.out;have kx1:=(HB.out.cell (p:=⟨w.heap.size,1,none⟩) ltx).trans KX1.out;have kx2:=(HB.out.cell (p:=⟨w.heap.size,2,none⟩) ltx).trans KX2.out;have ky0:=(HB.out.cell (p:=⟨w.heap.size+1,0,none⟩) lty).trans KY0.out;have ky1:=(HB.out.cell (p:=⟨w.heap.size+1,1,none⟩) lty).trans KY1.out;have ky2:=(HB.out.cell (p:=⟨w.heap.size+1,2,none⟩) lty).trans KY2.out
    skip)
  |fail)
 all_goals
  by_cases hs:A=B
  ·
   have e0:(A != B)=false:=by simpa using hs
   have HC:Hid (cmpQ p q=if nx=true then -cmp3 (p.num.natAbs*q.den) (q.num.natAbs*p.den) else cmp3 (p.num.natAbs*q.den) (q.num.natAbs*p.den)):=Hi (by
    rw[Qm2 (by rw[HAE.out,HBE.out];exact hs),HX.out.neg]
    simp)
   obtain⟨wA,rfl⟩:∃wA,wA=wn:=⟨wn,rfl⟩;have hxA:=HX.out.below HB.out;have hyA:=HY.out.below HB.out;have HR:=Hi (NBag.start hxA.top hyA.top HPF.out.1 HQF.out.1);have HLX:=Hi hxA.low;have HLY:=Hi hyA.low;have HBA:=Hi (HBV.out.trans (HB.out.mono HBV.out.size));have ltA:=Nat.lt_of_lt_of_le ltx HB.out.size;have ltB:=Nat.lt_of_lt_of_le lty HB.out.size;have HK0:=Hi kx0;have HK1:=Hi kx1;have HK2:=Hi kx2;have HK3:=Hi ky0;have HK4:=Hi ky1;have HK5:=Hi ky2;clear hs hxA hyA HB HX HY HGX HGY HAE HBE KX0 KX1 KX2 KY0 KY1 KY2 ltx lty;go_wp2_with fail;go_region_held3
    (fun w'=>w'.cell? ⟨w.heap.size,0,none⟩=some (.bool nx)∧w'.cell? ⟨w.heap.size,1,none⟩=some (.slice ax lx cx)∧w'.cell? ⟨w.heap.size,2,none⟩=some (.slice bx mx dx)∧w'.cell? ⟨w.heap.size+1,0,none⟩=some (.bool ny)∧w'.cell? ⟨w.heap.size+1,1,none⟩=some (.slice ay ly cy)∧w'.cell? ⟨w.heap.size+1,2,none⟩=some (.slice b2 my dy)) ((first|(simp [*];done)|go_keep))
    (first
    |
     (go_at_call_of 89 (Value.agg #[.bool nx,.slice ax lx cx,.slice bx mx dx])
      apply Calls.mono;apply NBag.under (w0:=wA) (hl:=HLX.out) (hk:=HPF.out.2);(focus(first|exact HR.out|exact HR.out.drew|exact HR.out.drew.drew));rintro e w3 ⟨aX,nX,cX,rfl,hb⟩;clear HR;have HR:=Hi hb;clear hb;have kx0:=(HR.out.base.cell (p:=⟨w.heap.size,0,none⟩) ltA).trans HK0.out;have kx1:=(HR.out.base.cell (p:=⟨w.heap.size,1,none⟩) ltA).trans HK1.out;have kx2:=(HR.out.base.cell (p:=⟨w.heap.size,2,none⟩) ltA).trans HK2.out;have ky0:=(HR.out.base.cell (p:=⟨w.heap.size+1,0,none⟩) ltB).trans HK3.out;have ky1:=(HR.out.base.cell (p:=⟨w.heap.size+1,1,none⟩) ltB).trans HK4.out;have ky2:=(HR.out.base.cell (p:=⟨w.heap.size+1,2,none⟩) ltB).trans HK5.out
      skip)
    |
     (go_at_call_of 89 (Value.agg #[.bool ny,.slice ay ly cy,.slice b2 my dy])
      apply Calls.mono;apply NBag.under (w0:=wA) (hl:=HLY.out) (hk:=HQF.out.2);(focus(first|exact HR.out|exact HR.out.drew|exact HR.out.drew.drew));rintro e w4 ⟨aY,nY,cY,rfl,hb⟩;clear HR;have HR:=Hi hb;clear hb;have kx0:=(HR.out.base.cell (p:=⟨w.heap.size,0,none⟩) ltA).trans HK0.out;have kx1:=(HR.out.base.cell (p:=⟨w.heap.size,1,none⟩) ltA).trans HK1.out;have kx2:=(HR.out.base.cell (p:=⟨w.heap.size,2,none⟩) ltA).trans HK2.out;have ky0:=(HR.out.base.cell (p:=⟨w.heap.size+1,0,none⟩) ltB).trans HK3.out;have ky1:=(HR.out.base.cell (p:=⟨w.heap.size+1,1,none⟩) ltB).trans HK4.out;have ky2:=(HR.out.base.cell (p:=⟨w.heap.size+1,2,none⟩) ltB).trans HK5.out
      skip)
    |(
     go_at_call 88;apply Calls.mono;apply NBag.mul (w0:=wA);(focus(first|exact HR.out|exact HR.out.drew|exact HR.out.drew.drew));(focus(repeat(first|exact List.Mem.head _|apply List.Mem.tail)));(focus(repeat(first|exact List.Mem.head _|apply List.Mem.tail)));omega;rintro e wn ⟨an,nn,cn,rfl,hb⟩;clear HR;have HR:=Hi hb;clear hb;have kx0:=(HR.out.base.cell (p:=⟨w.heap.size,0,none⟩) ltA).trans HK0.out;have kx1:=(HR.out.base.cell (p:=⟨w.heap.size,1,none⟩) ltA).trans HK1.out;have kx2:=(HR.out.base.cell (p:=⟨w.heap.size,2,none⟩) ltA).trans HK2.out;have ky0:=(HR.out.base.cell (p:=⟨w.heap.size+1,0,none⟩) ltB).trans HK3.out;have ky1:=(HR.out.base.cell (p:=⟨w.heap.size+1,1,none⟩) ltB).trans HK4.out;have ky2:=(HR.out.base.cell (p:=⟨w.heap.size+1,2,none⟩) ltB).trans HK5.out
     skip)
    |(
     go_at_call 87;apply Calls.mono;apply NBag.compare (w0:=wA);(focus(first|exact HR.out|exact HR.out.drew|exact HR.out.drew.drew));(focus(repeat(first|exact List.Mem.head _|apply List.Mem.tail)));(focus(repeat(first|exact List.Mem.head _|apply List.Mem.tail)));rintro e wm ⟨rfl,hb⟩;clear HR;have HR:=Hi hb;clear hb;have kx0:=(HR.out.base.cell (p:=⟨w.heap.size,0,none⟩) ltA).trans HK0.out;have kx1:=(HR.out.base.cell (p:=⟨w.heap.size,1,none⟩) ltA).trans HK1.out;have kx2:=(HR.out.base.cell (p:=⟨w.heap.size,2,none⟩) ltA).trans HK2.out;have ky0:=(HR.out.base.cell (p:=⟨w.heap.size+1,0,none⟩) ltB).trans HK3.out;have ky1:=(HR.out.base.cell (p:=⟨w.heap.size+1,1,none⟩) ltB).trans HK4.out;have ky2:=(HR.out.base.cell (p:=⟨w.heap.size+1,2,none⟩) ltB).trans HK5.out
     skip)
    |fail)
   all_goals
    obtain⟨C,hC⟩:∃C,cmp3 (p.num.natAbs*q.den) (q.num.natAbs*p.den)=C:=⟨_,rfl⟩;rw[hC];have hCb: -1≤C∧C≤1:=by rw[←hC];unfold cmp3;split<;>(try split)<;>omega
    have w1:IntKind.i64.wrap (-C)= -C:=by rw[Qau _ (by omega) (by omega)]
    rw[hC] at HC;clear hC kx0 kx1 kx2 ky0 ky1 ky2 hCb;have kx0:=(HR.out.base.cell (p:=⟨w.heap.size,0,none⟩) ltA).trans HK0.out;have kx1:=(HR.out.base.cell (p:=⟨w.heap.size,1,none⟩) ltA).trans HK1.out;have kx2:=(HR.out.base.cell (p:=⟨w.heap.size,2,none⟩) ltA).trans HK2.out;have ky0:=(HR.out.base.cell (p:=⟨w.heap.size+1,0,none⟩) ltB).trans HK3.out;have ky1:=(HR.out.base.cell (p:=⟨w.heap.size+1,1,none⟩) ltB).trans HK4.out;have ky2:=(HR.out.base.cell (p:=⟨w.heap.size+1,2,none⟩) ltB).trans HK5.out;rcases nx with _|_
    ·
     have HC2:Hid (cmpQ p q=C):=Hi (by rw[HC.out];rfl);clear HC;go_wp2;go_ret;exact⟨by rw[HC2.out];first|rfl|simp[w1],HBA.out.trans (HR.out.base.mono HBA.out.size)⟩
    ·
     have HC2:Hid (cmpQ p q= -C):=Hi (by rw[HC.out];rfl);clear HC;go_wp2;go_ret;exact⟨by rw[HC2.out];first|rfl|simp[w1],HBA.out.trans (HR.out.base.mono HBA.out.size)⟩
  ·
   have e0:(A != B)=true:=by simpa using hs
   have HC:Hid (cmpQ p q=cmpZ A B):=Hi (by
    rw[←HAE.out,←HBE.out]
    exact Qm1 (by rw[HAE.out,HBE.out];exact hs))
   have HCI:=Hi (fun u=>Qm3 A B u);clear hs;go_wp2_with fail;go_region_held3
    (fun w'=>w'.cell? ⟨w.heap.size,0,none⟩=some (.bool nx)∧w'.cell? ⟨w.heap.size,1,none⟩=some (.slice ax lx cx)∧w'.cell? ⟨w.heap.size,2,none⟩=some (.slice bx mx dx)∧w'.cell? ⟨w.heap.size+1,0,none⟩=some (.bool ny)∧w'.cell? ⟨w.heap.size+1,1,none⟩=some (.slice ay ly cy)∧w'.cell? ⟨w.heap.size+1,2,none⟩=some (.slice b2 my dy)) ((first|(simp [*];done)|go_keep))
    (first
    |
     (go_at_call_of 35 (Value.agg #[.bool nx,.slice ax lx cx,.slice bx mx dx])
      apply Calls.mono;apply HGX.out;(focus(first|exact HB.out|exact HB.out.drew|exact HB.out.drew.drew));rintro e wn ⟨rfl,hb⟩;have HBn:Hid (Below V.heap.size V wn):=Hi (by first|exact HB.out.trans (hb.mono HB.out.size)|exact HB.out.drew.trans (hb.mono HB.out.size));clear HB hb kx0 kx1 kx2 ky0 ky1 ky2;have HB:=HBn;clear HBn;have kx0:=(HB.out.cell (p:=⟨w.heap.size,0,none⟩) ltx).trans KX0.out;have kx1:=(HB.out.cell (p:=⟨w.heap.size,1,none⟩) ltx).trans KX1.out;have kx2:=(HB.out.cell (p:=⟨w.heap.size,2,none⟩) ltx).trans KX2.out;have ky0:=(HB.out.cell (p:=⟨w.heap.size+1,0,none⟩) lty).trans KY0.out;have ky1:=(HB.out.cell (p:=⟨w.heap.size+1,1,none⟩) lty).trans KY1.out;have ky2:=(HB.out.cell (p:=⟨w.heap.size+1,2,none⟩) lty).trans KY2.out
      skip)
    |
     (go_at_call_of 35 (Value.agg #[.bool ny,.slice ay ly cy,.slice b2 my dy])
      apply Calls.mono;apply HGY.out;(focus(first|exact HB.out|exact HB.out.drew|exact HB.out.drew.drew));rintro e wn ⟨rfl,hb⟩;have HBn:Hid (Below V.heap.size V wn):=Hi (by first|exact HB.out.trans (hb.mono HB.out.size)|exact HB.out.drew.trans (hb.mono HB.out.size));clear HB hb kx0 kx1 kx2 ky0 ky1 ky2;have HB:=HBn;clear HBn;have kx0:=(HB.out.cell (p:=⟨w.heap.size,0,none⟩) ltx).trans KX0.out;have kx1:=(HB.out.cell (p:=⟨w.heap.size,1,none⟩) ltx).trans KX1.out;have kx2:=(HB.out.cell (p:=⟨w.heap.size,2,none⟩) ltx).trans KX2.out;have ky0:=(HB.out.cell (p:=⟨w.heap.size+1,0,none⟩) lty).trans KY0.out;have ky1:=(HB.out.cell (p:=⟨w.heap.size+1,1,none⟩) lty).trans KY1.out;have ky2:=(HB.out.cell (p:=⟨w.heap.size+1,2,none⟩) lty).trans KY2.out
      skip)
    |(
     go_at_call 86;apply Calls.mono;apply HCI.out;rintro e wn ⟨rfl,hb⟩;have HBn:Hid (Below V.heap.size V wn):=Hi (by first|exact HB.out.trans (hb.mono HB.out.size)|exact HB.out.drew.trans (hb.mono HB.out.size));clear HB hb kx0 kx1 kx2 ky0 ky1 ky2;have HB:=HBn;clear HBn;have kx0:=(HB.out.cell (p:=⟨w.heap.size,0,none⟩) ltx).trans KX0.out;have kx1:=(HB.out.cell (p:=⟨w.heap.size,1,none⟩) ltx).trans KX1.out;have kx2:=(HB.out.cell (p:=⟨w.heap.size,2,none⟩) ltx).trans KX2.out;have ky0:=(HB.out.cell (p:=⟨w.heap.size+1,0,none⟩) lty).trans KY0.out;have ky1:=(HB.out.cell (p:=⟨w.heap.size+1,1,none⟩) lty).trans KY1.out;have ky2:=(HB.out.cell (p:=⟨w.heap.size+1,2,none⟩) lty).trans KY2.out
     skip)
    |fail)
   all_goals
    go_wp2;go_ret;exact⟨by rw[HC.out];rfl,HBV.out.trans (HB.out.mono HBV.out.size)⟩
theorem Qm5{v1 v2:Value}{i j:Nat}{p q:Rat}{w:World}(hx:FracV w v1 p)(hy:FracV w v2 q)(hp:Fits p i)(hq:Fits q j)(hij:i+j<68719476000):Calls Tryz.prog 41 #[v1,v2] w fun e w'=>e=.returned (.int .i64 (cmpQ p q))∧Below w.heap.size w w':=by
 obtain⟨nx,ax,lx,cx,bx,mx,dx,rfl,hx⟩:=hx;obtain⟨ny,ay,ly,cy,b2,my,dy,rfl,hy⟩:=hy;exact Qm4 nx ny ax bx ay b2 lx cx mx dx ly cy my dy i j p q w hx hy hp hq hij
end Go.Proofs.YtldjeecnapgakaaGreatDoor
