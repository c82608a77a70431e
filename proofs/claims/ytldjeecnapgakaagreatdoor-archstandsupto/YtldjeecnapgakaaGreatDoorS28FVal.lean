/- fractions as values: their cells. -/
import Derived.Test.YtldjeecnapgakaaGreatDoorS24FracC
import Derived.Test.YtldjeecnapgakaaGreatDoorS27TextD
namespace Go.Proofs.YtldjeecnapgakaaGreatDoor
open Go.RowKit
set_option linter.unusedVariables false
set_option linter.unusedSimpArgs false
theorem Qcb(s t:ByteArray):(s++t).data.toList=s.data.toList++t.data.toList:=by simp[ByteArray.data_append]
theorem Qm6(w:World)(d:Nat)(a:Option Addr)(n c:Nat):(Op.equalIn (d+1) 61 (.slice a n c) (.slice none 0 0)).run Tryz.prog w=.ok a.isNone w:=by
 cases a<;>simp[Op.equalIn,run_underlying Tryz.underlying61]
theorem Qm7(w:World)(a:Option Addr)(n c:Nat):(Op.equal 61 (.slice a n c) (.slice none 0 0)).run Tryz.prog w=.ok a.isNone w:=Qm6 w 9999 a n c
theorem Qm8(w:World)(a:Option Addr)(n c:Nat):(binOp .neq 61 (.slice a n c) (.slice none 0 0)).run Tryz.prog w=.ok (.bool a.isSome) w:=by
 cases a<;>simp[binOp,Qm7]
theorem Qel{a:Option Addr}{n c x K:Nat}{w:World}(hT:Tab w)(h:NumV w a n c x)(hx:x<2 ^ K)(hK:K≤274877906944):Calls Tryz.prog 75 #[.slice a n c] w (TextAns x w):=by
 obtain⟨l,rfl,h⟩:=h;exact Qq9 a c x l w hT h (Nat.le_trans (h.len_bits hx) hK)
set_option maxHeartbeats 2000000 in
set_option maxRecDepth 100000 in
theorem num_Q(neg:Bool)(a b:Option Addr)(n c m d K:Nat)(q:Rat)(w:World)(hT:Tab w)(h:FracAt w neg a n c b m d q)(hf:Fits q K)(hK:K≤274877906944):
 Calls Tryz.prog 33 #[.agg #[.bool neg,.slice a n c,.slice b m d]] w (QAns q w):=by
 have hq:=Qm8;obtain⟨wA,hwA⟩:∃wA,w.alloc (.cells #[.bool neg,.slice a n c,.slice b m d] 63)=wA:=⟨_,rfl⟩;have hbA:Below w.heap.size w wA:=by rw[←hwA];exact(Below.refl _ _).alloc (Nat.le_refl _) _
 have hsb:SB wA w.heap.size 63 #[.bool neg,.slice a n c,.slice b m d]:=by rw[←hwA];exact SB.new w _ _
 have HT1:=Hi (Qel (hT.below hbA) (h.top.below hbA) hf.1 hK);have HLO:=Hi (h.low.below hbA);have HTA:=Hi (hT.below hbA);have HNG:=Hi h.neg;have HF:=Hi hf;have HSB:=Hi hsb;have HBA:=Hi hbA;have HWA:=Hi hwA;have hsz:=hbA.size;clear hT h hf hbA hsb hwA;go_enter Tryz.func33,Tryz.ntmps33;have k1:wA.cell? ⟨w.heap.size,1,none⟩=some (.slice a n c):=HSB.out.cell 1;go_wp2_with fail;rw[HWA.out];go_fit HT1.out;rintro e w1 ⟨⟨s1,rfl,hd1,hs1⟩,hb1⟩;have HD1:=Hi hd1;have HB1:=Hi (HBA.out.trans (hb1.mono hsz));have HL1:=Hi (HLO.out.below hb1);have HTB:=Hi (HTA.out.below hb1);have hsb1:=HSB.out.below hb1 HSB.out.lt;have g0:w1.cell? ⟨w.heap.size,0,none⟩=some (.bool neg):=hsb1.cell 0;have g2:w1.cell? ⟨w.heap.size,2,none⟩=some (.slice b m d):=hsb1.cell 2;have hsz1:=hb1.size;clear HT1 hd1 hb1 hsb1 k1 HLO HTA;cases neg with
 |true=>
  have HSI:Hid (IntText ((⟨#[45]⟩:ByteArray)++s1).data.toList q.num):=Hi ⟨s1.data.toList,HD1.out,by rw[if_pos (of_decide_eq_true HNG.out.symm),Qcb];rfl⟩;rcases HL1.out with ⟨rfl,rfl,rfl,hden⟩|⟨hden,hl⟩
  ·
   go_wp2;go_ret;exact⟨⟨_,rfl,_,HSI.out,.inl ⟨hden,rfl⟩⟩,HB1.out⟩
  ·
   obtain⟨bb,bo,rfl⟩:=hl.some (by omega);have HT2:=Hi (Qel HTB.out hl HF.out.2 hK);clear hl;go_wp2_with fail;go_fit HT2.out;rintro e w2 ⟨⟨s2,rfl,hd2,hs2⟩,hb2⟩;have HD2:=Hi hd2;have HB2:=Hi (HB1.out.trans (hb2.mono HB1.out.size));clear HT2 hd2 hb2;go_wp2;go_ret;exact⟨⟨_,rfl,_,HSI.out,.inr ⟨by omega,_,HD2.out,by rw[Qcb,Qcb];rfl⟩⟩,HB2.out⟩
 |false=>
  have HSI:Hid (IntText s1.data.toList q.num):=Hi ⟨s1.data.toList,HD1.out,by rw[if_neg (of_decide_eq_false HNG.out.symm)]⟩;rcases HL1.out with ⟨rfl,rfl,rfl,hden⟩|⟨hden,hl⟩
  ·
   go_wp2;go_ret;exact⟨⟨_,rfl,_,HSI.out,.inl ⟨hden,rfl⟩⟩,HB1.out⟩
  ·
   obtain⟨bb,bo,rfl⟩:=hl.some (by omega);have HT2:=Hi (Qel HTB.out hl HF.out.2 hK);clear hl;go_wp2_with fail;go_fit HT2.out;rintro e w2 ⟨⟨s2,rfl,hd2,hs2⟩,hb2⟩;have HD2:=Hi hd2;have HB2:=Hi (HB1.out.trans (hb2.mono HB1.out.size));clear HT2 hd2 hb2;go_wp2;go_ret;exact⟨⟨_,rfl,_,HSI.out,.inr ⟨by omega,_,HD2.out,by rw[Qcb,Qcb];rfl⟩⟩,HB2.out⟩
theorem Qm9{v:Value}{K:Nat}{q:Rat}{w:World}(hT:Tab w)(h:FracV w v q)(hf:Fits q K)(hK:K≤274877906944):Calls Tryz.prog 33 #[v] w (QAns q w):=by
 obtain⟨neg,a,n,c,b,m,d,rfl,h⟩:=h;exact num_Q neg a b n c m d K q w hT h hf hK
set_option maxHeartbeats 1000000 in
set_option maxRecDepth 100000 in
theorem Qg0(a1 a2:Option Addr)(c1 c2:Nat)(l m:List Nat)(w:World)(h1:Row .u64 w a1 c1 l)(h2:Row .u64 w a2 c2 m)(hl:l.length≤1099511627776)(hm:m.length≤1099511627776):
 Calls Tryz.prog 128 #[.slice a1 l.length c1,.slice a2 m.length c2] w fun e w'=>e=.returned (.bool (decide (l=m)))∧Below w.heap.size w w':=by
 have H1:=Hi h1;have H2:=Hi h2;clear h1 h2;by_cases hlm:l.length=m.length
 ·
  have q1:((l.length:Int) != (m.length:Int))=false:=by simp[hlm]
  have q2:((l.length:Int) == (m.length:Int))=true:=by simp[hlm]
  go_enter Tryz.func128,Tryz.ntmps128;go_wp2;go_loopw [13] (fun iv wr=>∃k:Nat,k≤l.length∧iv=.int .i64 k∧l.take k=m.take k∧Below w.heap.size w wr) (fun iv _=>l.length - (intOf iv).toNat)
  case atStart=>exact⟨0,by omega,rfl,by simp,Below.refl _ _⟩
  case round=>
   obtain⟨k,hk,rfl,ht,hb⟩:=hrel;have HT:=Hi ht;have HB:=Hi hb;clear ht hb;by_cases hlt:k<l.length
   ·
    obtain⟨b1,o1,rfl,hb1,hc1⟩:=(H1.out.below HB.out).cell k hlt;obtain⟨b2,o2,rfl,hb2,hc2⟩:=(H2.out.below HB.out).cell k (by omega);obtain⟨x,hx⟩:∃x,l.getD k 0=x:=⟨_,rfl⟩;obtain⟨y,hy⟩:∃y,m.getD k 0=y:=⟨_,rfl⟩;rw[hx] at hc1;rw[hy] at hc2;have HXX:=Hi hx;have HYY:=Hi hy;have e1:l.take (k+1)=l.take k++ [x]:=by rw[List.take_succ_eq_append_getElem hlt,←hx,List.getD_eq_getElem?_getD,List.getElem?_eq_getElem hlt];rfl
    have e2:m.take (k+1)=m.take k++ [y]:=by rw[List.take_succ_eq_append_getElem (by omega),←hy,List.getD_eq_getElem?_getD,List.getElem?_eq_getElem (by omega)];rfl
    have HE1:=Hi e1;have HE2:=Hi e2;clear hx hy e1 e2;by_cases hxy:x=y
    ·
     subst hxy;have q3:((x:Int) == (x:Int))=true:=by simp
     go_wp2_with fail;go_region
     all_goals
      go_wp2;go_roundw
      case rel=>exact⟨k+1,by omega,by go_num,by rw[HE1.out,HE2.out,HT.out],HB.out.drew⟩
      case measure=>simp[intOf];omega
    ·
     have q3:((x:Int) == (y:Int))=false:=by rw[beq_eq_false_iff_ne];omega
     have q4:((x:Int) != (y:Int))=true:=by rw[bne_iff_ne];omega
     have HNE:Hid (decide (l=m)=false):=Hi (decide_eq_false (fun h=>by
      have h1:=HXX.out;rw[h,HYY.out] at h1
      exact hxy h1.symm))
     go_wp2_with fail;go_region
     all_goals
      go_wp2;go_ret;exact⟨by rw[HNE.out];rfl,HB.out.drew⟩
   ·
    have hk':k=l.length:=by omega
    subst hk';have HEQ:Hid (decide (l=m)=true):=Hi (decide_eq_true (by have:=HT.out;rwa [List.take_length,List.take_of_length_le (by omega)] at this));go_wp2;go_ret;exact⟨by rw[HEQ.out];rfl,HB.out⟩
 ·
  have q1:((l.length:Int) != (m.length:Int))=true:=by rw[bne_iff_ne];omega
  have q2:((l.length:Int) == (m.length:Int))=false:=by rw[beq_eq_false_iff_ne];omega
  have HNE:Hid (decide (l=m)=false):=Hi (decide_eq_false (fun h=>hlm (by rw[h])));go_enter Tryz.func128,Tryz.ntmps128;go_wp2;go_ret;exact⟨by rw[HNE.out];rfl,Below.refl _ _⟩
theorem Low.row{w:World}{b:Option Addr}{m d k:Nat}(h:Low w b m d k):∃L:List Nat,L.length=m∧Row .u64 w b d L∧L.length≤1099511627776∧((L= []∧k=1)∨(1<k∧Num 18446744073709551616 L k)):=by
 rcases h with ⟨rfl,rfl,rfl,rfl⟩|⟨h,l,hl,hu⟩
 · exact⟨[],rfl,Row.nil _ _,by simp,.inl ⟨rfl,rfl⟩⟩
 · exact⟨l,hl,hu.row,hu.short,.inr ⟨h,hu.num⟩⟩
theorem Qg1{L M:List Nat}{j k:Nat}(h1:(L= []∧j=1)∨(1<j∧Num 18446744073709551616 L j))(h2:(M= []∧k=1)∨(1<k∧Num 18446744073709551616 M k)):L=M↔j=k:=by
 rcases h1 with ⟨rfl,rfl⟩|⟨g1,n1⟩<;>rcases h2 with ⟨rfl,rfl⟩|⟨g2,n2⟩
 · simp
 ·
  constructor
  · rintro rfl;have:=n2.eq;simp[val] at this;omega
  · intro h;omega
 ·
  constructor
  · rintro rfl;have:=n1.eq;simp[val] at this;omega
  · intro h;omega
 ·
  constructor
  · rintro rfl;rw[←n1.eq,←n2.eq]
  · rintro rfl;exact n1.inj (by decide) n2
theorem Qna(p q:Rat):p=q↔(decide (p.num<0)=decide (q.num<0)∧p.num.natAbs=q.num.natAbs∧p.den=q.den):=by
 constructor
 · rintro rfl;exact⟨rfl,rfl,rfl⟩
 ·
  rintro⟨h1,h2,h3⟩;refine Rat.ext ?_ h3;rw[←Qbj p.num,←Qbj q.num,h1,h2]
set_option maxHeartbeats 1000000 in
set_option maxRecDepth 100000 in
theorem Qnb(nx ny:Bool)(ax bx ay b2:Option Addr)(lx cx mx dx ly cy my dy:Nat)(p q:Rat)(w:World)(hx:FracAt w nx ax lx cx bx mx dx p)(hy:FracAt w ny ay ly cy b2 my dy q):
 Calls Tryz.prog 85 #[.agg #[.bool nx,.slice ax lx cx,.slice bx mx dx],.agg #[.bool ny,.slice ay ly cy,.slice b2 my dy]] w fun e w'=>e=.returned (.bool (decide (p=q)))∧Below w.heap.size w w':=by
 obtain⟨lX,rfl,hX⟩:=hx.top;obtain⟨lY,rfl,hY⟩:=hy.top;obtain⟨LX,rfl,hLX,hLXs,hLXk⟩:=hx.low.row;obtain⟨LY,rfl,hLY,hLYs,hLYk⟩:=hy.low.row;have hT:decide (lX=lY)=decide (p.num.natAbs=q.num.natAbs):=by
  by_cases h:p.num.natAbs=q.num.natAbs
  · rw[decide_eq_true h];rw[h] at hX;exact decide_eq_true (hX.num.inj (by decide) hY.num)
  · rw[decide_eq_false h];exact decide_eq_false (fun hc=>h (by rw[←hX.num.eq,←hY.num.eq,hc]))
 have hL:decide (LX=LY)=decide (p.den=q.den):=by
  by_cases h:p.den=q.den
  · rw[decide_eq_true h];exact decide_eq_true ((Qg1 hLXk hLYk).2 h)
  · rw[decide_eq_false h];exact decide_eq_false (fun hc=>h ((Qg1 hLXk hLYk).1 hc))
 have hpq:=Qna p q;rw[←hx.neg,←hy.neg] at hpq;obtain⟨wA,hwA⟩:∃wA,(w.alloc (.cells #[.bool nx,.slice ax lX.length cx,.slice bx LX.length dx] 63)).alloc (.cells #[.bool ny,.slice ay lY.length cy,.slice b2 LY.length dy] 63)=wA:=⟨_,rfl⟩;have hbA:Below w.heap.size w wA:=by rw[←hwA];exact Below.new2 w _ _
 have hsy:SB wA (w.heap.size+1) 63 #[.bool ny,.slice ay lY.length cy,.slice b2 LY.length dy]:=by rw[←hwA];exact SB.new2 w _ _ _ _
 have hsx:SB wA w.heap.size 63 #[.bool nx,.slice ax lX.length cx,.slice bx LX.length dx]:=by rw[←hwA];exact(SB.new w _ _).alloc _
 have HT1:=Hi (Qg0 ax ay cx cy lX lY wA (hX.row.below hbA) (hY.row.below hbA) hX.short hY.short);have HT2:=Hi (fun w1 hb=>Qg0 bx b2 dx dy LX LY w1 ((hLX.below hbA).below hb) ((hLY.below hbA).below hb) hLXs hLYs);rw[hT] at HT1;rw[hL] at HT2;have x0:wA.cell? ⟨w.heap.size,0,none⟩=some (.bool nx):=hsx.cell 0;have x1:wA.cell? ⟨w.heap.size,1,none⟩=some (.slice ax lX.length cx):=hsx.cell 1;have y0:wA.cell? ⟨w.heap.size+1,0,none⟩=some (.bool ny):=hsy.cell 0;have y1:wA.cell? ⟨w.heap.size+1,1,none⟩=some (.slice ay lY.length cy):=hsy.cell 1;have HSX:=Hi hsx;have HSY:=Hi hsy;have HBA:=Hi hbA;have HWA:=Hi hwA;have HPQ:=Hi hpq;have hsz:=hbA.size;clear hx hy hX hY hLX hLXs hLXk hLY hLYs hLYk hT hL hpq hbA hsx hsy hwA;by_cases hn:nx=ny
 ·
  subst hn;by_cases ht:p.num.natAbs=q.num.natAbs
  ·
   rw[decide_eq_true ht] at HT1;go_enter Tryz.func85,Tryz.ntmps85;go_wp2_with fail;rw[HWA.out];go_fit HT1.out;rintro e w1 ⟨rfl,hb1⟩;have HC2:=Hi (HT2.out w1 hb1);have hsx1:=HSX.out.below hb1 HSX.out.lt;have hsy1:=HSY.out.below hb1 HSY.out.lt;have x2:w1.cell? ⟨w.heap.size,2,none⟩=some (.slice bx LX.length dx):=hsx1.cell 2;have y2:w1.cell? ⟨w.heap.size+1,2,none⟩=some (.slice b2 LY.length dy):=hsy1.cell 2;have HB1:=Hi (HBA.out.trans (hb1.mono hsz));clear HT1 HT2 hb1 hsx1 hsy1;go_wp2_with fail;go_fit HC2.out;rintro e w2 ⟨rfl,hb2⟩;have HB2:=Hi (HB1.out.trans (hb2.mono HB1.out.size));clear HC2 hb2;go_wp2;go_ret;refine⟨?_,HB2.out⟩;by_cases hd:p.den=q.den
   · rw[decide_eq_true hd,decide_eq_true (HPQ.out.2 ⟨by trivial,ht,hd⟩)];rfl
   · rw[decide_eq_false hd,decide_eq_false (fun h=>hd (HPQ.out.1 h).2.2)];rfl
  ·
   rw[decide_eq_false ht] at HT1;have HNE:Hid (decide (p=q)=false):=Hi (decide_eq_false (fun h=>ht (HPQ.out.1 h).2.1));go_enter Tryz.func85,Tryz.ntmps85;go_wp2_with fail;rw[HWA.out];go_fit HT1.out;rintro e w1 ⟨rfl,hb1⟩;have HB1:=Hi (HBA.out.trans (hb1.mono hsz));clear HT1 HT2 hb1;go_wp2;go_ret;exact⟨by rw[HNE.out];rfl,HB1.out⟩
 ·
  have q0:(nx == ny)=false:=by simpa using hn
  have HNE:Hid (decide (p=q)=false):=Hi (decide_eq_false (fun h=>hn (HPQ.out.1 h).1));clear HT1 HT2;go_enter Tryz.func85,Tryz.ntmps85;go_wp2;go_ret;exact⟨by rw[HNE.out];rfl,by rw[HWA.out];exact HBA.out⟩
theorem Qnc{v1 v2:Value}{p q:Rat}{w:World}(hx:FracV w v1 p)(hy:FracV w v2 q):Calls Tryz.prog 85 #[v1,v2] w fun e w'=>e=.returned (.bool (decide (p=q)))∧Below w.heap.size w w':=by
 obtain⟨nx,ax,lx,cx,bx,mx,dx,rfl,hx⟩:=hx;obtain⟨ny,ay,ly,cy,b2,my,dy,rfl,hy⟩:=hy;exact Qnb nx ny ax bx ay b2 lx cx mx dx ly cy my dy p q w hx hy
structure Glob (w:World):Prop where
 most:∃m,w.cell? ⟨1,0,none⟩=some (.int .i64 m)
 tab:Tab w
theorem Glob.below{w w':World}(h:Glob w)(hb:Below w.heap.size w w'):Glob w':=by
 obtain⟨m,hm⟩:=h.most;exact⟨⟨m,(hb.cell (p:=⟨1,0,none⟩) (World.block_lt_of_cell? _ _ hm)).trans hm⟩,h.tab.below hb⟩
structure FE where
 x:Value
 y:Value
 z:Value
 q:Rat
 k:Nat
structure FBag (w0 w:World) (L:List FE):Prop where
 base:Below w0.heap.size w0 w
 glob:Glob w0
 ts:∀t,t∈ L→FracV w (.agg #[t.x,t.y,t.z]) t.q∧Fits t.q t.k∧0<t.k
theorem FBag.start{w:World}(h:Glob w):FBag w w []:=⟨Below.refl _ _,h,fun t ht=>by cases ht⟩
theorem FBag.below{w0 w w':World}{L:List FE}(h:FBag w0 w L)(hb:Below w.heap.size w w'):FBag w0 w' L:=
 ⟨h.base.trans (hb.mono h.base.size),h.glob,fun t ht=>⟨(h.ts t ht).1.below hb,(h.ts t ht).2⟩⟩
theorem FBag.globNow{w0 w:World}{L:List FE}(h:FBag w0 w L):Glob w:=h.glob.below h.base
theorem FBag.get{w0 w:World}{L:List FE}{x y z:Value}{q:Rat}{k:Nat}(h:FBag w0 w L)(hx:⟨x,y,z,q,k⟩∈ L):FracV w (.agg #[x,y,z]) q∧Fits q k∧0<k:=h.ts _ hx
theorem FBag.put{w0 w:World}{L:List FE}{x y z:Value}{q:Rat}{k:Nat}(h:FBag w0 w L)(hv:FracV w (.agg #[x,y,z]) q)(hf:Fits q k)(hk:0<k):FBag w0 w (⟨x,y,z,q,k⟩ :: L):=
 ⟨h.base,h.glob,fun t ht=>by
   rcases List.mem_cons.1 ht with rfl|ht
   · exact⟨hv,hf,hk⟩
   · exact h.ts t ht⟩
def FNewB(w0:World)(L:List FE)(q:Rat)(k:Nat)(e:Ending)(w':World):Prop:=∃x y z,e=.returned (.agg #[x,y,z])∧FBag w0 w' (⟨x,y,z,q,k⟩ :: L)
theorem FBag.new{w0 w w':World}{L:List FE}{q:Rat}{k:Nat}{e:Ending}(h:FBag w0 w L)(hn:FNew w q e w')(hf:Fits q k)(hk:0<k):FNewB w0 L q k e w':=by
 obtain⟨⟨v,rfl,neg,a,n,c,b,m,d,rfl,hv⟩,hb⟩:=hn;exact⟨_,_,_,rfl,(h.below hb).put ⟨neg,a,n,c,b,m,d,rfl,hv⟩ hf hk⟩
theorem Fits.div{p q:Rat}{j k:Nat}(h:Fits p j)(h':Fits q k)(hj:0<j)(hk:0<k):Fits (p / q) (j+k):=by
 by_cases hq:q=0
 · rw[hq,Rat.div_def,Rat.inv_zero,Rat.mul_zero];exact Fits.zero.mono (by omega)
 · rw[Rat.div_def];exact h.mul (h'.inv hq) hj
theorem FBag.of{w0 w:World}{L:List FE}{n:Nat}(s:ByteArray)(h:FBag w0 w L)(hs:s.size≤n)(hn:n≤1073741824):
 Calls Tryz.prog 34 #[.string s] w (fun e w'=>∃q,QOf s.data.toList q∧FNewB w0 L q (4*n+1) e w'):=by
 obtain⟨m,hm⟩:=h.globNow.most;refine(Qpj s m w hm (by omega)).mono ?_;rintro e w' ⟨q,hq,hf⟩;exact⟨q,hq,h.new hf (hq.fits (by rw[Qag];exact hs)) (by omega)⟩
theorem Qda{C:Array Value}(h:∀v,v∈ C.toList→∀n,v≠Value.int .u64 n):NoU64 C:=fun i n hi=>h _ (by rw[←Array.getElem?_toList] at hi;exact List.mem_of_getElem? hi) n rfl
theorem Qab(P:Program){v:Value}(h:v.oneCell'=true):∀(a:Addr) (w:World),(store a v).run P w=stored P w a v .plain:=fun a w=>run_store P w a v .plain h
theorem FracV.one{w:World}{x y z:Value}{q:Rat}(h:FracV w (.agg #[x,y,z]) q):x.oneCell'=true∧y.oneCell'=true∧z.oneCell'=true:=by
 obtain⟨neg,a,n,c,b,m,d,e,_⟩:=h;simp at e;obtain⟨rfl,rfl,rfl⟩:=e;exact⟨rfl,rfl,rfl⟩
theorem FracV.no64{w:World}{x y z:Value}{q:Rat}(h:FracV w (.agg #[x,y,z]) q)(n:Int):x≠.int .u64 n∧y≠.int .u64 n∧z≠.int .u64 n:=by
 obtain⟨neg,a,m,c,b,k,d,e,_⟩:=h;simp at e;obtain⟨rfl,rfl,rfl⟩:=e;exact⟨by simp,by simp,by simp⟩
end Go.Proofs.YtldjeecnapgakaaGreatDoor
