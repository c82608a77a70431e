/- package math: what the program asks of it. -/
import Derived.Test.YtodfmpjhcmapmaaGreatDoorN40NeaC
namespace Go.Proofs.YtodfmpjhcmapmaaGreatDoor
open Go.RowKit
set_option linter.unusedVariables false
set_option linter.unusedSimpArgs false
structure RootOf (q:Rat) (W:Nat) (hf:Int) (more:Bool):Prop where
 ex:∃Y:Rat,Y*((4 ^ (-hf).toNat:Nat):Rat)=q*((4 ^ hf.toNat:Nat):Rat)∧((W*W:Nat):Rat)≤Y∧Y<(((W+1)*(W+1):Nat):Rat)∧(more=false↔Y=((W*W:Nat):Rat))
 low:4611686018427387904≤W
 top:W<18446744073709551616
theorem Qhd{T D:Nat}(hT:0<T)(hD:0<D)(hf:Int)(h1:2*hf≤127 - (nb T:Int)+nb D)(h2:126 - (nb T:Int)+nb D≤2*hf):
 T*2 ^ (2*hf).toNat<D*2 ^ (-(2*hf)).toNat*2 ^ 128∧D*2 ^ (-(2*hf)).toNat*2 ^ 125≤T*2 ^ (2*hf).toNat:=by
 have t1:=Qao T;have t2:=Qbz (n:=T) (k:=nb T - 1) (by have:=Qa3 hT;omega);have d1:=Qao D;have d2:=Qbz (n:=D) (k:=nb D - 1) (by have:=Qa3 hD;omega);have tp:=Qa3 hT;have dp:=Qa3 hD;obtain⟨u,hu⟩:∃u,(2*hf).toNat=u:=⟨_,rfl⟩;obtain⟨v,hv⟩:∃v,(-(2*hf)).toNat=v:=⟨_,rfl⟩;rw[hu,hv];constructor
 ·
  calc T*2 ^ u<2 ^ nb T*2 ^ u:=Nat.mul_lt_mul_of_pos_right t1 (Nat.two_pow_pos _)
   _=2 ^ (nb T+u):=by rw[Nat.pow_add]
   _≤2 ^ (nb D - 1+v+128):=Nat.pow_le_pow_right (by decide) (by omega)
   _=2 ^ (nb D - 1)*2 ^ v*2 ^ 128:=by rw[Nat.pow_add,Nat.pow_add]
   _≤D*2 ^ v*2 ^ 128:=Nat.mul_le_mul_right _ (Nat.mul_le_mul_right _ d2)
 ·
  calc D*2 ^ v*2 ^ 125≤2 ^ nb D*2 ^ v*2 ^ 125:=Nat.mul_le_mul_right _ (Nat.mul_le_mul_right _ (Nat.le_of_lt d1))
   _=2 ^ (nb D+v+125):=by rw[Nat.pow_add,Nat.pow_add]
   _≤2 ^ (nb T - 1+u):=Nat.pow_le_pow_right (by decide) (by omega)
   _=2 ^ (nb T - 1)*2 ^ u:=by rw[Nat.pow_add]
   _≤T*2 ^ u:=Nat.mul_le_mul_right _ t2
theorem Qhe(k:Nat):4 ^ k=2 ^ (2*k):=by rw[Nat.pow_mul]
theorem Qng{q:Rat}{T D A B W:Nat}{hf:Int}{more left:Bool}(hq:q=mkRat (T:Int) D)(hT:0<T)(hD:0<D)(h1:2*hf≤127 - (nb T:Int)+nb D)(h2:126 - (nb T:Int)+nb D≤2*hf)
 (hA:A=T*2 ^ (2*hf).toNat) (hB:B=D*2 ^ (-(2*hf)).toNat) (w1:W*W≤A / B) (w2:A / B<(W+1)*(W+1)) (w3:W<18446744073709551616) (hl:left=false↔W*W=A / B) (hm:more=(left || decide (0<A % B))):RootOf q W hf more:=by
 have hB0:0<B:=by rw[hB];exact Nat.mul_pos hD (Nat.two_pow_pos _)
 have hbr:(B:Rat)≠0:=fun e=>by
  have:(0:Rat)<(B:Rat):=Rat.natCast_lt_natCast.2 hB0;rw[e] at this;exact absurd this (by decide)
 have hbp:(0:Rat)<(B:Rat):=Rat.natCast_lt_natCast.2 hB0;obtain⟨b1,b2⟩:=Qhd hT hD hf h1 h2;rw[←hA,←hB] at b1 b2;have hdr:(D:Rat)≠0:=fun e=>by
  have:(0:Rat)<(D:Rat):=Rat.natCast_lt_natCast.2 hD;rw[e] at this;exact absurd this (by decide)
 have hYB:(A:Rat) / (B:Rat)*(B:Rat)=(A:Rat):=Rat.div_mul_cancel hbr;refine⟨⟨(A:Rat) / (B:Rat),?_,?_,?_,?_⟩,?_,w3⟩
 ·
  have e1:(2*hf).toNat=2*hf.toNat:=by omega
  have e2:(-(2*hf)).toNat=2*(-hf).toNat:=by omega
  rw[e1,←Qhe] at hA;rw[e2,←Qhe] at hB;have hqd:q*(D:Rat)=(T:Rat):=by
   rw[hq,Rat.mkRat_eq_div,Rat.intCast_natCast,Rat.div_mul_cancel hdr]
  have h5:(A:Rat) / (B:Rat)*((4 ^ (-hf).toNat:Nat):Rat)*(D:Rat)=q*((4 ^ hf.toNat:Nat):Rat)*(D:Rat):=by
   rw[Rat.mul_assoc,Rat.mul_comm ((4 ^ (-hf).toNat:Nat):Rat),←Rat.natCast_mul,←hB,hYB,hA,Rat.natCast_mul,←hqd];grind
  have h6:=congrArg (· / (D:Rat)) h5;rw[Rat.mul_div_cancel hdr,Rat.mul_div_cancel hdr] at h6;exact h6
 ·
  have h3:W*W*B≤A:=(Nat.le_div_iff_mul_le hB0).1 w1;have h4:((W*W:Nat):Rat)*(B:Rat)≤(A:Rat) / (B:Rat)*(B:Rat):=by
   rw[hYB,←Rat.natCast_mul];exact Rat.natCast_le_natCast.2 h3
  exact Rat.le_of_mul_le_mul_right h4 hbp
 ·
  have h3:A<(W+1)*(W+1)*B:=(Nat.div_lt_iff_lt_mul hB0).1 w2;have h4:(A:Rat) / (B:Rat)*(B:Rat)<(((W+1)*(W+1):Nat):Rat)*(B:Rat):=by
   rw[hYB,←Rat.natCast_mul];exact Rat.natCast_lt_natCast.2 h3
  exact Rat.lt_of_mul_lt_mul_right h4 (Rat.le_of_lt hbp)
 ·
  have e:(A:Rat) / (B:Rat)=((W*W:Nat):Rat)↔A=W*W*B:=by
   constructor
   ·
    intro h;rw[h,←Rat.natCast_mul] at hYB;exact(Rat.natCast_inj.1 hYB).symm
   · intro h
     rw[h,Rat.natCast_mul,Rat.mul_div_cancel hbr]
  rw[e,hm,Bool.or_eq_false_iff,hl,decide_eq_false_iff_not];have hdm:=Nat.div_add_mod A B;constructor
  ·
   rintro⟨h3,h4⟩;rw[←h3,show A % B=0 by omega,Nat.add_zero,Nat.mul_comm] at hdm;exact hdm.symm
  ·
   intro h3;have h4:A / B=W*W:=by rw[h3,Nat.mul_div_cancel _ hB0]
   refine⟨h4.symm,?_⟩;rw[h3,Nat.mul_mod_left];exact Nat.lt_irrefl 0
 ·
  have h3:2 ^ 125≤A / B:=(Nat.le_div_iff_mul_le hB0).2 (by rw[Nat.mul_comm];exact b2);apply Classical.byContradiction;intro hc;have h4:(W+1)*(W+1)≤4611686018427387904*4611686018427387904:=Nat.mul_le_mul (by omega) (by omega);have h5:(4611686018427387904*4611686018427387904:Nat)<2 ^ 125:=by decide
  omega
theorem Qhf{q:Rat}(h:0<q):0<q.num:=by
 have h1:=Rat.num_nonneg.2 (Rat.le_of_lt h);have h2:q.num≠0:=fun e=>by
  rw[Rat.num_eq_zero.1 e] at h;exact absurd h (by decide)
 omega
theorem Qnh{l:List Nat}{n:Nat}(h:Num 18446744073709551616 l n)(hn:n<2 ^ 128):l.getD 0 0+18446744073709551616*l.getD 1 0=n∧l.getD 0 0<18446744073709551616∧l.getD 1 0<18446744073709551616:=by
 refine⟨?_,h.small.getD (by decide) 0,h.small.getD (by decide) 1⟩;have hl:=h.length_le_of_lt (k:=2) (by decide) (by rw[show (18446744073709551616:Nat) ^ 2=2 ^ 128 by decide];exact hn);rw[←h.eq]
 match l,hl with
 | [],_=>rfl
 | [x],_=>simp[val]
 | [x,y],_=>simp[val]
theorem Qni{neg:Bool}{a b:Option Addr}{n c m d:Nat}{q:Rat}{w:World}(h:FracAt w neg a n c b m d q):Calls Tryz.prog 108 #[.agg #[.bool neg,.slice a n c,.slice b m d]] w (Makes w (NF q.den)):=by
 refine(Qf6 neg a b n c m d q.den (nb q.den) w w [] ⟨Below.refl _ _,fun t ht=>by cases ht⟩ h.low (Qao _)).mono ?_;rintro e w' ⟨a,n,c,rfl,hB⟩;obtain⟨⟨l,rfl,hu⟩,_⟩:=hB.ts _ List.mem_cons_self;exact⟨_,rfl,hB.base,a,c,l,rfl,hu⟩
def RootSays(q:Rat)(w:World)(e:Ending)(w':World):Prop:=∃(W:Nat) (hf:Int) (more:Bool),e=.returned (.tuple #[.int .u64 W,.int .i64 (-hf),.bool more])∧RootOf q W hf more∧ -20000000000≤hf∧hf≤20000000000∧Below w.heap.size w w'
set_option maxRecDepth 100000 in
set_option maxHeartbeats 4000000 in
theorem Qnj{v:Value}{q:Rat}{w:World}{K:Nat}(h:FracV w v q)(hq:0<q)(hf:Fits q K)(hK:K≤2000000000):Calls Tryz.prog 58 #[v] w (RootSays q w):=by
 obtain⟨neg,a,n,c,b,m,d,rfl,hat⟩:=h;obtain⟨lt,hln,hut⟩:=hat.top;subst hln;obtain⟨V,hV⟩:∃V,w.alloc (.cells #[.bool neg,.slice a lt.length c,.slice b m d] 62)=V:=⟨_,rfl⟩;have hbv:Below w.heap.size w V:=by rw[←hV];exact(Below.refl _ _).alloc (Nat.le_refl _) _
 obtain⟨B0,hB0⟩:∃B,w.heap.size=B:=⟨_,rfl⟩;have HS:Hid (SB V B0 62 #[.bool neg,.slice a lt.length c,.slice b m d]):=Hi (by rw[←hV,←hB0];exact SB.new w _ _);have HBV:=Hi hbv;have HAT:=Hi (hat.below hbv);have HUT:=Hi (hut.below hbv);have HVE:=Hi hV;have HBE:=Hi hB0;have HNB:Hid (nb q.num.natAbs≤K∧nb q.den≤K∧0<q.num.natAbs):=Hi ⟨nb_le hf.1,nb_le hf.2,by have:=Qhf hq;omega⟩;have HQ:=Hi hq;clear hat hut hV hB0 hbv hq hf;go_enter Tryz.func58,Tryz.ntmps58;go_wp2_with fail;rw[HVE.out];simp only[HBE.out];refine Makes.use (Qni HAT.out) ?_;rintro _ w1 hb1 ⟨ad,cd,ld,rfl,hud⟩;have k1:=(HS.out.below hb1 HS.out.lt).cell 1;simp only[List.getElem?_toArray,List.getElem?_cons_zero,List.getElem?_cons_succ] at k1;have HUD:=Hi hud;have HUT1:=Hi (HUT.out.below hb1);have HB1:=Hi (HBV.out.trans (hb1.mono HBV.out.size));have HS1:=Hi (HS.out.below hb1 HS.out.lt);clear hud hb1 HUT HBV HS HAT;go_wp2_with fail
 refine(Qhb a c _ lt w1 HUT1.out).mono ?_;rintro e w2 ⟨rfl,rfl⟩;obtain⟨bT,hbT⟩:∃x,nb q.num.natAbs=x:=⟨_,rfl⟩;rw[hbT];go_wp2_with fail;refine(Qhb ad cd _ ld w2 HUD.out).mono ?_;rintro e w3 ⟨rfl,rfl⟩;obtain⟨bD,hbD⟩:∃x,nb q.den=x:=⟨_,rfl⟩;rw[hbD];have HTD:=Hi (And.intro hbT hbD);rw[hbT,hbD] at HNB;obtain⟨n1,n2,n3⟩:=HNB.out;clear hbT hbD;obtain⟨hf,hhf⟩:∃hf:Int,(127 - (bT:Int)+(bD:Int)) / 2=hf:=⟨_,rfl⟩;have b1: -20000000000≤hf∧hf≤20000000000:=by omega
 have HB2:Hid (2*hf≤127 - (bT:Int)+bD∧126 - (bT:Int)+bD≤2*hf):=Hi (by omega);have HBF:=Hi b1;have q1:wrap64 (127 - (bT:Int))=127 - (bT:Int):=by unfold wrap64;omega
 have q2:wrap64 (127 - (bT:Int)+(bD:Int))=127 - (bT:Int)+(bD:Int):=by unfold wrap64;omega
 have q4:wrap64 (2*hf)=2*hf:=by unfold wrap64;omega
 have q5:wrap64 (-2*hf)= -(2*hf):=by unfold wrap64;omega
 have q6:wrap64 (-(2*hf))= -(2*hf):=by unfold wrap64;omega
 have hlt:lt.length≤1073741824:=by
  have:=(show Num (2 ^ 64) lt _ from HUT1.out.num).length_le;rw[HTD.out.1] at this;omega
 have hld:ld.length≤1073741824:=by
  have:=(show Num (2 ^ 64) ld _ from HUD.out.num).length_le;rw[HTD.out.2] at this;omega
 have HLL:=Hi (And.intro hlt hld);clear b1 hlt hld n1 n2;go_wp2_with fail;refine Makes.use (Qhc HUT1.out HLL.out.1 (by have:=HBF.out;omega)) ?_;rintro _ w4 hb4 ⟨a4,c4,l4,rfl,hu4⟩;have HU4:=Hi hu4;have HUD4:=Hi (HUD.out.below hb4);have HB4:=Hi (HB1.out.trans (hb4.mono HB1.out.size));clear hu4 hb4 k1 HUT1 HUD HB1 HS1;go_wp2_with fail;refine Makes.use (Qhc HUD4.out HLL.out.2 (by have:=HBF.out;omega)) ?_;rintro _ w5 hb5 ⟨a5,c5,l5,rfl,hu5⟩;obtain⟨A,hA⟩:∃A,q.num.natAbs*2 ^ (2*hf).toNat=A:=⟨_,rfl⟩;obtain⟨D,hD⟩:∃D,q.den*2 ^ (-(2*hf)).toNat=D:=⟨_,rfl⟩;have HAD:=Hi (And.intro hA hD);rw[hA] at HU4;rw[hD] at hu5;have hD0:0<D:=by rw[←hD];exact Nat.mul_pos q.den_pos (Nat.two_pow_pos _)
 have hbits:=Qhd (T:=q.num.natAbs) (D:=q.den) n3 q.den_pos hf (by rw[HTD.out.1,HTD.out.2];exact HB2.out.1) (by rw[HTD.out.1,HTD.out.2];exact HB2.out.2);rw[hA,hD] at hbits;have HSQ:Hid (A / D<2 ^ 128):=Hi ((Nat.div_lt_iff_lt_mul hD0).2 (by rw[Nat.mul_comm];exact hbits.1));have hl4:l4.length<1099511627770:=by
  have h1:=(show Num (2 ^ 64) l4 _ from HU4.out.num).length_le;have h2:nb A≤bT+(2*hf).toNat:=nb_le (by
   rw[←hA,Nat.pow_add]
   exact Nat.mul_lt_mul_of_pos_right (by rw[←HTD.out.1];exact Qao _) (Nat.two_pow_pos _))
  have:=HNB.out.1;have:=HBF.out.2;omega
 have HU45:=Hi (HU4.out.below hb5);have HU5:=Hi hu5;have HB5:=Hi (HB4.out.trans (hb5.mono HB4.out.size));clear hu5 hb5 hA hD hbits HU4 HUD4 HB4;go_wp2_with fail;refine(Qg5 a4 a5 c4 c5 l4 l5 A D w5 HU45.out HU5.out hD0 hl4).mono ?_;rintro e w6 ⟨⟨aq,cq,lq,ar,cr,lr,rfl,huq,hur⟩,hb6⟩;have HUQ:=Hi huq;have HUR:=Hi hur;have HB6:=Hi (HB5.out.trans (hb6.mono HB5.out.size));clear huq hur hb6 HU45 HU5 HB5 hl4;go_wp2_with fail;have HW1:=Hi (Qbh aq cq lq 1 w6 HUQ.out.row HUQ.out.short (by decide));have HW0:=Hi (Qbh aq cq lq 0 w6 HUQ.out.row HUQ.out.short (by decide));obtain⟨hw,hx,hy⟩:=Qnh HUQ.out.num HSQ.out;obtain⟨x1,hx1⟩:∃x,lq.getD 1 0=x:=⟨_,rfl⟩;obtain⟨x0,hx0⟩:∃x,lq.getD 0 0=x:=⟨_,rfl⟩;rw[hx1,hx0] at hw;rw[hx1] at HW1 hy;rw[hx0] at HW0 hx;have HRW:=Hi (Qna x1 x0 w6 hy hx);rw[hw] at HRW;clear hw hx hy hx1 hx0;refine HW1.out.mono ?_;rintro e w7 ⟨rfl,rfl⟩;go_wp2_with fail;refine HW0.out.mono ?_
 rintro e w8 ⟨rfl,rfl⟩;clear HW1 HW0;go_wp2_with fail;refine HRW.out.mono ?_;rintro e w9 ⟨⟨W,left,rfl,hW1,hW2,hW3,hW4⟩,rfl⟩;have HROOT:Hid (RootOf q W hf (left || decide (0<A % D))):=Hi (Qng (T:=q.num.natAbs) (D:=q.den) (A:=A) (B:=D) (by
  rw[show ((q.num.natAbs:Nat):Int)=q.num by have:=Qhf HQ.out;omega]
  exact(Rat.mkRat_self q).symm) n3 q.den_pos (by rw[HTD.out.1,HTD.out.2];exact HB2.out.1) (by rw[HTD.out.1,HTD.out.2];exact HB2.out.2) HAD.out.1.symm HAD.out.2.symm hW1 hW2 hW3 hW4 rfl)
 have HRL:Hid (decide (0<A % D)=decide (0<lr.length)):=Hi (decide_eq_decide.2 (by
  have:=HUR.out.num.len_zero (by decide)
  omega))
 have HQ7:Hid (wrap64 (-hf)= -hf):=Hi (by have:=HBF.out;unfold wrap64;omega);clear hW1 hW2 hW3 hW4 HRW hhf;cases left with
 |true=>
  go_wp2;go_ret3;exact⟨W,hf,true,by show Ending.returned (.tuple #[.int .u64 W,.int .i64 (wrap64 (-hf)),.bool true])=_;rw[HQ7.out],HROOT.out,HBF.out.1,HBF.out.2,HB6.out⟩
 |false=>
  go_wp2;go_ret3;exact⟨W,hf,decide (0<lr.length),by show Ending.returned (.tuple #[.int .u64 W,.int .i64 (wrap64 (-hf)),.bool _])=_;rw[HQ7.out],by have:=HROOT.out;rw[HRL.out] at this;exact this,HBF.out.1,HBF.out.2,HB6.out⟩
end Go.Proofs.YtodfmpjhcmapmaaGreatDoor
namespace Go.Proofs.YtodfmpjhcmapmaaGreatDoor
namespace Nea
open Ieee
set_option linter.unusedVariables false
theorem lp:double.leastPlace= -1074:=by decide
theorem bi:double.binade=4503599627370496:=by decide
theorem ir:double.infRung=9218868437227405312:=by decide
theorem sw:double.signWeight=9223372036854775808:=by decide
theorem Qeq(M s:Nat)(hM:0<M):(M*2 ^ s).log2=M.log2+s:=by
 rw[Nat.log2_eq_iff (by have:=Nat.mul_pos hM (Nat.two_pow_pos s);omega)];have h1:=Nat.log2_self_le (n:=M) (by omega);have h2:=Nat.lt_log2_self (n:=M);refine⟨?_,?_⟩
 · rw[Nat.pow_add]
   exact Nat.mul_le_mul_right _ h1
 · rw[show M.log2+s+1=M.log2+1+s by omega,Nat.pow_add]
   exact Nat.mul_lt_mul_of_pos_right h2 (Nat.two_pow_pos _)
theorem Qhg(M s:Nat)(hM:0<M):Toward.even.cut false (M*2 ^ s) s=M:=by
 have hl:=Qeq M s hM;unfold Toward.cut;rw[hl,Nat.min_eq_left (by omega),Nat.one_shiftLeft];dsimp only;rw[Nat.mul_div_cancel _ (Nat.two_pow_pos _),Nat.mul_mod_left];have h0:decide (2 ^ s<2*0)=false:=by simp
 have h1:(2 ^ s == 2*0)=false:=by
  have:=Nat.two_pow_pos s;simp
 rw[h0,h1];rfl
theorem Qer{M F s:Nat}(hF:Fo F M)(hM:0<M)(h2:M<9007199254740992):double.nearest false (M*2 ^ s) (-1074+(F:Int) - s)=min (F*4503599627370496+M) 9218868437227405312:=by
 have h0:M*2 ^ s≠0:=by have:=Nat.mul_pos hM (Nat.two_pow_pos s);omega
 have hlog:M.log2≤52:=by
  have:=Nat.log2_lt (n:=M) (k:=53) (by omega);have:=this.2 (by simpa using h2);omega
 have hlast:max (-1074+(F:Int) - s+((M*2 ^ s).log2:Nat) - (double.fractionBits:Nat)) double.leastPlace= -1074+(F:Int):=by
  rw[Qeq M s hM,lp];rcases hF.1 with rfl|h
  ·
   show max _ _=_
   simp only[double];omega
  ·
   have:52≤M.log2:=(Nat.le_log2 (by omega)).2 (by simpa using h);simp only[double];omega
 unfold Format.nearest;rw[if_neg h0];simp only[hlast];rw[lp,bi,ir,show (-1074+(F:Int) - s - (-1074+(F:Int))).toNat=0 by omega,show (-1074+(F:Int) - (-1074+(F:Int) - s)).toNat=s by omega,Nat.shiftLeft_zero,Qhg M s hM,show (-1074+(F:Int) - -1074).toNat=F by omega];simp only[Format.word,Bool.false_eq_true,if_false]
theorem Qcq{r:Nat}(h:r<9218868437227405312):∃F M,r=F*4503599627370496+M∧Fo F M∧M<9007199254740992∧double.read r=.number false M (-1074+(F:Int)):=by
 unfold Format.read;dsimp only;rw[sw,bi,ir,lp,show r / 9223372036854775808=0 by omega,show r % 9223372036854775808=r by omega];by_cases h1:r<4503599627370496
 · rw[if_pos h1]
   exact⟨0,r,by omega,⟨Or.inl rfl,by omega⟩,by omega,rfl⟩
 ·
  rw[if_neg h1,if_pos h];refine⟨r / 4503599627370496 - 1,4503599627370496+r % 4503599627370496,by omega,⟨Or.inr (by omega),by omega⟩,by omega,?_⟩;rfl
theorem Qes:double.read 9218868437227405312=.infinity false:=by
 unfold Format.read;dsimp only;rw[sw,bi,ir,lp];rfl
theorem Qhh(r:Nat):U r<U (r+1):=by
 obtain⟨E,k,rfl,hF,hk⟩:=rung_form r;rw[Nat.add_assoc,U_of hF,U_of (E:=E) (k:=k+1) ⟨by have:=hF.1;omega,by omega⟩];exact Nat.mul_lt_mul_of_pos_right (by omega) (Nat.two_pow_pos _)
theorem U_lt{a b:Nat}(h:a<b):U a<U b:=by
 induction b with
 |zero=>omega
 |succ b ih=>
  rcases Nat.lt_or_ge a b with h1|h1
  · exact Nat.lt_trans (ih h1) (Qhh b)
  · obtain rfl:a=b:=by omega
    exact Qhh a
theorem U_cmp(a b:Nat):compare (U a) (U b)=compare a b:=by
 rcases Nat.lt_trichotomy a b with h|h|h
 · rw[Nat.compare_eq_lt.2 h,Nat.compare_eq_lt.2 (U_lt h)]
 · subst h
   rw[Nat.compare_eq_eq.2 rfl,Nat.compare_eq_eq.2 rfl]
 · rw[Nat.compare_eq_gt.2 h,Nat.compare_eq_gt.2 (U_lt h)]
theorem Qnk(a b:Nat):compare (a:Int) (b:Int)=compare a b:=by
 rcases Nat.lt_trichotomy a b with h|h|h
 · rw[Nat.compare_eq_lt.2 h,Int.compare_eq_lt.2 (by omega)]
 · subst h
   rw[Nat.compare_eq_eq.2 rfl,Int.compare_eq_eq.2 rfl]
 · rw[Nat.compare_eq_gt.2 h,Int.compare_eq_gt.2 (by omega)]
theorem Qhi(a b p:Nat)(hp:0<p):compare (a*p) (b*p)=compare a b:=by
 rcases Nat.lt_trichotomy a b with h|h|h
 · rw[Nat.compare_eq_lt.2 h,Nat.compare_eq_lt.2 (Nat.mul_lt_mul_of_pos_right h hp)]
 · subst h
   rw[Nat.compare_eq_eq.2 rfl,Nat.compare_eq_eq.2 rfl]
 · rw[Nat.compare_eq_gt.2 h,Nat.compare_eq_gt.2 (Nat.mul_lt_mul_of_pos_right h hp)]
theorem order_rung{a b:Nat}(ha:a≤9218868437227405312)(hb:b≤9218868437227405312):double.order a b=some (compare a b):=by
 unfold Format.order;rcases Nat.lt_or_ge a 9218868437227405312 with h1|h1<;>rcases Nat.lt_or_ge b 9218868437227405312 with h2|h2
 ·
  obtain⟨F,M,e1,f1,m1,r1⟩:=Qcq h1;obtain⟨G,N,e2,f2,m2,r2⟩:=Qcq h2;rw[r1,r2];simp only[Datum.order,signed,Bool.false_eq_true,if_false]
  congr 1
  rw[Qnk,←U_cmp a b,e1,e2,U_of f1,U_of f2,Nat.shiftLeft_eq,Nat.shiftLeft_eq];rcases Nat.le_total F G with h|h
  · rw[show (-1074+(F:Int) - min (-1074+(F:Int)) (-1074+(G:Int))).toNat=0 by omega,show (-1074+(G:Int) - min (-1074+(F:Int)) (-1074+(G:Int))).toNat=G - F by omega]
    rw[←Qhi _ _ (2 ^ F) (Nat.two_pow_pos _),Nat.mul_assoc,Nat.mul_assoc,←Nat.pow_add,←Nat.pow_add,Nat.zero_add,show G - F+F=G by omega]
  · rw[show (-1074+(F:Int) - min (-1074+(F:Int)) (-1074+(G:Int))).toNat=F - G by omega,show (-1074+(G:Int) - min (-1074+(F:Int)) (-1074+(G:Int))).toNat=0 by omega]
    rw[←Qhi _ _ (2 ^ G) (Nat.two_pow_pos _),Nat.mul_assoc,Nat.mul_assoc,←Nat.pow_add,←Nat.pow_add,Nat.zero_add,show F - G+G=F by omega]
 ·
  obtain⟨F,M,e1,f1,m1,r1⟩:=Qcq h1;obtain rfl:b=9218868437227405312:=by omega
  rw[r1,Qes,Nat.compare_eq_lt.2 h1];rfl
 ·
  obtain⟨F,M,e1,f1,m1,r1⟩:=Qcq h2;obtain rfl:a=9218868437227405312:=by omega
  rw[r1,Qes,Nat.compare_eq_gt.2 h2];rfl
 ·
  obtain rfl:a=9218868437227405312:=by omega
  obtain rfl:b=9218868437227405312:=by omega
  rw[Qes];rfl
end Nea
open Go.RowKit
set_option linter.unusedVariables false
set_option linter.unusedSimpArgs false
namespace Nea
open Ieee
theorem Qnl{M F t:Nat}(hF:Fo F (M*2 ^ t))(hM:0<M)(h2:M*2 ^ t<9007199254740992):double.nearest false M (-1074+(F:Int)+t)=min (F*4503599627370496+M*2 ^ t) 9218868437227405312:=by
 have hp:=Nat.mul_pos hM (Nat.two_pow_pos t);have hl:=Qeq M t hM;have hlog:(M*2 ^ t).log2≤52:=by
  have:=Nat.log2_lt (n:=M*2 ^ t) (k:=53) (by omega);have:=this.2 (by simpa using h2);omega
 have hlast:max (-1074+(F:Int)+t+(M.log2:Nat) - (double.fractionBits:Nat)) double.leastPlace= -1074+(F:Int):=by
  rw[lp];rcases hF.1 with rfl|h
  · simp only[double]
    omega
  ·
   have:52≤(M*2 ^ t).log2:=(Nat.le_log2 (by omega)).2 (by simpa using h);simp only[double];omega
 have hc:Toward.even.cut false (M*2 ^ t) 0=M*2 ^ t:=by
  have:=Qhg (M*2 ^ t) 0 hp;rw[Nat.pow_zero,Nat.mul_one] at this;exact this
 unfold Format.nearest;rw[if_neg (by omega)];simp only[hlast];rw[lp,bi,ir,show (-1074+(F:Int)+t - (-1074+(F:Int))).toNat=t by omega,show (-1074+(F:Int) - (-1074+(F:Int)+t)).toNat=0 by omega,Nat.shiftLeft_eq,hc,show (-1074+(F:Int) - -1074).toNat=F by omega];simp only[Format.word,Bool.false_eq_true,if_false]
theorem whole_form{k:Nat}(h0:0<k)(h1:k≤9007199254740992):∃L m,double.nearest false k 0=(L+1022)*4503599627370496+m∧4503599627370496≤m∧m<9007199254740992∧m*2 ^ L=k*4503599627370496∧L≤53:=by
 by_cases hk:k=9007199254740992
 ·
  refine⟨53,4503599627370496,?_,by decide,by decide,by rw[hk],by decide⟩;have:=Qer (M:=4503599627370496) (F:=1075) (s:=1) ⟨Or.inr (by decide),by decide⟩ (by decide) (by decide);rw[hk];exact this
 ·
  have h2:=Nat.log2_self_le (n:=k) (by omega);have h3:=Nat.lt_log2_self (n:=k);have hL:k.log2≤52:=by
   have:=(Nat.log2_lt (n:=k) (k:=53) (by omega)).2 (by simpa using (by omega:k<9007199254740992));omega
  have e:2 ^ k.log2*2 ^ (52 - k.log2)=4503599627370496:=by
   rw[←Nat.pow_add,show k.log2+(52 - k.log2)=52 by omega]
  have hm1:4503599627370496≤k*2 ^ (52 - k.log2):=by
   rw[←e];exact Nat.mul_le_mul_right _ h2
  have hm2:k*2 ^ (52 - k.log2)<9007199254740992:=by
   have:=Nat.mul_lt_mul_of_pos_right h3 (Nat.two_pow_pos (52 - k.log2));rw[Nat.pow_succ,Nat.mul_right_comm,e] at this;omega
  refine⟨k.log2,k*2 ^ (52 - k.log2),?_,hm1,hm2,by rw[Nat.mul_assoc,←Nat.pow_add,show 52 - k.log2+k.log2=52 by omega],by omega⟩;have:=Qnl (M:=k) (F:=k.log2+1022) (t:=52 - k.log2) ⟨Or.inr hm1,by omega⟩ h0 hm2;rw[show (-1074+((k.log2+1022:Nat):Int)+((52 - k.log2:Nat):Int))=0 by omega] at this;rw[this,Nat.min_eq_left (by omega)]
theorem Qhj{a b F G M N:Nat}(ra:double.read a=.number false M (-1074+(F:Int)))(rb:double.read b=.number false N (-1074+(G:Int))):double.mul a b=some (double.nearest false (M*N) (-1074+(F:Int)+(-1074+(G:Int)))):=by
 unfold Format.mul;rw[ra,rb];rfl
theorem Qdk{F M:Nat}(hF:Fo F M)(hM:M<9007199254740992)(h:F*4503599627370496+M<9218868437227405312):double.read (F*4503599627370496+M)=.number false M (-1074+(F:Int)):=by
 obtain⟨G,N,e,f,n,r⟩:=Qcq h;obtain⟨rfl,rfl⟩:G=F∧N=M:=by
  have a1:=hF.1;have a2:=f.1;constructor<;>omega
 exact r
theorem mul_one'{F M:Nat}(hF:Fo F M)(h0:0<M)(hM:M<9007199254740992)(h:F*4503599627370496+M<9218868437227405312):double.mul 4607182418800017408 (F*4503599627370496+M)=some (F*4503599627370496+M):=by
 have r1:=Qdk (F:=1022) (M:=4503599627370496) ⟨Or.inr (by decide),by decide⟩ (by decide) (by decide);rw[Qhj r1 (Qdk hF hM h)];have:=Qer (s:=52) hF h0 hM;rw[show (4503599627370496:Nat)*M=M*2 ^ 52 by rw[Nat.mul_comm],show (-1074+((1022:Nat):Int)+(-1074+(F:Int)))= -1074+(F:Int) - ((52:Nat):Int) by omega,this,Nat.min_eq_left (by omega)]
theorem mul_low{k L m:Nat}(h0:0<k)(hk:k<4503599627370496)(hm:m*2 ^ L=k*4503599627370496)(m1:4503599627370496≤m)(m2:m<9007199254740992)(hL:L<52):double.mul 4368491638549381120 ((L+1)*4503599627370496+m)=some k:=by
 have r1:=Qdk (F:=969) (M:=4503599627370496) ⟨Or.inr (by decide),by decide⟩ (by decide) (by decide);have r2:=Qdk (F:=L+1) (M:=m) ⟨Or.inr m1,by omega⟩ m2 (by omega);rw[Qhj r1 r2];have hmk:m=k*2 ^ (52 - L):=by
  have e:2 ^ (52 - L)*2 ^ L=4503599627370496:=by rw[←Nat.pow_add,show 52 - L+L=52 by omega]
  rw[←e,←Nat.mul_assoc] at hm;exact Nat.eq_of_mul_eq_mul_right (Nat.two_pow_pos L) hm
 have:=Qer (M:=k) (F:=0) (s:=104 - L) ⟨Or.inl rfl,by omega⟩ h0 (by omega);rw[show (4503599627370496:Nat)*m=k*2 ^ (104 - L) by
  rw[hmk,show (4503599627370496:Nat)=2 ^ 52 by decide,Nat.mul_left_comm,←Nat.pow_add,show 52+(52 - L)=104 - L by omega],show (-1074+((969:Nat):Int)+(-1074+((L+1:Nat):Int)))= -1074+((0:Nat):Int) - ((104 - L:Nat):Int) by omega,this,Nat.zero_mul,Nat.zero_add,Nat.min_eq_left (by omega)]
theorem and_not_top{x:Nat}(h:x<9223372036854775808):bits .andNot .u64 (x:Int) 9223372036854775808=(x:Int):=by
 have:=u64_andNot_nat x 9223372036854775808 (by omega) (by decide);rw[show (18446744073709551615 - 9223372036854775808:Nat)=2 ^ 63 - 1 by decide,Nat.and_two_pow_sub_one_eq_mod,Nat.mod_eq_of_lt h] at this;exact this
theorem and_not_mask{x:Nat}(h:x<9223372036854775808):bits .andNot .u64 (x:Int) 9218868437227405312=((x % 4503599627370496:Nat):Int):=by
 have:=u64_andNot_nat x 9218868437227405312 (by omega) (by decide);rw[show (18446744073709551615 - 9218868437227405312:Nat)=(2 ^ 63) ||| (2 ^ 52 - 1) by decide,Nat.and_or_distrib_left,Nat.and_two_pow_sub_one_eq_mod] at this;have e:x &&& 2 ^ 63=0:=by
  have hx:x &&& (2 ^ 63 - 1)=x:=by rw[Nat.and_two_pow_sub_one_eq_mod,Nat.mod_eq_of_lt (by simpa using h)]
  rw[←hx,Nat.and_assoc,show (2 ^ 63 - 1) &&& 2 ^ 63=0 by decide,Nat.and_zero]
 rw[e,Nat.zero_or] at this;exact this
theorem and_exp{L:Nat}(h:L<2048):bits .and .i64 (L:Int) 2047=(L:Int):=by
 have h1:∀L:Fin 2048,bits .and .i64 (L.val:Int) 2047=(L.val:Int):=by decide +kernel
 exact h1 ⟨L,h⟩
theorem or_exp{f e:Nat}(hf:f<4503599627370496)(he:e<2048):bits .or .u64 (f:Int) ((e*4503599627370496:Nat):Int)=((e*4503599627370496+f:Nat):Int):=by
 have:=or64' ((e*4503599627370496:Nat):Int) (f:Int) e f 52 (by rw[Nat.mul_comm]) rfl hf (by omega);rw[this,Nat.mul_comm]
end Nea
theorem o_eq{a b:Nat}(ha:a≤9218868437227405312)(hb:b≤9218868437227405312):(FloatKind.f64.format.order a b == some Ordering.eq)=decide (a=b):=by
 have e:FloatKind.f64.format.order a b=some (compare a b):=Nea.order_rung ha hb;rw[e];rcases Nat.lt_trichotomy a b with h|h|h
 · rw[Nat.compare_eq_lt.2 h,decide_eq_false (show ¬(a=b) by omega)];rfl
 · subst h;rw[Nat.compare_eq_eq.2 rfl,decide_eq_true (by omega)];rfl
 · rw[Nat.compare_eq_gt.2 h,decide_eq_false (show ¬(a=b) by omega)];rfl
theorem o_ne{a b:Nat}(ha:a≤9218868437227405312)(hb:b≤9218868437227405312):(FloatKind.f64.format.order a b != some Ordering.eq)=decide (a≠b):=by
 have e:FloatKind.f64.format.order a b=some (compare a b):=Nea.order_rung ha hb;rw[e];rcases Nat.lt_trichotomy a b with h|h|h
 · rw[Nat.compare_eq_lt.2 h,decide_eq_true (show (a≠b) by omega)];rfl
 · subst h;rw[Nat.compare_eq_eq.2 rfl,decide_eq_false (by omega)];rfl
 · rw[Nat.compare_eq_gt.2 h,decide_eq_true (show (a≠b) by omega)];rfl
theorem o_lt{a b:Nat}(ha:a≤9218868437227405312)(hb:b≤9218868437227405312):(FloatKind.f64.format.order a b == some Ordering.lt)=decide (a<b):=by
 have e:FloatKind.f64.format.order a b=some (compare a b):=Nea.order_rung ha hb;rw[e];rcases Nat.lt_trichotomy a b with h|h|h
 · rw[Nat.compare_eq_lt.2 h,decide_eq_true (show (a<b) by omega)];rfl
 · subst h;rw[Nat.compare_eq_eq.2 rfl,decide_eq_false (by omega)];rfl
 · rw[Nat.compare_eq_gt.2 h,decide_eq_false (show ¬(a<b) by omega)];rfl
theorem o_gt{a b:Nat}(ha:a≤9218868437227405312)(hb:b≤9218868437227405312):(FloatKind.f64.format.order a b == some Ordering.gt)=decide (b<a):=by
 have e:FloatKind.f64.format.order a b=some (compare a b):=Nea.order_rung ha hb;rw[e];rcases Nat.lt_trichotomy a b with h|h|h
 · rw[Nat.compare_eq_lt.2 h,decide_eq_false (show ¬(b<a) by omega)];rfl
 · subst h;rw[Nat.compare_eq_eq.2 rfl,decide_eq_false (by omega)];rfl
 · rw[Nat.compare_eq_gt.2 h,decide_eq_true (show (b<a) by omega)];rfl
set_option maxHeartbeats 400000 in
theorem Qb5(x:Nat)(w:World)(hx:x≤9218868437227405312):Calls Tryz.prog 76 #[.float .f64 x] w fun e w'=>e=.returned (.bool false)∧w'=w:=by
 have h1:=o_ne hx hx;rw[decide_eq_false (by simp)] at h1;clear hx;go_enter Tryz.func76,Tryz.ntmps76;go_wp2;go_ret;exact⟨rfl,rfl⟩
set_option maxHeartbeats 400000 in
theorem Qhk(x:Nat)(w:World)(hx:x<9218868437227405312):Calls Tryz.prog 41 #[.float .f64 x,.int .i64 0] w fun e w'=>e=.returned (.bool false)∧w'=w:=by
 have h1:=o_gt (a:=x) (b:=9218868437227405311) (by omega) (by decide);rw[decide_eq_false (by omega)] at h1;have HA:=Hi (m_abs x w (Nea.and_not_top (by omega)));clear hx;go_enter Tryz.func41,Tryz.ntmps41;go_wp2_with fail;refine HA.out.mono ?_;rintro e w1 ⟨rfl,rfl⟩;go_wp2;go_ret;exact⟨rfl,rfl⟩
set_option maxHeartbeats 400000 in
theorem Qhl(x:Nat)(w:World)(hx:x≤9218868437227405312):Calls Tryz.prog 41 #[.float .f64 x,.int .i64 1] w fun e w'=>e=.returned (.bool (decide (x=9218868437227405312)))∧w'=w:=by
 obtain⟨b,hb⟩:∃b,decide (x=9218868437227405312)=b:=⟨_,rfl⟩;have h1:=o_gt (a:=x) (b:=9218868437227405311) hx (by decide);rw[show decide (9218868437227405311<x)=decide (x=9218868437227405312) from decide_eq_decide.2 (by omega),hb] at h1;rw[hb];clear hx hb;go_enter Tryz.func41,Tryz.ntmps41;go_wp2;go_ret;exact⟨rfl,rfl⟩
set_option maxRecDepth 100000 in
set_option maxHeartbeats 400000 in
theorem m_inf(w:World):Calls Tryz.prog 46 #[.int .i64 1] w fun e w'=>e=.returned (.float .f64 9218868437227405312)∧w'=w:=by
 have h1:∀w,(callFunc 79 #[.int .u64 9218868437227405312]).run Tryz.prog w=.ok (.value (.float .f64 9218868437227405312)) w:=Qba 9218868437227405312;go_enter Tryz.func46,Tryz.ntmps46;go_wp2;go_ret;exact⟨rfl,rfl⟩
set_option maxHeartbeats 400000 in
theorem Qhm(x:Nat)(w:World)(h1:4503599627370496≤x)(hx:x≤9218868437227405312):Calls Tryz.prog 132 #[.float .f64 x] w fun e w'=>e=.returned (.tuple #[.float .f64 x,.int .i64 0])∧w'=w:=by
 have h2:=o_lt (a:=x) (b:=4503599627370496) hx (by decide);rw[decide_eq_false (by omega)] at h2;have HA:=Hi (m_abs x w (Nea.and_not_top (by omega)));clear hx h1;go_enter Tryz.func132,Tryz.ntmps132;go_wp2_with fail;refine HA.out.mono ?_;rintro e w1 ⟨rfl,rfl⟩;go_wp2;go_ret2;exact⟨rfl,rfl⟩
end Go.Proofs.YtodfmpjhcmapmaaGreatDoor
