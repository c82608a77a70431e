/- num's divideStep. -/
import Derived.Test.YtbbkamnfjejceaaGreatDoorT24NatGuess
namespace Go.Proofs.YtbbkamnfjejceaaGreatDoor
open Go.RowKit
set_option linter.unusedVariables false
set_option linter.unusedSimpArgs false
theorem Qdw{B:Nat}{u w:World}(h:Below B u w)(n:Nat):Below B u (w.drewN n):=⟨h.os,h.tape,h.output,h.size,h.block⟩
theorem RowDone.trans{w w1 w2:World}{g off n:Nat}{rs r1 r2:List Nat}(h:RowDone w w1 g off n rs r1)(k:RowDone w1 w2 g off n r1 r2):RowDone w w2 g off n rs r2:=
 ⟨k.blk,k.len.trans h.len,k.small,h.only.trans k.only,fun p hp=>(k.out p hp).trans (h.out p hp)⟩
theorem Qlk{B j x:Nat}{us vs:List Nat}(hB:0<B)(hj:j≤us.length)(hl:vs.length=us.length)(hbel:∀p,p<j→vs.getD p 0=us.getD p 0)(t:Nat)(h:val B vs+B ^ j*x=val B us+B ^ j*t):val B (vs.drop j)+x=val B (us.drop j)+t:=by
 have e1:vs.take j=us.take j:=by
  apply List.ext_getElem
  · simp[hl]
  ·
   intro i h1 h2;have hi:i<j:=by simp at h1;omega
   have:=hbel i hi;rw[List.getD_eq_getElem?_getD,List.getD_eq_getElem?_getD,List.getElem?_eq_getElem (by simp at h1;omega),List.getElem?_eq_getElem (by simp at h2;omega)] at this;simp only[List.getElem_take]
   simpa using this
 rw[Qah B vs j (by omega),Qah B us j hj,e1] at h;have h2:B ^ j*(val B (vs.drop j)+x)=B ^ j*(val B (us.drop j)+t):=by rw[Nat.mul_add,Nat.mul_add];omega
 exact Nat.eq_of_mul_eq_mul_left (Nat.pow_pos hB) h2
theorem Qll{B e y top lack bo X Y:Nat}{us1:List Nat}(he:e<us1.length)(hy:us1.getD e 0=y)(h:val B us1+X=Y+B ^ e*lack)(ht:top+lack=y+B*bo):val B (us1.set e top)+X=Y+B ^ (e+1)*bo:=by
 have h1:=Qa3 B us1 e top he;rw[hy] at h1;have h2:B ^ e*(top+lack)=B ^ e*(y+B*bo):=by rw[ht]
 rw[Nat.mul_add,Nat.mul_add,←Nat.mul_assoc] at h2;rw[Nat.pow_succ];omega
theorem Qlm{B e y top c top2 ca bo Dj Y qD:Nat}{us1 us2:List Nat}(he:e<us1.length)(he2:e<us2.length)(hy:us1.getD e 0=y)(hy2:us2.getD e 0=y)(h:val B (us1.set e top)+(qD+Dj)=Y+B ^ (e+1)*(bo+ca))(ha:val B us2+B ^ e*c=val B us1+Dj)(ht:top2+B*ca=top+c):val B (us2.set e top2)+qD=Y+B ^ (e+1)*bo:=by
 have h1:=Qa3 B us1 e top he;have h3:=Qa3 B us2 e top2 he2;rw[hy] at h1;rw[hy2] at h3;have h2:B ^ e*(top2+B*ca)=B ^ e*(top+c):=by rw[ht]
 rw[Nat.mul_add,Nat.mul_add,←Nat.mul_assoc] at h2;rw[Nat.pow_succ,Nat.mul_add] at h;rw[Nat.pow_succ];omega
theorem Qln{r q D L:Nat}(hD:0<D)(h:r+q*D=L)(hq:L / D≤q):r<D:=by
 have h1:q≤L / D:=(Nat.le_div_iff_mul_le hD).2 (by omega);have h2:=Nat.div_add_mod L D;have h3:=Nat.mod_lt L hD;have h4:L / D=q:=by omega
 rw[h4,Nat.mul_comm] at h2;omega
theorem Qlo{r q D L T:Nat}(hD:0<D)(h:r+q*D=L+T)(hr:r<T):L / D<q:=by
 rw[Nat.div_lt_iff_lt_mul hD];omega
set_option maxRecDepth 100000 in
set_option maxHeartbeats 4000000 in
theorem Qlp(g j n cap N p:Nat)(us:List Nat)(a2:Option Addr)(c2:Nat)(m:List Nat)(D:Nat)(w:World)(hB:Blk .u64 146 w g us)(hsm:Small 18446744073709551616 us)(hm:U64 w a2 c2 m D)(hn:m.length=N)(hNn:N=n+2)(hpn:p=n+1)(hne:∀b o,a2=some ⟨b,o,none⟩→b≠g)
 (hj:j+N+1≤us.length) (hz:val 18446744073709551616 (us.drop (j+N+1))=0) (hL:val 18446744073709551616 (us.drop j)<18446744073709551616*D) (hcap:N+1≤cap):
 Calls Tryz.prog 223 #[.slice (some ⟨g,j,none⟩) (N+1) cap,.slice a2 N c2] w fun e w'=>∃(q:Nat) (us':List Nat),e=.returned (.int .u64 (q:Int))∧q<18446744073709551616∧RowDone w w' g j (N+1) us us'∧val 18446744073709551616 us'+18446744073709551616 ^ j*(q*D)=val 18446744073709551616 us∧val 18446744073709551616 (us'.drop j)<D:=by
 have hms:=hm.short;rw[hn] at hms;have HB0:=Hi hB;have HSM:=Hi hsm;have HM:=Hi hm;have HNE:=Hi hne;obtain⟨b,o,rfl,hb1,hd1⟩:=hm.row.cell p (by omega);obtain⟨b',o',hbb,hb2,hd0⟩:=hm.row.cell n (by omega);obtain⟨rfl,rfl⟩:b=b'∧o=o':=by simpa using hbb
 obtain⟨x1,hx1⟩:∃x,m.getD p 0=x:=⟨_,rfl⟩;obtain⟨x0,hx0⟩:∃x,m.getD n 0=x:=⟨_,rfl⟩;rw[hx1] at hd1;rw[hx0] at hd0;obtain⟨y2,hy2⟩:∃x,us.getD (j+N) 0=x:=⟨_,rfl⟩;obtain⟨y1,hy1⟩:∃x,us.getD (j+p) 0=x:=⟨_,rfl⟩;obtain⟨y0,hy0⟩:∃x,us.getD (j+n) 0=x:=⟨_,rfl⟩;have k2:=hB.cell (j+N) (by omega);have k1:=hB.cell (j+p) (by omega);have k0:=hB.cell (j+n) (by omega);rw[hy2] at k2;rw[hy1] at k1;rw[hy0] at k0;have hx1p:0<x1:=by
  rcases hm.num.trim with h|h
  · rw[h] at hn;simp at hn;omega
  · rw[hn,hNn,show n+2 - 1=p by omega,hx1] at h;omega
 have ht:Tops y2 y1 y0 x1 x0 (18446744073709551616 ^ n) (val 18446744073709551616 ((us.drop j).take n)) (val 18446744073709551616 (m.take n)) (val 18446744073709551616 (us.drop j)) D:=by
  refine⟨Nat.pow_pos (by decide),?_,?_,?_,hx1p,hL,?_,?_,?_,?_,?_⟩
  · rw[Qfe 18446744073709551616 us j n (by omega) (by rw[show j+n+3=j+N+1 by omega];exact hz),show j+n+2=j+N by omega,show j+n+1=j+p by omega,hy2,hy1,hy0]
  · rw[←hm.num.eq,Qff 18446744073709551616 m n (by omega),←hpn,hx1,hx0]
  ·
   have:=Qab (B:=18446744073709551616) (by decide) ((hsm.drop j).take n);rw[List.length_take,List.length_drop,Nat.min_eq_left (by omega)] at this;exact this
  · rw[←hy2];exact hsm.getD (by decide) _
  · rw[←hy1];exact hsm.getD (by decide) _
  · rw[←hy0];exact hsm.getD (by decide) _
  · rw[←hx1];exact hm.num.small.getD (by decide) _
  · rw[←hx0];exact hm.num.small.getD (by decide) _
 have HT:=Hi ht;have HY2:=Hi hy2;have HZ:=Hi hz;have HN:=Hi hn;have hy2b:=ht.b2;have w1':IntKind.i64.wrap ((N:Int) - 1)=(p:Int):=by rw[Qa0 _ (by omega) (by omega)];omega
 have w2':IntKind.i64.wrap ((N:Int) - 2)=(n:Int):=by rw[Qa0 _ (by omega) (by omega)];omega
 have i0:(0:Int)≤(N:Int):=by omega
 have i1:(N:Int)<(N:Int)+1:=by omega
 have i2:(0:Int)≤(p:Int):=by omega
 have i3:(p:Int)<(N:Int)+1:=by omega
 have i4:(p:Int)<(N:Int):=by omega
 have i5:(0:Int)≤(n:Int):=by omega
 have i6:(n:Int)<(N:Int)+1:=by omega
 have i7:(n:Int)<(N:Int):=by omega
 clear hB hsm hm hne ht hx1 hx0 hy2 hy1 hy0 hx1p hz hL hbb hNn hpn hn;go_enter Tryz.func223,Tryz.ntmps223;go_wp2_with fail;go_region_held3 (fun w'=>w'.cell? ⟨g,j+N,none⟩=some (.int .u64 y2)∧w'.cell? ⟨g,j+p,none⟩=some (.int .u64 y1)∧w'.cell? ⟨g,j+n,none⟩=some (.int .u64 y0)∧w'.cell? ⟨b,o+p,none⟩=some (.int .u64 x1)∧w'.cell? ⟨b,o+n,none⟩=some (.int .u64 x0)) ((simp [*])) (first|(go_at_call 241;go_fit (Qk2 y2 y1 y0 x1 x0 _ _ _ _ D _ HT.out);rintro e w1 ⟨q,rfl,hq,hqL,n1,hw1⟩;subst hw1));have hd0:0<D:=HT.out.pos;have HO1:Hid (Only g w (w.drewN (1+n1))):=Hi ((Only.refl g w).drewN _);have HB1:Hid (Blk .u64 146 (w.drewN (1+n1)) g us):=Hi HB0.out;have HM1:Hid (U64 (w.drewN (1+n1)) (some ⟨b,o,none⟩) c2 m D):=Hi (HM.out.below (Qdw (Below.refl _ _) _));have HQL:=Hi hqL;clear hqL;go_wp2_with fail;generalize w.drewN (1+n1)=W1 at*
 have hC:=Qld g j cap us (some ⟨b,o,none⟩) c2 m q W1 HB1.out HSM.out HM1.out.row HM1.out.num.small HM1.out.short hq (by have:=HN.out;omega) (by have:=HN.out;omega) HNE.out;rw[HN.out,HM.out.num.eq] at hC;refine hC.mono ?_;rintro e w2 ⟨lack,us1,rfl,hlb,hdone,hval⟩;have hlen1:us1.length=us.length:=hdone.len;have hyy:us1.getD (j+N) 0=y2:=by rw[hdone.out _ (.inr (Nat.le_refl _))];exact HY2.out
 have kk:=hdone.blk.cell (j+N) (by omega);rw[hyy] at kk;obtain⟨top,bo,htb,hbb,htl,hcs⟩:=Qfo y2 lack hy2b hlb;have HE:=Hi (Qll (by omega) hyy hval htl);have HD:=Hi (show RowDone w w2 g j N us us1 from ⟨hdone.blk,hdone.len,hdone.small,HO1.out.trans hdone.only,hdone.out⟩);clear hC hdone hval hyy htl HM1 HB1 k0 k1 k2 hlen1;go_wp2_with (simp only[hcs]);clear kk hcs;go_loopw [6,8,9] (fun qv tv bv wr=>∃(q top bo:Nat) (u1:List Nat),qv=.int .u64 q∧tv=.int .u64 top∧bv=.int .u64 bo∧q<18446744073709551616∧top<18446744073709551616∧bo≤1∧RowDone w wr g j N us u1∧val 18446744073709551616 (u1.set (j+N) top)+18446744073709551616 ^ j*(q*D)=val 18446744073709551616 us+18446744073709551616 ^ (j+N+1)*bo∧val 18446744073709551616 (us.drop j) / D≤q) (fun qv _ _ _=>(intOf qv).toNat)
 case atStart=>exact⟨q,top,bo,us1,rfl,rfl,rfl,hq,htb,hbb,HD.out,HE.out,HQL.out⟩
 case round=>
  clear hq htb hbb HE HD HQL;obtain⟨q,top,bo,u1,rfl,rfl,rfl,hq,htb,hbb,hdone,hE,hQL⟩:=hrel;have hlen1:u1.length=us.length:=hdone.len;have hyy:u1.getD (j+N) 0=y2:=by rw[hdone.out _ (.inr (Nat.le_refl _))];exact HY2.out
  have HLEN:=Hi hlen1;have HYY:=Hi hyy;have HDO:=Hi hdone;have HE:=Hi hE;have HQL:=Hi hQL;have HDR:Hid (val 18446744073709551616 ((u1.set (j+N) top).drop j)+q*D=val 18446744073709551616 (us.drop j)+18446744073709551616 ^ (N+1)*bo):=Hi (by
   refine Qlk (by decide) (by omega) (by rw[List.length_set];exact hlen1) (fun p hp=>by rw[getD_set_ne _ _ _ _ (by omega)];exact hdone.out p (.inl hp)) _ ?_
   rw[hE,←Nat.mul_assoc,←Nat.pow_add,Nat.add_assoc])
  have HSMALL:Hid (val 18446744073709551616 ((u1.set (j+N) top).drop j)<18446744073709551616 ^ (N+1)):=Hi (by
   have hs:=(hdone.small.set (j+N) htb).drop j;have hlt:=Qab (B:=18446744073709551616) (by decide) (hs.take (N+1));rw[List.length_take,List.length_drop,List.length_set,Nat.min_eq_left (by omega)] at hlt;rw[Qah 18446744073709551616 _ (N+1) (by rw[List.length_drop,List.length_set];omega),List.drop_drop];have hz0:val 18446744073709551616 ((u1.set (j+N) top).drop (j+(N+1)))=0:=by
    apply Qdo;intro i;rw[Qco,getD_set_ne _ _ _ _ (by omega),hdone.out _ (.inr (by omega))];have:=Qdp 18446744073709551616 (by decide) _ HZ.out i;rw[Qco] at this;rw[show j+(N+1)+i=j+N+1+i by omega];exact this
   rw[hz0,Nat.mul_zero,Nat.add_zero]
   exact hlt)
  by_cases hb0:bo=0
  ·
   subst hb0;have g1:=hdone.blk.free (j+N);have g2:=hdone.blk.cell (j+N) (by omega);rw[hyy] at g2;clear hdone hE hQL hlen1 hyy;go_wp2;go_ret;refine⟨q,u1.set (j+N) top,rfl,hq,⟨HDO.out.blk.set _ _,by rw[List.length_set];exact HLEN.out,HDO.out.small.set _ htb,HDO.out.only.setCell _ _,fun p hp=>by rw[getD_set_ne _ _ _ _ (by omega)];exact HDO.out.out p (by omega)⟩,by have:=HE.out;rw[Nat.mul_zero,Nat.add_zero] at this;exact this,?_⟩;have:=HDR.out;rw[Nat.mul_zero,Nat.add_zero] at this;exact Qln hd0 this HQL.out
  ·
   have hb1:bo=1:=by omega
   subst hb1;have HGT:Hid (val 18446744073709551616 (us.drop j) / D<q):=Hi (Qlo hd0 (by have:=HDR.out;rw[Nat.mul_one] at this;exact this) HSMALL.out);obtain⟨qm,hqm⟩:∃qm,q=qm+1:=⟨q - 1,by have:=Nat.lt_of_le_of_lt (Nat.zero_le _) HGT.out;omega⟩;have eq1:(q:Int) - 1=(qm:Int):=by omega
   have hqmb:qm<18446744073709551616:=by omega
   have HQM:=Hi hqm;have HQ1:Hid (val 18446744073709551616 (us.drop j) / D≤qm):=Hi (by have h:=HGT.out;rw[hqm] at h;exact Nat.le_of_lt_succ h);have hC:=Qle g j cap u1 (some ⟨b,o,none⟩) c2 m wr HDO.out.blk HDO.out.small (HM.out.row.onlyG HDO.out.only HNE.out) HM.out.num.small HM.out.short (by have:=HN.out;omega) (by have:=HN.out;omega) HNE.out;rw[HN.out,HM.out.num.eq] at hC;have HC:=Hi hC;clear hdone hE hQL hlen1 hyy hqm hC;go_wp2_with fail;refine HC.out.mono ?_;rintro e w3 ⟨c,u2,rfl,hcb,hdone2,hval2⟩;obtain⟨top2,ca,ht2b,hcab,ht2,hca⟩:=Qb0 top c htb (by omega);have hy2':u2.getD (j+N) 0=y2:=by rw[hdone2.out _ (.inr (Nat.le_refl _))];exact HYY.out
   have HDO2:=Hi (HDO.out.trans hdone2);have HE2:Hid (val 18446744073709551616 (u2.set (j+N) top2)+18446744073709551616 ^ j*(qm*D)=val 18446744073709551616 us+18446744073709551616 ^ (j+N+1)*(1 - ca)):=Hi (by
    have h:=HE.out;rw[HQM.out,Nat.succ_mul,Nat.mul_add] at h;rw[Nat.one_mul] at hval2;have hl2:=hdone2.len;have hl1:=HLEN.out;refine Qlm (us1:=u1) (us2:=u2) (by omega) (by omega) HYY.out hy2' ?_ hval2 ht2;rw[show 1 - ca+ca=1 by omega]
    exact h)
   have ebo:(1:Int) - (ca:Int)=((1 - ca:Nat):Int):=by omega
   obtain⟨b2,hb2'⟩:∃b2,1 - ca=b2:=⟨_,rfl⟩;rw[hb2'] at HE2 ebo;have hb2b:b2≤1:=by omega
   clear hdone2 hval2 ht2 hy2' HC hb2';go_wp2_with (simp only[hca]);go_roundw
   case rel=>exact⟨qm,top2,b2,u2,by go_num,rfl,by go_num,hqmb,ht2b,hb2b,HDO2.out,HE2.out,HQ1.out⟩
   case measure=>have:=HQM.out;simp[intOf];omega
end Go.Proofs.YtbbkamnfjejceaaGreatDoor
