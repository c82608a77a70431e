/- num's takeFromEachOther. -/
import Derived.Test.YtfpcipgoedifaaaGreatDoorK14NatStep
namespace Go.Proofs.YtfpcipgoedifaaaGreatDoor
open Go.RowKit
set_option linter.unusedVariables false
set_option linter.unusedSimpArgs false
def QR(w:World)(q r:Nat)(e:Ending)(w':World):Prop:=
 (∃aq cq lq ar cr lr,e=.returned (.tuple #[.slice aq (List.length lq) cq,.slice ar (List.length lr) cr])/\U64 w' aq cq lq q/\U64 w' ar cr lr r)/\Below w.heap.size w w'
set_option maxHeartbeats 400000 in
theorem Qp4(a1 a2:Option Addr)(c1 c2:Nat)(l m:List Nat)(x y:Nat)(w:World)(h1:U64 w a1 c1 l x)(h2:U64 w a2 c2 m y)(hlt:x<y):
 Calls Tryz.prog 123 #[.slice a1 l.length c1,.slice a2 m.length c2] w (QR w (x / y) (x % y)):=by
 have HC:=Hi (Qcq a1 a2 c1 c2 l m x y w h1 h2);rw[Qcf hlt] at HC;have H1:=Hi h1;clear h1 h2;go_enter Tryz.func123,Tryz.ntmps123;go_wp2_with fail;refine HC.out.mono ?_;rintro e w1 ⟨rfl,hb⟩;have HB:=Hi hb;clear hb HC;go_wp2;go_ret2;exact⟨⟨none,0,[],a1,c1,l,rfl,by rw[Nat.div_eq_of_lt hlt];exact U64.nil _,by rw[Nat.mod_eq_of_lt hlt];exact H1.out.below HB.out⟩,HB.out⟩
theorem Qp5{q d r x:Nat}(h:q*d+r=x)(hr:r<d):q=x / d/\r=x % d:=by
 rw[<-h,Nat.mul_comm q d];constructor
 · rw[Nat.mul_add_div (by omega),Nat.div_eq_of_lt hr,Nat.add_zero]
 · rw[Nat.mul_add_mod,Nat.mod_eq_of_lt hr]
set_option maxHeartbeats 1000000 in
theorem Qp6(a1 a2:Option Addr)(c1 c2:Nat)(l m:List Nat)(x y:Nat)(w:World)(h1:U64 w a1 c1 l x)(h2:U64 w a2 c2 m y)(hle:y<=x)(h0:0<y)(hm:m.length=1):
 Calls Tryz.prog 123 #[.slice a1 l.length c1,.slice a2 m.length c2] w (QR w (x / y) (x % y)):=by
 have HC:=Hi (Qcq a1 a2 c1 c2 l m x y w h1 h2);have hcmp:¬(cmp3 x y<0):=fun h=>by have:=(Qat x y).1 h;omega
 have hll:0<l.length:=by
  rcases Nat.eq_zero_or_pos l.length with h|h
  · have:=(h1.num.len_zero (by decide)).2 h;omega
  · exact h
 obtain⟨b,o,rfl,hb1,hc1⟩:=h2.row.cell 0 (by omega);have hy:m.getD 0 0=y:=by
  have he:=h2.num.eq;obtain⟨d,rfl⟩:=List.length_eq_one_iff.1 hm;rw[Qbj,Qdb,Nat.mul_zero,Nat.add_zero] at he;exact he
 rw[hy,Nat.add_zero] at hc1;have hyb:y<18446744073709551616:=by rw[<-hy];exact h2.num.small.getD (by decide) 0
 have hls:=h1.short;have H1:=Hi h1;rw[hm] at HC;rw[hm];have q1:((1:Int) == 1)=true:=rfl;clear h1 h2 hy;go_enter Tryz.func123,Tryz.ntmps123;go_wp2_with fail;refine HC.out.mono ?_;rintro e w1 ⟨rfl,hb⟩;have HB1:=Hi hb;have c0':=ce hb hb1 hc1;clear hb HC;go_wp2_with fail;refine(Qfo a1 c1 l x _ (H1.out.below HB1.out) hll).mono ?_;rintro e w2 ⟨⟨g,cap',rfl,hcap,hg,hP⟩,hb⟩;have HB2:=Hi hb;have c2':=ce hb (by have:=HB1.out.size;show b<_;omega) c0';have HP:=Hi hP;clear hb hP;go_wp2_with fail;refine(Qp9 g cap' y l _ HP.out H1.out.num.small hls h0 hyb).mono ?_;rintro e w3 ⟨rs',r,rfl,hr,hP3,hl3,hs3,hv3,hon3⟩;have HB3:=Hi (show Below w.heap.size w w3 from ((HB1.out.trans (HB2.out.mono HB1.out.size)).trans (hon3.below (by have:=HB1.out.size;omega) (Nat.le_trans HB1.out.size HB2.out.size))));rw[H1.out.num.eq] at hv3;have HQ:=Hi (Qp5 hv3 hr)
 have HP3:=Hi hP3;have HS3:=Hi hs3;have HT:=Hi (Qfn (some ⟨g,0,none⟩) cap' rs' w3 (hP3.row cap' (by omega)) (by omega));rw[hl3] at HT;have HL3:=Hi hl3;clear hP3 hs3 hv3 hon3 hl3;go_wp2_with fail;refine HT.out.mono ?_;rintro e w4 ⟨⟨k,hk,rfl,hkv,hkt⟩,hw⟩;subst hw;have HU:Hid (U64 w4 (some ⟨g,0,none⟩) cap' (rs'.take k) (x / y)):=Hi ⟨(HP3.out.row cap' (by have:=HL3.out;omega)).take k (by have:=HL3.out;omega),⟨HS3.out.take k,hkt,by rw[hkv,HQ.out.1]⟩,by rw[List.length_take];omega⟩;have HK:=Hi (show (rs'.take k).length=k by rw[List.length_take];have:=HL3.out;omega);clear hkv hkt HT;go_wp2_with fail;refine(Qqa r _ (by omega)).mono ?_;rintro e w5 ⟨⟨ar,cr,lr,rfl,hur⟩,hb5⟩;have HUR:=Hi hur;have HB5:=Hi hb5;clear hur hb5;go_wp2;go_ret2;exact⟨⟨some ⟨g,0,none⟩,cap',rs'.take k,ar,cr,lr,by rw[HK.out];rfl,HU.out.below HB5.out,by rw[<-HQ.out.2];exact HUR.out⟩,HB3.out.trans (HB5.out.mono HB3.out.size)⟩
structure DInv (X D N M k:Nat) (us qs:List Nat):Prop where
 ul:us.length=M+N
 ql:qs.length=M
 su:Small 18446744073709551616 us
 sq:Small 18446744073709551616 qs
 eq:val 18446744073709551616 us+D*(18446744073709551616 ^ k*val 18446744073709551616 (qs.drop k))=X
 rem:val 18446744073709551616 (us.drop k)<D
theorem DInv.zero{X D N M k:Nat}{us qs:List Nat}(h:DInv X D N M k us qs)(hk:k<=M)(hD:D<18446744073709551616 ^ N):val 18446744073709551616 (us.drop (k+N))=0:=by
 have:=Qff 18446744073709551616 (by decide) (us.drop k) N (Nat.lt_trans h.rem hD) (by rw[List.length_drop,h.ul];omega);rw[List.drop_drop] at this;exact this
theorem DInv.next{X D N M j q:Nat}{us qs us':List Nat}(h:DInv X D N M (j+1) us qs)(hj:j<M)(hl:us'.length=us.length)(hs:Small 18446744073709551616 us')(hq:q<18446744073709551616)(hv:val 18446744073709551616 us'+18446744073709551616 ^ j*(q*D)=val 18446744073709551616 us)(hr:val 18446744073709551616 (us'.drop j)<D):DInv X D N M j us' (qs.set j q):=by
 refine⟨hl.trans h.ul,by rw[List.length_set];exact h.ql,hs,h.sq.set j hq,?_,hr⟩;rw[Qao _ _ j (by rw[List.length_set,h.ql];exact hj),Qbe _ _ _ (by rw[h.ql];exact hj),List.drop_set,if_pos (by omega),<-h.eq,<-hv,Nat.mul_add,Nat.mul_add,Nat.pow_succ,<-Nat.mul_assoc (18446744073709551616 ^ j) 18446744073709551616,Nat.mul_left_comm D (18446744073709551616 ^ j) q,Nat.mul_comm D q];omega
theorem DInv.win{X D N M j:Nat}{us qs:List Nat}(h:DInv X D N M (j+1) us qs)(hj:j<M)(hD:0<D):val 18446744073709551616 (us.drop j)<18446744073709551616*D:=by
 rw[Qao _ us j (by rw[h.ul];omega)];have h1:=h.su.getD (by decide) j;have h2:=Nat.mul_le_mul_left 18446744073709551616 (show val 18446744073709551616 (us.drop (j+1))+1<=D from h.rem);omega
theorem Qp7{top low s N y:Nat}{md:List Nat}(hN:0<N)(hy:y=low+18446744073709551616 ^ (N - 1)*top)(hlow:low<18446744073709551616 ^ (N - 1))(hs:s<64)(h1:9223372036854775808<=top*2 ^ s)(h2:top*2 ^ s<18446744073709551616)(hmd:Num 18446744073709551616 md (y*2 ^ s)):md.length=N/\y*2 ^ s<18446744073709551616 ^ N/\9223372036854775808*18446744073709551616 ^ (N - 1)<=y*2 ^ s:=by
 obtain⟨K,rfl⟩:∃K,N=K+1:=⟨N - 1,by omega⟩;rw[Nat.add_sub_cancel] at*;have e1:(top+1)*2 ^ s<=18446744073709551616:=by
  have hp:=Qbl (s:=s) (by omega);rw[<-hp,Nat.mul_comm (2 ^ s)];apply Nat.mul_le_mul_right;rw[<-hp,Nat.mul_comm (2 ^ s)] at h2;exact Nat.lt_of_mul_lt_mul_right h2
 have e2:y*2 ^ s<18446744073709551616 ^ (K+1):=by
  have h3:y<18446744073709551616 ^ K*(top+1):=by rw[Nat.mul_add];omega
  have h4:=Nat.mul_lt_mul_of_pos_right h3 (Nat.two_pow_pos s);rw[Nat.mul_assoc] at h4;have h5:=Nat.mul_le_mul_left (18446744073709551616 ^ K) e1;rw[Nat.pow_succ];omega
 have e3:9223372036854775808*18446744073709551616 ^ K<=y*2 ^ s:=by
  have h3:18446744073709551616 ^ K*top<=y:=by omega
  have h4:=Nat.mul_le_mul_right (2 ^ s) h3;rw[Nat.mul_assoc] at h4;have h5:=Nat.mul_le_mul_left (18446744073709551616 ^ K) h1;rw[Nat.mul_comm (18446744073709551616 ^ K) 9223372036854775808] at h5;omega
 refine⟨?_,e2,e3⟩;apply Nat.le_antisymm
 · exact hmd.length_le_of_lt (by decide) e2
 ·
  apply bC;intro hc;have h6:=Qab (B:=18446744073709551616) (by decide) hmd.small;rw[hmd.eq] at h6;have h7:18446744073709551616 ^ md.length<=18446744073709551616 ^ K:=Nat.pow_le_pow_right (by decide) (by omega);omega
theorem Qp8{x s L M N D:Nat}{us:List Nat}(hx:x<18446744073709551616 ^ L)(hML:M+N=L+1)(hN:0<N)(hs:s<64)(hD:9223372036854775808*18446744073709551616 ^ (N - 1)<=D)(hul:us.length=M+N)(hv:val 18446744073709551616 us=x*2 ^ s):val 18446744073709551616 (us.drop M)<D:=by
 apply bC;intro hc;have h1:=Qaj 18446744073709551616 us M (by omega);have h2:18446744073709551616 ^ M*(9223372036854775808*18446744073709551616 ^ (N - 1))<=18446744073709551616 ^ M*val 18446744073709551616 (us.drop M):=Nat.mul_le_mul_left _ (by omega);have h3:2 ^ s<=9223372036854775808:=Nat.pow_le_pow_right (by decide) (show s<=63 by omega);have h4:x*2 ^ s<18446744073709551616 ^ L*9223372036854775808:=Nat.lt_of_le_of_lt (Nat.mul_le_mul_left x h3) (Nat.mul_lt_mul_of_pos_right hx (by decide));rw[Nat.mul_left_comm,<-Nat.pow_add,show M+(N - 1)=L by omega,Nat.mul_comm] at h2;omega
theorem Qi7{l:List Nat}{y N:Nat}(h:Num 18446744073709551616 l y)(hl:l.length=N+1):∃low top,l.getD N 0=top/\y=low+18446744073709551616 ^ N*top/\low<18446744073709551616 ^ N/\0<top/\top<18446744073709551616:=by
 refine⟨val 18446744073709551616 (l.take N),l.getD N 0,rfl,?_,?_,?_,h.small.getD (by decide) N⟩
 ·
  have h1:=Qb0 18446744073709551616 l N (by omega);rw[List.take_of_length_le (by omega),h.eq] at h1;exact h1
 ·
  have:=Qab (B:=18446744073709551616) (by decide) (h.small.take N);rw[List.length_take,Nat.min_eq_left (by omega)] at this;exact this
 ·
  rcases h.trim with h1|h1
  · rw[h1] at hl;simp at hl
  · rw[hl,Nat.add_sub_cancel] at h1;omega
theorem Blk.onlyG{k:IntKind}{t:TypeId}{w w':World}{g c:Nat}{l:List Nat}(h:Blk k t w g l)(ho:Only c w w')(hne:g≠c):Blk k t w' g l:=by
 have:=h.lt;unfold Blk at h ⊢;rw[ho.block g this hne];exact h
def QRo(w:World)(q r:Nat)(e:Ending)(w':World):Prop:=
 (∃aq cq lq g cr C lr,e=.returned (.tuple #[.slice aq (List.length lq) cq,.slice (some ⟨g,0,none⟩) (List.length lr) cr])/\U64 w' aq cq lq q/\ON w' g cr C lr r/\w.heap.size<=g)/\Below w.heap.size w w'
set_option maxRecDepth 100000 in
set_option maxHeartbeats 2000000 in
theorem Qi8(a1 a2:Option Addr)(c1 c2 n:Nat)(l m:List Nat)(x y:Nat)(w:World)(h1:U64 w a1 c1 l x)(h2:U64 w a2 c2 m y)(hle:y<=x)(hm:m.length=n+2)(hlb:l.length<1099511627770):
 Calls Tryz.prog 123 #[.slice a1 l.length c1,.slice a2 m.length c2] w (QRo w (x / y) (x % y)):=by
 have HC:=Hi (Qcq a1 a2 c1 c2 l m x y w h1 h2);have hcmp:¬(cmp3 x y<0):=fun h=>by have:=(Qat x y).1 h;omega
 have hml:m.length<=l.length:=by
  apply bC;intro hc;have:=Qas (B:=18446744073709551616) (by decide) h1.num.small h2.num.trim (by omega);rw[h1.num.eq,h2.num.eq] at this;omega
 obtain⟨low,top,htop,hy,hlow,htp,htb⟩:=Qi7 (N:=n+1) h2.num hm;obtain⟨b,o,rfl,hb1,hc1⟩:=h2.row.cell (n+1) (by omega);rw[htop] at hc1;obtain⟨s,hs64,hs,hs1,hs2⟩:=Qe9 top htp htb;have HLEAD:=Hi (fun w=>Qe8 (top:Int) w (by omega) (by omega));rw[hs] at HLEAD;obtain⟨N,hN⟩:=nm m.length;obtain⟨p,hp⟩:=nm (n+1);have hNp:N=p+1:=by omega
 rw[hp] at hc1;have H1:=Hi h1;have H2:=Hi h2;rw[hN] at HC;rw[hN];have hxs:=Qab (B:=18446744073709551616) (by decide) h1.num.small;rw[h1.num.eq] at hxs;have HXS:=Hi hxs;have HY:=Hi hy;have q1:((N:Int) == 1)=false:=by rw[beq_eq_false_iff_ne];omega
 have w1':IntKind.i64.wrap ((N:Int) - 1)=(p:Int):=by rw[Qa0 _ (by omega) (by omega)];omega
 have HS1:=Hi hs1;have HS2:=Hi hs2;have HLOW:=Hi hlow;have HP:=Hi hp;have HNP:=Hi hNp;have HM:=Hi hm;have HN:=Hi hN;have hN1:1<=N:=by omega
 have hpN:p<N:=by omega
 have hpN':(p:Int)<(N:Int):=by omega
 have hN2:2<=N:=by omega
 rw[hN] at hml;clear h1 h2 hy hs htop hxs hs1 hs2 hlow hp hNp hm hN;go_enter Tryz.func123,Tryz.ntmps123;go_wp2_with fail;go_fit HC.out;rintro e w1 ⟨rfl,hb⟩;have HB1:=Hi hb;have c1':=ce hb hb1 hc1;clear hb HC hc1;go_wp2_with fail;go_fit (HLEAD.out _);rintro e w2 ⟨rfl,hw⟩;subst hw;clear HLEAD;go_wp2_with fail;go_fit (Qji a1 c1 s l x _ (H1.out.below HB1.out) (by omega) hs64);rintro e w3 ⟨⟨us,rfl,hBu,hul,hus,huv⟩,hb⟩;have HB3:=Hi (HB1.out.trans (hb.mono HB1.out.size));have hsz3:w2.heap.size<w3.heap.size:=hBu.lt;have hU2:=Qji (some ⟨b,o,none⟩) c2 s m y w3 (H2.out.below HB3.out) (by have:=HN.out;omega) hs64;rw[HN.out] at hU2;have HU2:=Hi hU2;have HBU:=Hi hBu;have HUL:=Hi hul;have HUS:=Hi hus;have HUV:=Hi huv;clear hb hBu hul hus huv hU2;go_wp2_with fail;go_fit HU2.out;rintro e w4 ⟨⟨vs,rfl,hBv,hvl,hvs,hvv⟩,hb⟩;have HB4:=Hi hb
 have hsz4:w3.heap.size<w4.heap.size:=hBv.lt;have HTR:=Hi (Qco w3.heap.size (N+1) (N+1) (y*2 ^ s) vs w4 hBv hvl hvs lZ (by omega) hvv);clear hb hBv hvl hvs hvv HU2;go_wp2_with fail;go_fit HTR.out;rintro e w5 ⟨⟨md,rfl,hmd⟩,hw⟩;subst hw;have hup:=Qp7 (N:=N) (by omega) (by have h:=HY.out;rw[HP.out,show p=N - 1 by have:=HNP.out;omega] at h;exact h) (by have h:=HLOW.out;rw[HP.out,show p=N - 1 by have:=HNP.out;omega] at h;exact h) hs64 HS1.out HS2.out hmd.num;rw[hup.1];obtain⟨D,hD⟩:=nm (y*2 ^ s);rw[hD] at hmd hup;obtain⟨M,hM,hM1⟩:∃M,M+N=l.length+1/\1<=M:=⟨l.length+1 - N,by omega,by omega⟩;have HDL:=Hi hup.1;have HDB:=Hi hup.2.1;have HDT:=Hi hup.2.2;have HMD:=Hi hmd;have HDE:=Hi hD;clear hmd hup hD HTR;have wm:IntKind.i64.wrap ((l.length:Int)+1 - (N:Int))=(M:Int):=by rw[Qa0 _ (by omega) (by omega)];omega
 have wm2:(l.length:Int)+1 - (N:Int)=(M:Int):=by omega
 have hmk:∀w,(Instr.makeSlice 101 (.int .i64 (M:Int)) (.int .i64 (M:Int))).run Tryz.prog w=.ok (.slice (some ⟨w.heap.size,0,none⟩) M M) (w.alloc (.cells (wordCells .u64 (zeros M)) 123)):=
  fun w=>Qcm _ M rfl (by omega) w
 have HMN:=Hi hM;clear hM;go_wp2_with fail;clear hmk;have hd0:0<D:=Nat.lt_of_lt_of_le (Nat.mul_pos (by decide) (Nat.pow_pos (by decide))) HDT.out;have hsz2:w.heap.size<=w2.heap.size:=HB1.out.size;go_loopw [11] (fun i wr=>∃(k:Nat) (us qs:List Nat),k<=M/\i=.int .i64 ((k:Int) - 1)/\Blk .u64 123 wr w2.heap.size us/\Blk .u64 123 wr w5.heap.size qs/\U64 wr (some ⟨w3.heap.size,0,none⟩) (N+1) md D/\DInv (x*2 ^ s) D N M k us qs/\Below w.heap.size w wr) (fun i _=>(intOf i+1).toNat)
 case atStart=>
  refine⟨M,us,zeros M,Nat.le_refl _,rfl,(HBU.out.below HB4.out (by omega)).alloc _,Blk.new _ _ _ _,HMD.out.below (bR.alloc lZ _),⟨?_,Qai _,HUS.out,Qap _ _ (by decide),?_,?_⟩,(HB3.out.trans (HB4.out.mono (by omega))).alloc (by omega) _⟩
  · rw[HUL.out];have:=HMN.out;omega
  · rw[List.drop_of_length_le (by rw[Qai];exact Nat.le_refl _),Qdb,Nat.mul_zero,Nat.mul_zero,Nat.add_zero];exact HUV.out
  · exact Qp8 HXS.out HMN.out (by omega) hs64 HDT.out (by rw[HUL.out];have:=HMN.out;omega) HUV.out
 case round=>
  clear HBU HUL HUS HUV;obtain⟨k,us,qs,hk,rfl,hBu,hBq,hUd,hI,hb⟩:=hrel;have HBU:=Hi hBu;have HBQ:=Hi hBq;have HUD:=Hi hUd;have HI:=Hi hI;have HB:=Hi hb;by_cases h0:k=0
  ·
   subst h0;have hrem:=hI.rem;have heq:=hI.eq;rw[List.drop_zero] at hrem;rw[List.drop_zero,Nat.pow_zero,Nat.one_mul] at heq;have HDD:=Hi (Qfg (Nat.two_pow_pos s) rfl HDE.out heq hrem);have htk:val 18446744073709551616 (us.take N)=val 18446744073709551616 us:=by
    have h1:=Qff 18446744073709551616 (by decide) us N (Nat.lt_trans hrem HDB.out) (by rw[hI.ul];omega);have h2:=Qaj 18446744073709551616 us N (by rw[hI.ul];omega);rw[h1,Nat.mul_zero,Nat.add_zero] at h2;exact h2.symm
   have hul:us.length=l.length+1:=by rw[hI.ul];exact HMN.out
   have HT1:=Hi (Qco w5.heap.size M M (x / y) qs wr.drew hBq.drew hI.ql hI.sq lZ (by omega) HDD.out.1);have hDn:=Qqc (some ⟨w2.heap.size,0,none⟩) (l.length+1) s (us.take N) wr.drew ((hBu.drew).row N (by omega) (l.length+1) (by omega)) (hI.su.take N) (by rw[List.length_take];omega) hs64;rw[List.length_take,Nat.min_eq_left (by omega),htk,HDD.out.2] at hDn;have HDN:=Hi hDn;clear hrem heq htk hul hBu hBq hUd hI hb hDn;go_wp2_with fail;have iN:(0:Int)<=(N:Int):=by omega
   have iN':(N:Int)<=(l.length:Int)+1:=by omega
   go_region_held3 (fun _=>True) (trivial) (first
    |(
     go_at_call 131;go_fit HT1.out;rintro e w6 ⟨⟨r,rfl,hu⟩,hw⟩;subst hw;have HU:=Hi hu
     clear hu)
    |(
     go_at_call 162;go_fit HDN.out;rintro e w7 ⟨⟨C7,lr,rfl,hur⟩,hb7⟩;have HUR:=Hi hur;have HB7:=Hi hb7
     clear hur hb7))
   go_wp2;go_ret2;exact⟨⟨_,_,r,_,_,C7,lr,rfl,HU.out.below HB7.out,HUR.out,HB.out.size⟩,HB.out.drew.trans (HB7.out.mono HB.out.size)⟩
  ·
   obtain⟨j,rfl⟩:∃j,k=j+1:=⟨k - 1,by omega⟩;obtain⟨z,hz⟩:=nm (qs.getD j 0);have hjM:j<M:=by omega
   have hcapj:j+N<=l.length:=by have:=HMN.out;omega
   have hul:us.length=l.length+1:=by rw[hI.ul];exact HMN.out
   have hS:=Qq7 w2.heap.size j n (l.length+1 - j) N p us (some ⟨w3.heap.size,0,none⟩) (N+1) md D wr hBu hI.su hUd HDL.out (by have:=HM.out;have:=HN.out;omega) HP.out.symm (fun b' o' h=>by
    obtain⟨rfl,rfl⟩:w3.heap.size=b'/\0=o':=by simpa using h
    omega) (by omega) (by have:=hI.zero (by omega) HDB.out;rw[show j+N+1=j+1+N by omega];exact this) (hI.win hjM hd0) (by omega)
   have HS:=Hi hS;have HQL:=Hi hI.ql;have HZ:=Hi hz;have ei:((j+1:Nat):Int) - 1=(j:Int):=by omega
   rw[ei];clear ei hBu hBq hUd hI hb hz hS;go_wp2_with fail;rw[show j+N+1 - j=N+1 by omega];go_fit HS.out;rintro e w6 ⟨q,us',rfl,hq,hdone,hval,hrem⟩;have hBq6:=HBQ.out.onlyG hdone.only (by omega);have g1:=hBq6.free j;have g2:=hBq6.cell j (by have:=HQL.out;omega);rw[HZ.out] at g2;have HI6:=Hi (HI.out.next hjM hdone.len hdone.small hq hval hrem);have HBQ6:=Hi hBq6;have HDO:=Hi hdone;clear hBq6 hdone hval hrem HS;go_wp2;go_roundw
   case rel=>
    have hs6:=HB.out.size;refine⟨j,us',qs.set j q,by omega,by go_num,HDO.out.blk.other (by omega) _ _,HBQ6.out.set j q,?_,HI6.out,(HB.out.trans (HDO.out.only.below (by omega) hs6)).setCell (by show w.heap.size<=w5.heap.size;omega) _⟩;have hu6:=HUD.out.onlyG HDO.out.only (fun b' o' h=>by
     obtain⟨rfl,rfl⟩:w3.heap.size=b'/\0=o':=by simpa using h
     omega)
    exact hu6.onlyG ((Only.refl w5.heap.size w6).setCell _ _) (fun b' o' h=>by
     obtain⟨rfl,rfl⟩:w3.heap.size=b'/\0=o':=by simpa using h
     omega)
   case measure=>simp[intOf]
theorem Qqb(a1 a2:Option Addr)(c1 c2 n:Nat)(l m:List Nat)(x y:Nat)(w:World)(h1:U64 w a1 c1 l x)(h2:U64 w a2 c2 m y)(hle:y<=x)(hm:m.length=n+2)(hlb:l.length<1099511627770):
 Calls Tryz.prog 123 #[.slice a1 l.length c1,.slice a2 m.length c2] w (QR w (x / y) (x % y)):=by
 refine(Qi8 a1 a2 c1 c2 n l m x y w h1 h2 hle hm hlb).mono ?_;rintro e w' ⟨⟨aq,cq,lq,g,cr,C,lr,rfl,h3,h4,_⟩,hb⟩;exact⟨⟨aq,cq,lq,_,cr,lr,rfl,h3,h4.u64⟩,hb⟩
theorem Qjc(a1 a2:Option Addr)(c1 c2:Nat)(l m:List Nat)(x y:Nat)(w:World)(h1:U64 w a1 c1 l x)(h2:U64 w a2 c2 m y)(h0:0<y)(hlb:l.length<1099511627770):
 Calls Tryz.prog 123 #[.slice a1 l.length c1,.slice a2 m.length c2] w (QR w (x / y) (x % y)):=by
 by_cases hlt:x<y
 · exact Qp4 a1 a2 c1 c2 l m x y w h1 h2 hlt
 ·
  have hm0:m.length≠0:=fun h=>by have:=(h2.num.len_zero (by decide)).2 h;omega
  by_cases hm1:m.length=1
  · exact Qp6 a1 a2 c1 c2 l m x y w h1 h2 (by omega) h0 hm1
  · exact Qqb a1 a2 c1 c2 (m.length - 2) l m x y w h1 h2 (by omega) (by omega) hlb
def Nat64(w:World)(n:Nat)(e:Ending)(w':World):Prop:=(∃a cap l,e=.returned (.slice a (List.length l) cap)/\U64 w' a cap l n)/\Below w.heap.size w w'
set_option maxHeartbeats 400000 in
theorem Qqn(a1 a2:Option Addr)(c1 c2:Nat)(l m:List Nat)(x y:Nat)(w:World)(h1:U64 w a1 c1 l x)(h2:U64 w a2 c2 m y)(h0:0<y)(hlb:l.length<1099511627770):
 Calls Tryz.prog 86 #[.slice a1 l.length c1,.slice a2 m.length c2] w (Nat64 w (x / y)):=by
 have HO:=Hi (Qcp a2 c2 m y w h2);have HD:=Hi (Qjc a1 a2 c1 c2 l m x y w h1 h2 h0 hlb);have H1:=Hi h1;clear h1 h2;by_cases hy:y=1
 ·
  rw[show decide (y=1)=true by simpa using hy] at HO;go_enter Tryz.func86,Tryz.ntmps86;go_wp2_with fail;go_fit HO.out;rintro e w1 ⟨rfl,hw⟩;subst hw;clear HO HD;go_wp2;go_ret;exact⟨⟨a1,c1,l,rfl,by rw[hy,Nat.div_one];exact H1.out⟩,Below.refl _ _⟩
 ·
  rw[show decide (y=1)=false by simpa using hy] at HO;go_enter Tryz.func86,Tryz.ntmps86;go_wp2_with fail;go_fit HO.out;rintro e w1 ⟨rfl,hw⟩;subst hw;go_wp2_with fail;go_fit HD.out;rintro e w2 ⟨⟨aq,cq,lq,ar,cr,lr,rfl,hq,hr⟩,hb⟩;have HQ:=Hi hq;have HB:=Hi hb;clear hq hr hb HO HD;go_wp2;go_ret;exact⟨⟨aq,cq,lq,rfl,HQ.out⟩,HB.out⟩
set_option maxHeartbeats 400000 in
theorem Qqo(x y:Nat)(w:World)(hx:x<18446744073709551616)(hy:y<18446744073709551616):
 Calls Tryz.prog 126 #[.int .u64 x,.int .u64 y] w fun e w'=>e=.returned (.int .u64 ((Nat.gcd x y:Nat):Int))/\Below w.heap.size w w':=by
 obtain⟨G,hG⟩:=nm (Nat.gcd x y);rw[hG];have HG:=Hi hG;clear hG;go_enter Tryz.func126,Tryz.ntmps126;go_wp2;go_loopw [0,1] (fun xv yv wr=>∃a b:Nat,xv=.int .u64 a/\yv=.int .u64 b/\a<18446744073709551616/\b<18446744073709551616/\Nat.gcd a b=G/\Below w.heap.size w wr) (fun _ yv _=>(intOf yv).toNat)
 case atStart=>exact⟨x,y,rfl,rfl,hx,hy,HG.out,Below.refl _ _⟩
 case round=>
  obtain⟨a,b,rfl,rfl,ha,hb,hg,hbl⟩:=hrel;have HGG:=Hi hg;have HB:=Hi hbl;clear hg hbl;by_cases h0:b=0
  ·
   subst h0;go_wp2;go_ret;exact⟨by rw[<-HGG.out,Nat.gcd_zero_right];rfl,HB.out⟩
  ·
   obtain⟨r,hr⟩:=nm (a % b);have hrb:r<b:=by rw[<-hr];exact Nat.mod_lt _ (by omega)
   have d1:(a:Int) % (b:Int)=(r:Int):=by rw[<-hr];rfl
   have d2:Int.tmod (a:Int) (b:Int)=(r:Int):=by rw[<-hr];rfl
   have q0:((b:Int) != 0)=true:=by rw[bne_iff_ne];omega
   have q1:((b:Int) == 0)=false:=by rw[beq_eq_false_iff_ne];omega
   have HR:=Hi hr;clear hr;go_wp2_with fail;go_region
   all_goals
    go_wp2;go_roundw
    case rel=>exact⟨b,r,rfl,rfl,hb,by omega,by rw[<-HGG.out,<-HR.out,Nat.gcd_comm a b,Nat.gcd_rec b a,Nat.gcd_comm],HB.out.drew⟩
    case measure=>simp[intOf];omega
set_option maxHeartbeats 1000000 in
theorem Qqp(a:Option Addr)(cap d:Nat)(l:List Nat)(x:Nat)(w:World)(h:U64 w a cap l x)(hd0:0<d)(hd:d<18446744073709551616):
 Calls Tryz.prog 127 #[.slice a l.length cap,.int .u64 d] w fun e w'=>e=.returned (.int .u64 ((x % d:Nat):Int))/\Below w.heap.size w w':=by
 have hs:=h.short;obtain⟨R,hR⟩:=nm (x % d);rw[hR];have HR:=Hi hR;have H:=Hi h;clear hR h;go_enter Tryz.func127,Tryz.ntmps127;go_wp2;go_loopw [5,6] (fun r i wr=>∃(k r':Nat),k<=l.length/\r'<d/\r=.int .u64 r'/\i=.int .i64 ((k:Int) - 1)/\val 18446744073709551616 (l.drop k) % d=r'/\Below w.heap.size w wr) (fun _ i _=>(intOf i+1).toNat)
 case atStart=>exact⟨l.length,0,Nat.le_refl _,hd0,rfl,rfl,by rw[List.drop_of_length_le lZ,Qdb,Nat.zero_mod],Below.refl _ _⟩
 case round=>
  obtain⟨k,r,hk,hr,rfl,rfl,hv,hb⟩:=hrel;have HV:=Hi hv;have HB:=Hi hb;clear hv hb;by_cases h0:k=0
  ·
   subst h0;go_wp2;go_ret;exact⟨by rw[<-HR.out,<-H.out.num.eq];have:=HV.out;rw[List.drop_zero] at this;rw[this];rfl,HB.out⟩
  ·
   obtain⟨j,rfl⟩:∃j,k=j+1:=⟨k - 1,by omega⟩;obtain⟨b,off,rfl,hb1,hc1⟩:=(H.out.row.below HB.out).cell j (by omega);obtain⟨z,hz⟩:=nm (l.getD j 0);rw[hz] at hc1;have hzb:z<18446744073709551616:=by rw[<-hz];exact H.out.num.small.getD (by omega) j
   obtain⟨q,r',hq,hr',hqr,hcd⟩:=div64 r z d hr hzb hd;have HCD:=Hi hcd;have HN:Hid (val 18446744073709551616 (l.drop j) % d=r'):=Hi (by
    rw[Qao _ l j (by omega),hz];have h1:=Nat.div_add_mod (val 18446744073709551616 (l.drop (j+1))) d;rw[HV.out] at h1
    rw[<-h1,Nat.mul_add,show z+(18446744073709551616*(d*(val 18446744073709551616 (l.drop (j+1)) / d))+18446744073709551616*r)=d*(18446744073709551616*(val 18446744073709551616 (l.drop (j+1)) / d))+(d*q+r') by rw[Nat.mul_left_comm];omega,Nat.mul_add_mod,Nat.mul_add_mod,Nat.mod_eq_of_lt hr'])
   have ei:((j+1:Nat):Int) - 1=(j:Int):=by omega
   rw[ei];clear ei hcd hqr hz;go_wp2_with fail;go_fit (HCD.out _);rintro e w2 ⟨rfl,n2,hw2⟩;have HB2:Hid (Below w.heap.size w w2):=Hi (by rw[hw2];exact Qdz HB.out n2);clear hw2 HCD;go_wp2;go_roundw
   case rel=>exact⟨j,r',by omega,hr',rfl,by go_num,HN.out,HB2.out⟩
   case measure=>simp[intOf]
set_option maxHeartbeats 400000 in
theorem Qcs(x y c:Nat)(hx:x<18446744073709551616)(hy:y<18446744073709551616)(hc:c<18446744073709551616):∃h l:Nat,h<18446744073709551616/\l<18446744073709551616/\l+18446744073709551616*h=x*y+c/\
 ∀w,Calls Tryz.prog 169 #[.int .u64 x,.int .u64 y,.int .u64 c] w fun e w'=>e=.returned (.tuple #[.int .u64 (h:Int),.int .u64 (l:Int)])/\w'=w:=by
 obtain⟨h,l,hh,hl,hhl,hcm⟩:=mul64 x y hx hy;obtain⟨l',c1,hl',hc1,hlc,hca⟩:=Qcn l c hl hc;have hfit:=Qfq (over:=c) hx hy;have hsum:l'+18446744073709551616*(h+c1)=x*y+c:=by omega
 have hob:h+c1<18446744073709551616:=by omega
 refine⟨h+c1,l',hob,hl',hsum,fun w=>?_⟩;have HCM:=Hi hcm;clear hcm hhl hlc hsum hfit;go_enter Tryz.func169,Tryz.ntmps169;go_wp2_with (first|(go_at_call 168;go_fit (HCM.out _);rintro e w2 ⟨rfl,hw2⟩;subst hw2)|simp only[hca]);go_ret2;exact⟨by rw[Int.natCast_add];rfl,rfl⟩
theorem Qjd{B k u v d e r ox oy bo ox' oy' bo' lx ly:Nat}{rs xs ys:List Nat}(hk:k<rs.length)(hd:xs.getD k 0=d)(he:ys.getD k 0=e)(h1:lx+B*ox'=d*u+ox)(h2:ly+B*oy'=e*v+oy)(h3:r+bo+ly=lx+B*bo')
 (h:val B (rs.take k)+v*val B (ys.take k)+B ^ k*ox=u*val B (xs.take k)+B ^ k*(oy+bo)):
 val B ((rs.set k r).take (k+1))+v*val B (ys.take (k+1))+B ^ (k+1)*ox'=u*val B (xs.take (k+1))+B ^ (k+1)*(oy'+bo'):=by
 rw[take_set _ _ _ hk,Qal,List.length_take,Nat.min_eq_left (by omega),Qad,Qad,hd,he,Nat.pow_succ,Nat.mul_add v,Nat.mul_add u];have e1:B ^ k*(lx+B*ox')=B ^ k*(d*u+ox):=by rw[h1]
 have e2:B ^ k*(ly+B*oy')=B ^ k*(e*v+oy):=by rw[h2]
 have e3:B ^ k*(r+bo+ly)=B ^ k*(lx+B*bo'):=by rw[h3]
 rw[Nat.mul_add,Nat.mul_add,<-Nat.mul_assoc] at e1 e2;rw[Nat.mul_add,Nat.mul_add,Nat.mul_add,<-Nat.mul_assoc] at e3;rw[Nat.mul_add] at h;rw[Nat.mul_add,Nat.mul_left_comm v,Nat.mul_left_comm u,Nat.mul_comm v e,Nat.mul_comm u d];omega
structure Two (b c:Nat) (w w':World):Prop where
 os:w'.os=w.os
 tape:w'.tape=w.tape
 output:w'.output=w.output
 size:w.heap.size<=w'.heap.size
 block:∀k,k<w.heap.size->k≠b->k≠c->w'.heap[k]?=w.heap[k]?
theorem Two.refl(b c:Nat)(w:World):Two b c w w:=⟨rfl,rfl,rfl,Nat.le_refl _,fun _ _ _ _=>rfl⟩
theorem Two.swap{b c:Nat}{w w':World}(h:Two b c w w'):Two c b w w':=⟨h.os,h.tape,h.output,h.size,fun k hk h1 h2=>h.block k hk h2 h1⟩
theorem Two.set1{b c:Nat}{u w:World}(h:Two b c u w)(i:Nat)(v:Value):Two b c u (w.setCell ⟨b,i,none⟩ v):=
 ⟨h.os,h.tape,h.output,by simpa [World.setCell] using h.size,fun k hk h1 h2=>by rw[Below.heap_setCell _ _ _ _ h1];exact h.block k hk h1 h2⟩
theorem Two.set2{b c:Nat}{u w:World}(h:Two b c u w)(i:Nat)(v:Value):Two b c u (w.setCell ⟨c,i,none⟩ v):=(h.swap.set1 i v).swap
theorem Two.below{b c B:Nat}{w w':World}(h:Two b c w w')(hb:B<=b)(hc:B<=c)(hw:B<=w.heap.size):Below B w w':=⟨h.os,h.tape,h.output,h.size,fun k hk=>h.block k (by omega) (by omega) (by omega)⟩
theorem Pre.other{w:World}{g g':Nat}{rs:List Nat}(h:Pre w g rs)(hg:g≠g')(i:Nat)(v:Value):Pre (w.setCell ⟨g',i,none⟩ v) g rs:=by
 obtain⟨C,h,hc⟩:=h;refine⟨C,?_,hc⟩;unfold SB at h ⊢;rw[Below.heap_setCell _ _ _ _ hg];exact h
def Took(n u v:Nat)(V xs ys:List Nat):Prop:=∃o p q:Nat,val 18446744073709551616 (V.take n)+v*val 18446744073709551616 (ys.take n)+18446744073709551616 ^ n*o=u*val 18446744073709551616 (xs.take n)+18446744073709551616 ^ n*(p+q)
theorem Took.end{n u v x y z:Nat}{V xs ys:List Nat}(h:Took n u v V xs ys)(hs:Small 18446744073709551616 V)(hn:n<=V.length)(hx:∃t,x=val 18446744073709551616 (xs.take n)+18446744073709551616 ^ n*t)(hy:∃t,y=val 18446744073709551616 (ys.take n)+18446744073709551616 ^ n*t)(hz:u*x=v*y+z)(hzb:z<18446744073709551616 ^ n):
 val 18446744073709551616 (V.take n)=z:=by
 obtain⟨o,p,q,h⟩:=h;obtain⟨t,rfl⟩:=hx;obtain⟨r,rfl⟩:=hy;have hV:=Qab (B:=18446744073709551616) (by decide) (hs.take n);rw[List.length_take,Nat.min_eq_left hn] at hV;generalize val 18446744073709551616 (V.take n)=A at*;generalize val 18446744073709551616 (xs.take n)=D at*;generalize val 18446744073709551616 (ys.take n)=E at*;generalize 18446744073709551616 ^ n=M at*;have e1:A+M*(o+u*t)=z+M*(p+q+v*r):=by
  have e2:u*(D+M*t)=u*D+M*(u*t):=by rw[Nat.mul_add,Nat.mul_left_comm]
  have e3:v*(E+M*r)=v*E+M*(v*r):=by rw[Nat.mul_add,Nat.mul_left_comm]
  rw[e2,e3] at hz;rw[Nat.mul_add,Nat.mul_add M (p+q)];omega
 have h2:=congrArg (· % M) e1;simp only[Nat.add_mul_mod_self_left] at h2;rw[Nat.mod_eq_of_lt hV,Nat.mod_eq_of_lt hzb] at h2;exact h2
set_option maxRecDepth 100000 in
set_option maxHeartbeats 2000000 in
theorem Qje(gx gy n cx cy a b c d:Nat)(X Y:List Nat)(w:World)(hX:Pre w gx X)(hY:Pre w gy Y)(hne:gx≠gy)(sX:Small 18446744073709551616 X)(sY:Small 18446744073709551616 Y)(nX:n<=X.length)(nY:n<=Y.length)(hn:n<=1099511627776)(hcx:n<=cx)(hcy:n<=cy)
 (ha:a<18446744073709551616) (hb:b<18446744073709551616) (hc:c<18446744073709551616) (hd:d<18446744073709551616):
 Calls Tryz.prog 163 #[.slice (some ⟨gx,0,none⟩) n cx,.slice (some ⟨gy,0,none⟩) n cy,.int .u64 a,.int .u64 b,.int .u64 c,.int .u64 d] w fun e w'=>e=.returned (.tuple #[])/\
  ∃X2 Y2,Pre w' gx X2/\Pre w' gy Y2/\X2.length=X.length/\Y2.length=Y.length/\Small 18446744073709551616 X2/\Small 18446744073709551616 Y2/\Took n a b X2 X Y/\Took n c d Y2 Y X/\Two gx gy w w':=by
 have HX0:=Hi hX;have HY0:=Hi hY;have HSX:=Hi sX;have HSY:=Hi sY;have hne':gy≠gx:=fun h=>hne h.symm
 clear hX hY sX sY;go_enter Tryz.func163,Tryz.ntmps163;go_wp2;go_loopw [12,13,14,15,16,17,31] (fun v12 v13 v14 v15 v16 v17 iv wr=>∃(k oA oB oC oD kx ky:Nat) (X2 Y2:List Nat),k<=n/\oA<18446744073709551616/\oB<18446744073709551616/\oC<18446744073709551616/\oD<18446744073709551616/\kx<=1/\ky<=1/\
  v12=.int .u64 oA/\v13=.int .u64 oB/\v14=.int .u64 oC/\v15=.int .u64 oD/\v16=.int .u64 kx/\v17=.int .u64 ky/\iv=.int .i64 k/\Pre wr gx X2/\Pre wr gy Y2/\X2.length=X.length/\Y2.length=Y.length/\Small 18446744073709551616 X2/\Small 18446744073709551616 Y2/\
  (∀p,k<=p->X2.getD p 0=X.getD p 0)/\(∀p,k<=p->Y2.getD p 0=Y.getD p 0)/\
  val 18446744073709551616 (X2.take k)+b*val 18446744073709551616 (Y.take k)+18446744073709551616 ^ k*oA=a*val 18446744073709551616 (X.take k)+18446744073709551616 ^ k*(oB+kx)/\
  val 18446744073709551616 (Y2.take k)+d*val 18446744073709551616 (X.take k)+18446744073709551616 ^ k*oC=c*val 18446744073709551616 (Y.take k)+18446744073709551616 ^ k*(oD+ky)/\Two gx gy w wr) (fun _ _ _ _ _ _ iv _=>n - (intOf iv).toNat)
 case atStart=>exact⟨0,0,0,0,0,0,0,X,Y,by omega,by omega,by omega,by omega,by omega,by omega,by omega,rfl,rfl,rfl,rfl,rfl,rfl,rfl,HX0.out,HY0.out,rfl,rfl,HSX.out,HSY.out,fun _ _=>rfl,fun _ _=>rfl,by simp[val],by simp[val],Two.refl _ _ _⟩
 case round=>
  obtain⟨k,oA,oB,oC,oD,kx,ky,X2,Y2,hk,hoA,hoB,hoC,hoD,hkx,hky,rfl,rfl,rfl,rfl,rfl,rfl,rfl,hP,hQ,lX,lY,tX,tY,rX,rY,eX,eY,hon⟩:=hrel;have HP:=Hi hP;have HQ:=Hi hQ;have HLX:=Hi lX;have HLY:=Hi lY;have HTX:=Hi tX;have HTY:=Hi tY;have HRX:=Hi rX;have HRY:=Hi rY;have HEX:=Hi eX;have HEY:=Hi eY;have HON:=Hi hon;clear tX tY rX rY eX eY hon;by_cases hlt:k<n
  ·
   obtain⟨u,hu⟩:=nm (X.getD k 0);obtain⟨v,hv⟩:=nm (Y.getD k 0);have hub:u<18446744073709551616:=by rw[<-hu];exact HSX.out.getD (by omega) k
   have hvb:v<18446744073709551616:=by rw[<-hv];exact HSY.out.getD (by omega) k
   obtain⟨oA',lA,hoA',hlA,hA1,hcA⟩:=Qcs u a oA hub ha hoA;obtain⟨oB',lB,hoB',hlB,hB1,hcB⟩:=Qcs v b oB hvb hb hoB;obtain⟨oC',lC,hoC',hlC,hC1,hcC⟩:=Qcs v c oC hvb hc hoC;obtain⟨oD',lD,hoD',hlD,hD1,hcD⟩:=Qcs u d oD hub hd hoD;obtain⟨r,kx',hr,hkx',hrx,hsx⟩:=sub64 lA lB kx hlA hlB hkx;obtain⟨s,ky',hs,hky',hry,hsy⟩:=sub64 lC lD ky hlC hlD hky;have g1:=hP.free k;have g2:=hP.cell k (by omega);rw[HRX.out k lZ,hu] at g2;have g3:=hQ.free k;have g4:=hQ.cell k (by omega);rw[HRY.out k lZ,hv] at g4;have HCA:=Hi hcA;have HCB:=Hi hcB;have HCC:=Hi hcC;have HCD:=Hi hcD;have HSTX:=Hi (Qjd (by omega) hu hv hA1 hB1 hrx HEX.out);have HSTY:=Hi (Qjd (by omega) hv hu hC1 hD1 hry HEY.out);clear hu hv hcA hcB hcC hcD hA1 hB1 hC1 hD1 hrx hry hP hQ lX lY;go_wp2_with fail;go_fit (HCA.out _);rintro e1 w1 ⟨rfl,hw1⟩;subst hw1;go_wp2_with fail;go_fit (HCB.out _);rintro e1 w1 ⟨rfl,hw1⟩;subst hw1
   go_wp2_with fail;go_fit (HCC.out _);rintro e1 w1 ⟨rfl,hw1⟩;subst hw1;go_wp2_with fail;go_fit (HCD.out _);rintro e1 w1 ⟨rfl,hw1⟩;subst hw1;clear HCA HCB HCC HCD;go_wp2_with (simp only[hsx,hsy]);go_roundw
   case rel=>
    refine⟨k+1,oA',oB',oC',oD',kx',ky',X2.set k r,Y2.set k s,by omega,hoA',hoB',hoC',hoD',hkx',hky',rfl,rfl,rfl,rfl,rfl,rfl,by go_num,(HP.out.set k r (by have:=HLX.out;omega)).other hne _ _,(HQ.out.other hne' _ _).set k s (by have:=HLY.out;omega),by rw[List.length_set];exact HLX.out,by rw[List.length_set];exact HLY.out,HTX.out.set k hr,HTY.out.set k hs,?_,?_,HSTX.out,HSTY.out,(HON.out.set1 _ _).set2 _ _⟩
    ·
     intro p hp;rw[getD_set_ne _ _ _ _ (by omega)];exact HRX.out p (by omega)
    ·
     intro p hp;rw[getD_set_ne _ _ _ _ (by omega)];exact HRY.out p (by omega)
   case measure=>simp[intOf];omega
  ·
   have e1:k=n:=by omega
   clear hP hQ lX lY;go_wp2;go_end0;rw[e1] at HEX HEY;exact⟨rfl,X2,Y2,HP.out,HQ.out,HLX.out,HLY.out,HTX.out,HTY.out,⟨oA,oB,kx,HEX.out⟩,⟨oC,oD,ky,HEY.out⟩,HON.out⟩
end Go.Proofs.YtfpcipgoedifaaaGreatDoor
