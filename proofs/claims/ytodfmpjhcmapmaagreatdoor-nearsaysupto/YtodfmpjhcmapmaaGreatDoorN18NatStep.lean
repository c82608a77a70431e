/- num's divideStep. -/
import Derived.Test.YtodfmpjhcmapmaaGreatDoorN17NatShift
import Derived.Deep.DeepFit
namespace Go.Proofs.YtodfmpjhcmapmaaGreatDoor
open Go.RowKit
set_option linter.unusedVariables false
set_option linter.unusedSimpArgs false
theorem wrap_i64(n:Int)(h0: -9223372036854775808≤n)(h1:n<9223372036854775808):IntKind.i64.wrap n=n:=by
 simp[IntKind.wrap,IntKind.signed,IntKind.bits];omega
structure ON (w:World) (g cap:Nat) (C l:List Nat) (n:Nat):Prop where
 pre:Pre w g C
 small:Small 18446744073709551616 C
 len:C.length≤1099511627776
 fro:C.take l.length=l
 num:Num 18446744073709551616 l n
 fit:l.length≤cap
theorem Blk.pre{w:World}{g:Nat}{C:List Nat}(h:Blk .u64 81 w g C):Pre w g C:=
 ⟨wordCells .u64 C,h,fun i hi=>by
   have h1:=SB.cell (w:=w) (b:=g) (t:=81) (C:=wordCells .u64 C) h i;rw[←h1]
   exact h.cell i hi⟩
theorem Pre.rowN{w:World}{g:Nat}{C:List Nat}(h:Pre w g C)(n:Nat)(hn:n≤C.length)(cap:Nat)(hc:n≤cap):Row .u64 w (some ⟨g,0,none⟩) cap (C.take n):=by
 have hl:(C.take n).length=n:=by rw[List.length_take];omega
 refine⟨by omega,.inr ⟨g,0,rfl,h.lt⟩,fun i hi=>⟨g,0,rfl,h.lt,?_⟩⟩;rw[Nat.zero_add,Qd5 _ _ _ (by omega)];exact h.cell i (by omega)
theorem ON.le{w:World}{g cap n:Nat}{C l:List Nat}(h:ON w g cap C l n):l.length≤C.length:=by
 have:=congrArg List.length h.fro;rw[List.length_take] at this;omega
theorem ON.u64{w:World}{g cap n:Nat}{C l:List Nat}(h:ON w g cap C l n):U64 w (some ⟨g,0,none⟩) cap l n:=by
 have hr:=h.pre.rowN l.length h.le cap h.fit;rw[h.fro] at hr;exact⟨hr,h.num,Nat.le_trans h.le h.len⟩
theorem ON.below{w w':World}{g cap n:Nat}{C l:List Nat}(h:ON w g cap C l n)(hb:Below w.heap.size w w'):ON w' g cap C l n:=⟨h.pre.below hb h.pre.lt,h.small,h.len,h.fro,h.num,h.fit⟩
theorem Qco(g n cap x:Nat)(C:List Nat)(w:World)(h:Pre w g C)(hs:Small 18446744073709551616 C)(hb:C.length≤1099511627776)(hn:n≤C.length)(hc:n≤cap)(hx:val 18446744073709551616 (C.take n)=x):
 Calls Tryz.prog 148 #[.slice (some ⟨g,0,none⟩) n cap] w fun e w'=>(∃r,e=.returned (.slice (some ⟨g,0,none⟩) r.length cap)∧ON w g cap C r x∧r.length≤n)∧w'=w:=by
 have hR:=h.rowN n hn cap hc;have hl:(C.take n).length=n:=by rw[List.length_take];omega
 have hT:=Qdj (some ⟨g,0,none⟩) cap (C.take n) w hR (by omega);rw[hl] at hT;refine hT.mono ?_;rintro e w1 ⟨⟨q,hq,rfl,hqv,hqt⟩,rfl⟩;have hqn:q≤n:=by omega
 have htt:(C.take n).take q=C.take q:=by rw[List.take_take,Nat.min_eq_left hqn]
 rw[htt] at hqv hqt;have hql:(C.take q).length=q:=by rw[List.length_take];omega
 exact⟨⟨C.take q,by rw[hql],⟨h,hs,hb,by rw[hql],⟨hs.take q,hqt,hqv.trans hx⟩,by omega⟩,by omega⟩,rfl⟩
set_option maxRecDepth 100000 in
set_option maxHeartbeats 1000000 in
theorem Qmc(a:Option Addr)(cap s:Nat)(l:List Nat)(w:World)(h:Row .u64 w a cap l)(hsm:Small 18446744073709551616 l)(hl:l.length<1099511627776)(hs:s<64):
 Calls Tryz.prog 152 #[.slice a l.length cap,.int .i64 s] w fun e w'=>(∃rs r,e=.returned (.slice (some ⟨w.heap.size,0,none⟩) r.length l.length)∧ON w' w.heap.size l.length rs r (val 18446744073709551616 l / 2 ^ s))∧Below w.heap.size w w':=by
 have hmk:∀w,(Instr.makeSlice 60 (.int .i64 (l.length:Int)) (.int .i64 (l.length:Int))).run Tryz.prog w=.ok (.slice (some ⟨w.heap.size,0,none⟩) l.length l.length) (w.alloc (.cells (wordCells .u64 (zeros l.length)) 81)):=
  fun w=>Qcj _ l.length rfl (by omega) w
 have H:=Hi h;have HSM:=Hi hsm;clear h hsm;go_enter Tryz.func152,Tryz.ntmps152;go_wp2;clear hmk;go_loopw [12] (fun i wr=>∃(k:Nat) (rs:List Nat),k≤l.length∧i=.int .i64 k∧Blk .u64 81 wr w.heap.size rs∧rs.length=l.length∧Small 18446744073709551616 rs∧
  val 18446744073709551616 (rs.take k)*2 ^ s+l.getD 0 0 % 2 ^ s=val 18446744073709551616 (l.take k)+18446744073709551616 ^ k*(l.getD k 0 % 2 ^ s)∧Below w.heap.size w wr) (fun i _=>l.length - (intOf i).toNat)
 case atStart=>exact⟨0,zeros l.length,by omega,rfl,Blk.new _ _ _ _,Qac _,Qah _ _ (by omega),by simp[val],(Below.refl _ _).alloc (Nat.le_refl _) _⟩
 case round=>
  obtain⟨k,rs,hk,rfl,hB,hrl,hrs,hv,hb⟩:=hrel;have HV:=Hi hv;have HRL:=Hi hrl;have HB:=Hi hB;have HRS:=Hi hrs;have HBL:=Hi hb;clear hv hrs hb;by_cases hlt:k<l.length
  ·
   obtain⟨b,off,rfl,hb1,hc1⟩:=H.out.cell k hlt;obtain⟨d,hd⟩:∃d,l.getD k 0=d:=⟨_,rfl⟩;obtain⟨e,he⟩:∃e,l.getD (k+1) 0=e:=⟨_,rfl⟩;have hdb:d<18446744073709551616:=by rw[←hd];exact HSM.out.getD (by omega) k
   have heb:e<18446744073709551616:=by rw[←he];exact HSM.out.getD (by omega) (k+1)
   rw[hd] at hc1;have hc1':=(HBL.out.cell (p:=⟨b,off+k,none⟩) hb1).trans hc1;obtain⟨z,hz⟩:∃z,rs.getD k 0=z:=⟨_,rfl⟩;have g1:=hB.free k;have g2:=hB.cell k (by omega);rw[hz] at g2;obtain⟨lo,hi,new,u1,u2,u3,hnew,hsum⟩:=Qm0 d e s hs hdb heb;have HST:=Hi (Qm1 k d e s new _ rs l (by omega) hd he hsum HV.out);have hcw:=Qbh (some ⟨b,off,none⟩) cap l (k+1) wr.drew (H.out.below HBL.out.drew) (by omega) (by omega);rw[he,show ((k+1:Nat):Int)=(k:Int)+1 by omega] at hcw;have wk:IntKind.i64.wrap ((k:Int)+1)=(k:Int)+1:=wrap_i64 _ (by omega) (by omega);obtain⟨t,ht⟩:∃t,64 - s=t:=⟨_,rfl⟩;have ws:IntKind.i64.wrap (64 - (s:Int))=(t:Int):=by rw[wrap_i64 _ (by omega) (by omega)];omega
   have ht64:t≤64:=by omega
   rw[ht] at u2;clear ht;have HC:=Hi hcw;clear hcw;have i0:(0:Int)≤(k:Int):=by omega
   have i1:(k:Int)<(l.length:Int):=by omega
   have hst:=(((HBL.out.setCell (p:=⟨w.heap.size,k,none⟩) (Nat.le_refl _) (.int .u64 (new:Int))).drew).cell (p:=⟨b,off+k,none⟩) hb1).trans hc1;clear hd he hc1 hz hB hrl hsum;go_wp2_with fail;go_region_held3 (fun w'=>w'.cell? ⟨b,off+k,none⟩=some (.int .u64 d)) ((simp [*])) (first
    |(
     go_at_call 113;go_fit (HC.out);rintro e1 w2 ⟨rfl,hw2⟩
     subst hw2))
   go_wp2;go_roundw
   case rel=>exact⟨k+1,rs.set k new,by omega,by go_num,(HB.out.set k _).drew,by rw[List.length_set];exact HRL.out,HRS.out.set k hnew,HST.out,(HBL.out.setCell (Nat.le_refl _) _).drew⟩
   case measure=>simp[intOf];omega
  ·
   have e1:k=l.length:=by omega
   have hvv:val 18446744073709551616 rs=val 18446744073709551616 l / 2 ^ s:=by
    have e2:=HV.out;rw[e1,List.take_of_length_le (by have:=HRL.out;omega),List.take_length,Qbm l l.length (Nat.le_refl _),Nat.zero_mod,Nat.mul_zero,Nat.add_zero] at e2;have e3:l.getD 0 0 % 2 ^ s<2 ^ s:=Nat.mod_lt _ (Nat.two_pow_pos _);rw[←e2,Nat.mul_comm,Nat.mul_add_div (Nat.two_pow_pos _),Nat.div_eq_of_lt e3,Nat.add_zero]
   have HQ:=Hi hvv;clear hrl hB hvv;go_wp2_with fail;refine(Qco w.heap.size l.length l.length (val 18446744073709551616 l / 2 ^ s) rs _ HB.out.pre HRS.out (by rw[HRL.out];omega) (by rw[HRL.out];exact Nat.le_refl _) (Nat.le_refl _) (by rw[List.take_of_length_le (by rw[HRL.out];exact Nat.le_refl _)];exact HQ.out)).mono ?_;rintro e w1 ⟨⟨r,rfl,hu,_⟩,rfl⟩;have HU:=Hi hu;clear hu;go_wp2;go_ret;exact⟨⟨rs,r,rfl,HU.out⟩,HBL.out⟩
structure Tops (a2 a1 a0 d1 d0 P lw lv W V:Nat):Prop where
 hP:0<P
 hW:W=(a2*18446744073709551616+a1)*(18446744073709551616*P)+a0*P+lw
 hV:V=d1*(18446744073709551616*P)+d0*P+lv
 hlw:lw<P
 hd1:0<d1
 hWV:W<18446744073709551616*V
 b2:a2<18446744073709551616
 b1:a1<18446744073709551616
 b0:a0<18446744073709551616
 c1:d1<18446744073709551616
 c0:d0<18446744073709551616
theorem Tops.pos{a2 a1 a0 d1 d0 P lw lv W V:Nat}(t:Tops a2 a1 a0 d1 d0 P lw lv W V):0<V:=by
 have:=t.hWV;rcases Nat.eq_zero_or_pos V with h|h
 · subst h;omega
 · exact h
theorem Tops.all{a2 a1 a0 d1 d0 P lw lv W V:Nat}(t:Tops a2 a1 a0 d1 d0 P lw lv W V):W / V≤18446744073709551615:=by
 have h:=t.hWV;have:W / V<18446744073709551616:=by rw[Nat.div_lt_iff_lt_mul t.pos];exact h
 omega
theorem Qmj{high low r a0 t:Nat}(ht:low+18446744073709551616*high=t)(hl:low<18446744073709551616)(ha:a0<18446744073709551616):(high<r∨(high=r∧low≤a0))↔t≤r*18446744073709551616+a0:=by omega
set_option maxRecDepth 100000 in
set_option maxHeartbeats 2000000 in
theorem Qmk(a2 a1 a0 d1 d0 P lw lv W V:Nat)(w:World)(t:Tops a2 a1 a0 d1 d0 P lw lv W V):
 Calls Tryz.prog 177 #[.int .u64 a2,.int .u64 a1,.int .u64 a0,.int .u64 d1,.int .u64 d0] w fun e w'=>∃q:Nat,e=.returned (.int .u64 (q:Int))∧q<18446744073709551616∧W / V≤q∧∃n,w'=w.drewN n:=by
 have HT:=Hi t;have b2:=t.b2;have b1:=t.b1;have b0:=t.b0;have c1:=t.c1;have c0:=t.c0;clear t;by_cases hA:d1≤a2
 ·
  go_enter Tryz.func177,Tryz.ntmps177;go_wp2;go_ret;exact⟨18446744073709551615,rfl,by omega,HT.out.all,0,rfl⟩
 ·
  obtain⟨q,r,hq,hr,hqr,hcd⟩:=div64 a2 a1 d1 (by omega) b1 c1;have HCD:=Hi hcd;have HST:Hid (W / V≤q):=Hi (by
   have h1:=Qgl 18446744073709551616 P (a2*18446744073709551616+a1) a0 lw d1 d0 lv W V HT.out.hP (by decide) HT.out.hW HT.out.hV HT.out.hlw b0 HT.out.hd1;have h2:(a2*18446744073709551616+a1) / d1=q:=by
    rw[show a2*18446744073709551616+a1=d1*q+r by omega,Nat.mul_add_div HT.out.hd1,Nat.div_eq_of_lt hr,Nat.add_zero]
   rw[h2] at h1
   exact h1)
  have HQR:Hid (q*d1+r=a2*18446744073709551616+a1):=Hi (by rw[Nat.mul_comm];omega);clear hcd hqr;go_enter Tryz.func177,Tryz.ntmps177;go_wp2_with fail;refine(HCD.out _).mono ?_;rintro e w1 ⟨rfl,n1,hw1⟩;go_wp2_with fail;go_loop [11,12] (fun qv rv=>∃q r:Nat,qv=.int .u64 q∧rv=.int .u64 r∧q<18446744073709551616∧r<18446744073709551616∧q*d1+r=a2*18446744073709551616+a1∧W / V≤q) (fun qv _=>(intOf qv).toNat)
  case atStart=>exact⟨q,r,rfl,rfl,hq,by omega,HQR.out,HST.out⟩
  case round=>
   clear hq hr HCD HST HQR;obtain⟨q,r,rfl,rfl,hq,hr,hqr,hle⟩:=hrel;obtain⟨high,low,hh,hl,hhl,hcm⟩:=mul64 q d0 hq c0;have HCM:=Hi hcm;have HLE:=Hi hle;have HQR:=Hi hqr;have HIF:=Hi (Qmj (r:=r) hhl hl b0);clear hcm hle hqr hhl;by_cases hc1:high<r
   ·
    have hc1':(high:Int)<(r:Int):=by omega
    go_wp2_with fail;refine(HCM.out _).mono ?_;rintro e w2 ⟨rfl,hw2⟩;go_wp2;go_ret;exact⟨q,rfl,hq,HLE.out,n1,rfl⟩
   by_cases hc2:high=r
   ·
    subst hc2;have hc1':¬((high:Int)<(high:Int)):=by omega
    by_cases hc3:low≤a0
    ·
     have hc3':(low:Int)≤(a0:Int):=by omega
     go_wp2_with fail;refine(HCM.out _).mono ?_;rintro e w2 ⟨rfl,hw2⟩;go_wp2;go_ret;exact⟨q,rfl,hq,HLE.out,n1,rfl⟩
    ·
     have hc3':¬((low:Int)≤(a0:Int)):=by omega
     have HGT:Hid (high*18446744073709551616+a0<q*d0):=Hi (Nat.lt_of_not_le (fun h=>by have:=HIF.out.2 h;omega));have HLT:Hid (W / V<q):=Hi (Qec 18446744073709551616 P (a2*18446744073709551616+a1) a0 lw d1 d0 lv W V q high HT.out.hP HT.out.hW HT.out.hV HT.out.hlw HT.out.pos HQR.out HGT.out);obtain⟨qm,hqm⟩:∃qm,q=qm+1:=⟨q - 1,by have:=Nat.lt_of_le_of_lt (Nat.zero_le _) HLT.out;omega⟩;have eq1:(q:Int) - 1=(qm:Int):=by omega
     have hqmb:qm<18446744073709551616:=by omega
     have HQM:=Hi hqm;have HQR1:Hid (qm*d1+(high+d1)=a2*18446744073709551616+a1):=Hi (by have:=HQR.out;rw[hqm,Nat.succ_mul] at this;omega);have HQ1:Hid (W / V≤qm):=Hi (by have h:=HLT.out;rw[hqm] at h;exact Nat.le_of_lt_succ h);clear hqm;by_cases hov:high+d1<18446744073709551616
     ·
      have hov':¬((high:Int)+(d1:Int)<(d1:Int)):=by omega
      go_wp2_with fail;refine(HCM.out _).mono ?_;rintro e w2 ⟨rfl,hw2⟩;subst hw2;go_wp2_with fail;go_round
      case rel=>exact⟨qm,high+d1,by go_num,by go_num,hqmb,hov,HQR1.out,HQ1.out⟩
      case measure=>have:=HQM.out;simp[intOf];omega
     ·
      obtain⟨r2,hr2⟩:∃r2,high+d1=r2+18446744073709551616:=⟨high+d1 - 18446744073709551616,by omega⟩;have ew:IntKind.u64.wrap ((high:Int)+(d1:Int))=(r2:Int):=by rw[Qam];omega
      have hlt2:(r2:Int)<(d1:Int):=by omega
      clear hr2 hov;go_wp2_with fail;refine(HCM.out _).mono ?_;rintro e w2 ⟨rfl,hw2⟩;go_wp2;go_ret;exact⟨qm,rfl,hqmb,HQ1.out,n1,rfl⟩
   ·
    have hc1':¬((high:Int)<(r:Int)):=by omega
    have hc2':((high:Int) == (r:Int))=false:=by rw[beq_eq_false_iff_ne];omega
    have HGT:Hid (r*18446744073709551616+a0<q*d0):=Hi (Nat.lt_of_not_le (fun h=>by have:=HIF.out.2 h;omega));have HLT:Hid (W / V<q):=Hi (Qec 18446744073709551616 P (a2*18446744073709551616+a1) a0 lw d1 d0 lv W V q r HT.out.hP HT.out.hW HT.out.hV HT.out.hlw HT.out.pos HQR.out HGT.out);obtain⟨qm,hqm⟩:∃qm,q=qm+1:=⟨q - 1,by have:=Nat.lt_of_le_of_lt (Nat.zero_le _) HLT.out;omega⟩;have eq1:(q:Int) - 1=(qm:Int):=by omega
    have hqmb:qm<18446744073709551616:=by omega
    have HQM:=Hi hqm;have HQR1:Hid (qm*d1+(r+d1)=a2*18446744073709551616+a1):=Hi (by have:=HQR.out;rw[hqm,Nat.succ_mul] at this;omega);have HQ1:Hid (W / V≤qm):=Hi (by have h:=HLT.out;rw[hqm] at h;exact Nat.le_of_lt_succ h);clear hqm;by_cases hov:r+d1<18446744073709551616
    ·
     have hov':¬((r:Int)+(d1:Int)<(d1:Int)):=by omega
     go_wp2_with fail;refine(HCM.out _).mono ?_;rintro e w2 ⟨rfl,hw2⟩;subst hw2;go_wp2_with fail;go_round
     case rel=>exact⟨qm,r+d1,by go_num,by go_num,hqmb,hov,HQR1.out,HQ1.out⟩
     case measure=>have:=HQM.out;simp[intOf];omega
    ·
     obtain⟨r2,hr2⟩:∃r2,r+d1=r2+18446744073709551616:=⟨r+d1 - 18446744073709551616,by omega⟩;have ew:IntKind.u64.wrap ((r:Int)+(d1:Int))=(r2:Int):=by rw[Qam];omega
     have hlt2:(r2:Int)<(d1:Int):=by omega
     clear hr2 hov;go_wp2_with fail;refine(HCM.out _).mono ?_;rintro e w2 ⟨rfl,hw2⟩;go_wp2;go_ret;exact⟨qm,rfl,hqmb,HQ1.out,n1,rfl⟩
theorem Qep{B:Nat}{u w:World}(h:Below B u w)(n:Nat):Below B u (w.drewN n):=⟨h.os,h.tape,h.output,h.size,h.block⟩
theorem RowDone.trans{w w1 w2:World}{g off n:Nat}{rs r1 r2:List Nat}(h:RowDone w w1 g off n rs r1)(k:RowDone w1 w2 g off n r1 r2):RowDone w w2 g off n rs r2:=
 ⟨k.blk,k.len.trans h.len,k.small,h.only.trans k.only,fun p hp=>(k.out p hp).trans (h.out p hp)⟩
theorem Qm2{B j x:Nat}{us vs:List Nat}(hB:0<B)(hj:j≤us.length)(hl:vs.length=us.length)(hbel:∀p,p<j→vs.getD p 0=us.getD p 0)(t:Nat)(h:val B vs+B ^ j*x=val B us+B ^ j*t):val B (vs.drop j)+x=val B (us.drop j)+t:=by
 have e1:vs.take j=us.take j:=by
  apply List.ext_getElem
  · simp[hl]
  ·
   intro i h1 h2;have hi:i<j:=by simp at h1;omega
   have:=hbel i hi;rw[List.getD_eq_getElem?_getD,List.getD_eq_getElem?_getD,List.getElem?_eq_getElem (by simp at h1;omega),List.getElem?_eq_getElem (by simp at h2;omega)] at this;simp only[List.getElem_take]
   simpa using this
 rw[Qai B vs j (by omega),Qai B us j hj,e1] at h;have h2:B ^ j*(val B (vs.drop j)+x)=B ^ j*(val B (us.drop j)+t):=by rw[Nat.mul_add,Nat.mul_add];omega
 exact Nat.eq_of_mul_eq_mul_left (Nat.pow_pos hB) h2
theorem Qm3{B e y top lack bo X Y:Nat}{us1:List Nat}(he:e<us1.length)(hy:us1.getD e 0=y)(h:val B us1+X=Y+B ^ e*lack)(ht:top+lack=y+B*bo):val B (us1.set e top)+X=Y+B ^ (e+1)*bo:=by
 have h1:=Qbf B us1 e top he;rw[hy] at h1;have h2:B ^ e*(top+lack)=B ^ e*(y+B*bo):=by rw[ht]
 rw[Nat.mul_add,Nat.mul_add,←Nat.mul_assoc] at h2;rw[Nat.pow_succ];omega
theorem Qm4{B e y top c top2 ca bo Dj Y qD:Nat}{us1 us2:List Nat}(he:e<us1.length)(he2:e<us2.length)(hy:us1.getD e 0=y)(hy2:us2.getD e 0=y)(h:val B (us1.set e top)+(qD+Dj)=Y+B ^ (e+1)*(bo+ca))(ha:val B us2+B ^ e*c=val B us1+Dj)(ht:top2+B*ca=top+c):val B (us2.set e top2)+qD=Y+B ^ (e+1)*bo:=by
 have h1:=Qbf B us1 e top he;have h3:=Qbf B us2 e top2 he2;rw[hy] at h1;rw[hy2] at h3;have h2:B ^ e*(top2+B*ca)=B ^ e*(top+c):=by rw[ht]
 rw[Nat.mul_add,Nat.mul_add,←Nat.mul_assoc] at h2;rw[Nat.pow_succ,Nat.mul_add] at h;rw[Nat.pow_succ];omega
theorem Qm5{r q D L:Nat}(hD:0<D)(h:r+q*D=L)(hq:L / D≤q):r<D:=by
 have h1:q≤L / D:=(Nat.le_div_iff_mul_le hD).2 (by omega);have h2:=Nat.div_add_mod L D;have h3:=Nat.mod_lt L hD;have h4:L / D=q:=by omega
 rw[h4,Nat.mul_comm] at h2;omega
theorem Qm6{r q D L T:Nat}(hD:0<D)(h:r+q*D=L+T)(hr:r<T):L / D<q:=by
 rw[Nat.div_lt_iff_lt_mul hD];omega
set_option maxRecDepth 100000 in
set_option maxHeartbeats 4000000 in
theorem Qm7(g j n cap N p:Nat)(us:List Nat)(a2:Option Addr)(c2:Nat)(m:List Nat)(D:Nat)(w:World)(hB:Blk .u64 81 w g us)(hsm:Small 18446744073709551616 us)(hm:U64 w a2 c2 m D)(hn:m.length=N)(hNn:N=n+2)(hpn:p=n+1)(hne:∀b o,a2=some ⟨b,o,none⟩→b≠g)
 (hj:j+N+1≤us.length) (hz:val 18446744073709551616 (us.drop (j+N+1))=0) (hL:val 18446744073709551616 (us.drop j)<18446744073709551616*D) (hcap:N+1≤cap):
 Calls Tryz.prog 151 #[.slice (some ⟨g,j,none⟩) (N+1) cap,.slice a2 N c2] w fun e w'=>∃(q:Nat) (us':List Nat),e=.returned (.int .u64 (q:Int))∧q<18446744073709551616∧RowDone w w' g j (N+1) us us'∧val 18446744073709551616 us'+18446744073709551616 ^ j*(q*D)=val 18446744073709551616 us∧val 18446744073709551616 (us'.drop j)<D:=by
 have hms:=hm.short;rw[hn] at hms;have HB0:=Hi hB;have HSM:=Hi hsm;have HM:=Hi hm;have HNE:=Hi hne;obtain⟨b,o,rfl,hb1,hd1⟩:=hm.row.cell p (by omega);obtain⟨b',o',hbb,hb2,hd0⟩:=hm.row.cell n (by omega);obtain⟨rfl,rfl⟩:b=b'∧o=o':=by simpa using hbb
 obtain⟨x1,hx1⟩:∃x,m.getD p 0=x:=⟨_,rfl⟩;obtain⟨x0,hx0⟩:∃x,m.getD n 0=x:=⟨_,rfl⟩;rw[hx1] at hd1;rw[hx0] at hd0;obtain⟨y2,hy2⟩:∃x,us.getD (j+N) 0=x:=⟨_,rfl⟩;obtain⟨y1,hy1⟩:∃x,us.getD (j+p) 0=x:=⟨_,rfl⟩;obtain⟨y0,hy0⟩:∃x,us.getD (j+n) 0=x:=⟨_,rfl⟩;have k2:=hB.cell (j+N) (by omega);have k1:=hB.cell (j+p) (by omega);have k0:=hB.cell (j+n) (by omega);rw[hy2] at k2;rw[hy1] at k1;rw[hy0] at k0;have hx1p:0<x1:=by
  rcases hm.num.trim with h|h
  · rw[h] at hn;simp at hn;omega
  · rw[hn,hNn,show n+2 - 1=p by omega,hx1] at h;omega
 have ht:Tops y2 y1 y0 x1 x0 (18446744073709551616 ^ n) (val 18446744073709551616 ((us.drop j).take n)) (val 18446744073709551616 (m.take n)) (val 18446744073709551616 (us.drop j)) D:=by
  refine⟨Nat.pow_pos (by decide),?_,?_,?_,hx1p,hL,?_,?_,?_,?_,?_⟩
  · rw[Qgn 18446744073709551616 us j n (by omega) (by rw[show j+n+3=j+N+1 by omega];exact hz),show j+n+2=j+N by omega,show j+n+1=j+p by omega,hy2,hy1,hy0]
  · rw[←hm.num.eq,Qgo 18446744073709551616 m n (by omega),←hpn,hx1,hx0]
  ·
   have:=Qaa (B:=18446744073709551616) (by decide) ((hsm.drop j).take n);rw[List.length_take,List.length_drop,Nat.min_eq_left (by omega)] at this;exact this
  · rw[←hy2];exact hsm.getD (by decide) _
  · rw[←hy1];exact hsm.getD (by decide) _
  · rw[←hy0];exact hsm.getD (by decide) _
  · rw[←hx1];exact hm.num.small.getD (by decide) _
  · rw[←hx0];exact hm.num.small.getD (by decide) _
 have HT:=Hi ht;have HY2:=Hi hy2;have HZ:=Hi hz;have HN:=Hi hn;have hy2b:=ht.b2;have w1':IntKind.i64.wrap ((N:Int) - 1)=(p:Int):=by rw[wrap_i64 _ (by omega) (by omega)];omega
 have w2':IntKind.i64.wrap ((N:Int) - 2)=(n:Int):=by rw[wrap_i64 _ (by omega) (by omega)];omega
 have i0:(0:Int)≤(N:Int):=by omega
 have i1:(N:Int)<(N:Int)+1:=by omega
 have i2:(0:Int)≤(p:Int):=by omega
 have i3:(p:Int)<(N:Int)+1:=by omega
 have i4:(p:Int)<(N:Int):=by omega
 have i5:(0:Int)≤(n:Int):=by omega
 have i6:(n:Int)<(N:Int)+1:=by omega
 have i7:(n:Int)<(N:Int):=by omega
 clear hB hsm hm hne ht hx1 hx0 hy2 hy1 hy0 hx1p hz hL hbb hNn hpn hn;go_enter Tryz.func151,Tryz.ntmps151;go_wp2_with fail;go_region_held3 (fun w'=>w'.cell? ⟨g,j+N,none⟩=some (.int .u64 y2)∧w'.cell? ⟨g,j+p,none⟩=some (.int .u64 y1)∧w'.cell? ⟨g,j+n,none⟩=some (.int .u64 y0)∧w'.cell? ⟨b,o+p,none⟩=some (.int .u64 x1)∧w'.cell? ⟨b,o+n,none⟩=some (.int .u64 x0)) ((simp [*])) (first|(go_at_call 177;go_fit (Qmk y2 y1 y0 x1 x0 _ _ _ _ D _ HT.out);rintro e w1 ⟨q,rfl,hq,hqL,n1,hw1⟩;subst hw1));have hd0:0<D:=HT.out.pos;have HO1:Hid (Only g w (w.drewN (1+n1))):=Hi ((Only.refl g w).drewN _);have HB1:Hid (Blk .u64 81 (w.drewN (1+n1)) g us):=Hi HB0.out;have HM1:Hid (U64 (w.drewN (1+n1)) (some ⟨b,o,none⟩) c2 m D):=Hi (HM.out.below (Qep (Below.refl _ _) _));have HQL:=Hi hqL;clear hqL;go_wp2_with fail;generalize w.drewN (1+n1)=W1 at*
 have hC:=Qmv g j cap us (some ⟨b,o,none⟩) c2 m q W1 HB1.out HSM.out HM1.out.row HM1.out.num.small HM1.out.short hq (by have:=HN.out;omega) (by have:=HN.out;omega) HNE.out;rw[HN.out,HM.out.num.eq] at hC;refine hC.mono ?_;rintro e w2 ⟨lack,us1,rfl,hlb,hdone,hval⟩;have hlen1:us1.length=us.length:=hdone.len;have hyy:us1.getD (j+N) 0=y2:=by rw[hdone.out _ (.inr (Nat.le_refl _))];exact HY2.out
 have kk:=hdone.blk.cell (j+N) (by omega);rw[hyy] at kk;obtain⟨top,bo,htb,hbb,htl,hcs⟩:=Qgz y2 lack hy2b hlb;have HE:=Hi (Qm3 (by omega) hyy hval htl);have HD:=Hi (show RowDone w w2 g j N us us1 from ⟨hdone.blk,hdone.len,hdone.small,HO1.out.trans hdone.only,hdone.out⟩);clear hC hdone hval hyy htl HM1 HB1 k0 k1 k2 hlen1;go_wp2_with (simp only[hcs]);clear kk hcs;go_loopw [6,8,9] (fun qv tv bv wr=>∃(q top bo:Nat) (u1:List Nat),qv=.int .u64 q∧tv=.int .u64 top∧bv=.int .u64 bo∧q<18446744073709551616∧top<18446744073709551616∧bo≤1∧RowDone w wr g j N us u1∧val 18446744073709551616 (u1.set (j+N) top)+18446744073709551616 ^ j*(q*D)=val 18446744073709551616 us+18446744073709551616 ^ (j+N+1)*bo∧val 18446744073709551616 (us.drop j) / D≤q) (fun qv _ _ _=>(intOf qv).toNat)
 case atStart=>exact⟨q,top,bo,us1,rfl,rfl,rfl,hq,htb,hbb,HD.out,HE.out,HQL.out⟩
 case round=>
  clear hq htb hbb HE HD HQL;obtain⟨q,top,bo,u1,rfl,rfl,rfl,hq,htb,hbb,hdone,hE,hQL⟩:=hrel;have hlen1:u1.length=us.length:=hdone.len;have hyy:u1.getD (j+N) 0=y2:=by rw[hdone.out _ (.inr (Nat.le_refl _))];exact HY2.out
  have HLEN:=Hi hlen1;have HYY:=Hi hyy;have HDO:=Hi hdone;have HE:=Hi hE;have HQL:=Hi hQL;have HDR:Hid (val 18446744073709551616 ((u1.set (j+N) top).drop j)+q*D=val 18446744073709551616 (us.drop j)+18446744073709551616 ^ (N+1)*bo):=Hi (by
   refine Qm2 (by decide) (by omega) (by rw[List.length_set];exact hlen1) (fun p hp=>by rw[Qae _ _ _ _ (by omega)];exact hdone.out p (.inl hp)) _ ?_
   rw[hE,←Nat.mul_assoc,←Nat.pow_add,Nat.add_assoc])
  have HSMALL:Hid (val 18446744073709551616 ((u1.set (j+N) top).drop j)<18446744073709551616 ^ (N+1)):=Hi (by
   have hs:=(hdone.small.set (j+N) htb).drop j;have hlt:=Qaa (B:=18446744073709551616) (by decide) (hs.take (N+1));rw[List.length_take,List.length_drop,List.length_set,Nat.min_eq_left (by omega)] at hlt;rw[Qai 18446744073709551616 _ (N+1) (by rw[List.length_drop,List.length_set];omega),List.drop_drop];have hz0:val 18446744073709551616 ((u1.set (j+N) top).drop (j+(N+1)))=0:=by
    apply Qef;intro i;rw[Qdg,Qae _ _ _ _ (by omega),hdone.out _ (.inr (by omega))];have:=Qeg 18446744073709551616 (by decide) _ HZ.out i;rw[Qdg] at this;rw[show j+(N+1)+i=j+N+1+i by omega];exact this
   rw[hz0,Nat.mul_zero,Nat.add_zero]
   exact hlt)
  by_cases hb0:bo=0
  ·
   subst hb0;have g1:=hdone.blk.free (j+N);have g2:=hdone.blk.cell (j+N) (by omega);rw[hyy] at g2;clear hdone hE hQL hlen1 hyy;go_wp2;go_ret;refine⟨q,u1.set (j+N) top,rfl,hq,⟨HDO.out.blk.set _ _,by rw[List.length_set];exact HLEN.out,HDO.out.small.set _ htb,HDO.out.only.setCell _ _,fun p hp=>by rw[Qae _ _ _ _ (by omega)];exact HDO.out.out p (by omega)⟩,by have:=HE.out;rw[Nat.mul_zero,Nat.add_zero] at this;exact this,?_⟩;have:=HDR.out;rw[Nat.mul_zero,Nat.add_zero] at this;exact Qm5 hd0 this HQL.out
  ·
   have hb1:bo=1:=by omega
   subst hb1;have HGT:Hid (val 18446744073709551616 (us.drop j) / D<q):=Hi (Qm6 hd0 (by have:=HDR.out;rw[Nat.mul_one] at this;exact this) HSMALL.out);obtain⟨qm,hqm⟩:∃qm,q=qm+1:=⟨q - 1,by have:=Nat.lt_of_le_of_lt (Nat.zero_le _) HGT.out;omega⟩;have eq1:(q:Int) - 1=(qm:Int):=by omega
   have hqmb:qm<18446744073709551616:=by omega
   have HQM:=Hi hqm;have HQ1:Hid (val 18446744073709551616 (us.drop j) / D≤qm):=Hi (by have h:=HGT.out;rw[hqm] at h;exact Nat.le_of_lt_succ h);have hC:=Qmw g j cap u1 (some ⟨b,o,none⟩) c2 m wr HDO.out.blk HDO.out.small (HM.out.row.onlyG HDO.out.only HNE.out) HM.out.num.small HM.out.short (by have:=HN.out;omega) (by have:=HN.out;omega) HNE.out;rw[HN.out,HM.out.num.eq] at hC;have HC:=Hi hC;clear hdone hE hQL hlen1 hyy hqm hC;go_wp2_with fail;refine HC.out.mono ?_;rintro e w3 ⟨c,u2,rfl,hcb,hdone2,hval2⟩;obtain⟨top2,ca,ht2b,hcab,ht2,hca⟩:=Qck top c htb (by omega);have hy2':u2.getD (j+N) 0=y2:=by rw[hdone2.out _ (.inr (Nat.le_refl _))];exact HYY.out
   have HDO2:=Hi (HDO.out.trans hdone2);have HE2:Hid (val 18446744073709551616 (u2.set (j+N) top2)+18446744073709551616 ^ j*(qm*D)=val 18446744073709551616 us+18446744073709551616 ^ (j+N+1)*(1 - ca)):=Hi (by
    have h:=HE.out;rw[HQM.out,Nat.succ_mul,Nat.mul_add] at h;rw[Nat.one_mul] at hval2;have hl2:=hdone2.len;have hl1:=HLEN.out;refine Qm4 (us1:=u1) (us2:=u2) (by omega) (by omega) HYY.out hy2' ?_ hval2 ht2;rw[show 1 - ca+ca=1 by omega]
    exact h)
   have ebo:(1:Int) - (ca:Int)=((1 - ca:Nat):Int):=by omega
   obtain⟨b2,hb2'⟩:∃b2,1 - ca=b2:=⟨_,rfl⟩;rw[hb2'] at HE2 ebo;have hb2b:b2≤1:=by omega
   clear hdone2 hval2 ht2 hy2' HC hb2';go_wp2_with (simp only[hca]);go_roundw
   case rel=>exact⟨qm,top2,b2,u2,by go_num,rfl,by go_num,hqmb,ht2b,hb2b,HDO2.out,HE2.out,HQ1.out⟩
   case measure=>have:=HQM.out;simp[intOf];omega
end Go.Proofs.YtodfmpjhcmapmaaGreatDoor
