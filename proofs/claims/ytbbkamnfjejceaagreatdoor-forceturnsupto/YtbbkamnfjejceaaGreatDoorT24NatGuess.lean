/- num's guessQuotient: never too small. -/
import Derived.Test.YtbbkamnfjejceaaGreatDoorT23NatShift
import Derived.Deep.DeepFit
namespace Go.Proofs.YtbbkamnfjejceaaGreatDoor
open Go.RowKit
set_option linter.unusedVariables false
set_option linter.unusedSimpArgs false
theorem Qa0(n:Int)(h0: -9223372036854775808≤n)(h1:n<9223372036854775808):IntKind.i64.wrap n=n:=by
 simp[IntKind.wrap,IntKind.signed,IntKind.bits];omega
structure ON (w:World) (g cap:Nat) (C l:List Nat) (n:Nat):Prop where
 pre:Pre w g C
 small:Small 18446744073709551616 C
 len:C.length≤1099511627776
 fro:C.take l.length=l
 num:Num 18446744073709551616 l n
 fit:l.length≤cap
theorem Blk.pre{w:World}{g:Nat}{C:List Nat}(h:Blk .u64 146 w g C):Pre w g C:=
 ⟨wordCells .u64 C,h,fun i hi=>by
   have h1:=SB.cell (w:=w) (b:=g) (t:=146) (C:=wordCells .u64 C) h i;rw[←h1]
   exact h.cell i hi⟩
theorem Pre.rowN{w:World}{g:Nat}{C:List Nat}(h:Pre w g C)(n:Nat)(hn:n≤C.length)(cap:Nat)(hc:n≤cap):Row .u64 w (some ⟨g,0,none⟩) cap (C.take n):=by
 have hl:(C.take n).length=n:=by rw[List.length_take];omega
 refine⟨by omega,.inr ⟨g,0,rfl,h.lt⟩,fun i hi=>⟨g,0,rfl,h.lt,?_⟩⟩;rw[Nat.zero_add,Qdc _ _ _ (by omega)];exact h.cell i (by omega)
theorem ON.le{w:World}{g cap n:Nat}{C l:List Nat}(h:ON w g cap C l n):l.length≤C.length:=by
 have:=congrArg List.length h.fro;rw[List.length_take] at this;omega
theorem ON.u64{w:World}{g cap n:Nat}{C l:List Nat}(h:ON w g cap C l n):U64 w (some ⟨g,0,none⟩) cap l n:=by
 have hr:=h.pre.rowN l.length h.le cap h.fit;rw[h.fro] at hr;exact⟨hr,h.num,Nat.le_trans h.le h.len⟩
theorem ON.below{w w':World}{g cap n:Nat}{C l:List Nat}(h:ON w g cap C l n)(hb:Below w.heap.size w w'):ON w' g cap C l n:=⟨h.pre.below hb h.pre.lt,h.small,h.len,h.fro,h.num,h.fit⟩
theorem Qb4(g n cap x:Nat)(C:List Nat)(w:World)(h:Pre w g C)(hs:Small 18446744073709551616 C)(hb:C.length≤1099511627776)(hn:n≤C.length)(hc:n≤cap)(hx:val 18446744073709551616 (C.take n)=x):
 Calls Tryz.prog 194 #[.slice (some ⟨g,0,none⟩) n cap] w fun e w'=>(∃r,e=.returned (.slice (some ⟨g,0,none⟩) r.length cap)∧ON w g cap C r x∧r.length≤n)∧w'=w:=by
 have hR:=h.rowN n hn cap hc;have hl:(C.take n).length=n:=by rw[List.length_take];omega
 have hT:=Qdr (some ⟨g,0,none⟩) cap (C.take n) w hR (by omega);rw[hl] at hT;refine hT.mono ?_;rintro e w1 ⟨⟨q,hq,rfl,hqv,hqt⟩,rfl⟩;have hqn:q≤n:=by omega
 have htt:(C.take n).take q=C.take q:=by rw[List.take_take,Nat.min_eq_left hqn]
 rw[htt] at hqv hqt;have hql:(C.take q).length=q:=by rw[List.length_take];omega
 exact⟨⟨C.take q,by rw[hql],⟨h,hs,hb,by rw[hql],⟨hs.take q,hqt,hqv.trans hx⟩,by omega⟩,by omega⟩,rfl⟩
set_option maxRecDepth 100000 in
set_option maxHeartbeats 1000000 in
theorem Qku(a:Option Addr)(cap s:Nat)(l:List Nat)(w:World)(h:Row .u64 w a cap l)(hsm:Small 18446744073709551616 l)(hl:l.length<1099511627776)(hs:s<64):
 Calls Tryz.prog 224 #[.slice a l.length cap,.int .i64 s] w fun e w'=>(∃rs r,e=.returned (.slice (some ⟨w.heap.size,0,none⟩) r.length l.length)∧ON w' w.heap.size l.length rs r (val 18446744073709551616 l / 2 ^ s))∧Below w.heap.size w w':=by
 have hmk:∀w,(Instr.makeSlice 75 (.int .i64 (l.length:Int)) (.int .i64 (l.length:Int))).run Tryz.prog w=.ok (.slice (some ⟨w.heap.size,0,none⟩) l.length l.length) (w.alloc (.cells (wordCells .u64 (zeros l.length)) 146)):=
  fun w=>Qbz _ l.length rfl (by omega) w
 have H:=Hi h;have HSM:=Hi hsm;clear h hsm;go_enter Tryz.func224,Tryz.ntmps224;go_wp2;clear hmk;go_loopw [12] (fun i wr=>∃(k:Nat) (rs:List Nat),k≤l.length∧i=.int .i64 k∧Blk .u64 146 wr w.heap.size rs∧rs.length=l.length∧Small 18446744073709551616 rs∧
  val 18446744073709551616 (rs.take k)*2 ^ s+l.getD 0 0 % 2 ^ s=val 18446744073709551616 (l.take k)+18446744073709551616 ^ k*(l.getD k 0 % 2 ^ s)∧Below w.heap.size w wr) (fun i _=>l.length - (intOf i).toNat)
 case atStart=>exact⟨0,zeros l.length,by omega,rfl,Blk.new _ _ _ _,Qag _,Qam _ _ (by omega),by simp[val],(Below.refl _ _).alloc (Nat.le_refl _) _⟩
 case round=>
  obtain⟨k,rs,hk,rfl,hB,hrl,hrs,hv,hb⟩:=hrel;have HV:=Hi hv;have HRL:=Hi hrl;have HB:=Hi hB;have HRS:=Hi hrs;have HBL:=Hi hb;clear hv hrs hb;by_cases hlt:k<l.length
  ·
   obtain⟨b,off,rfl,hb1,hc1⟩:=H.out.cell k hlt;obtain⟨d,hd⟩:∃d,l.getD k 0=d:=⟨_,rfl⟩;obtain⟨e,he⟩:∃e,l.getD (k+1) 0=e:=⟨_,rfl⟩;have hdb:d<18446744073709551616:=by rw[←hd];exact HSM.out.getD (by omega) k
   have heb:e<18446744073709551616:=by rw[←he];exact HSM.out.getD (by omega) (k+1)
   rw[hd] at hc1;have hc1':=(HBL.out.cell (p:=⟨b,off+k,none⟩) hb1).trans hc1;obtain⟨z,hz⟩:∃z,rs.getD k 0=z:=⟨_,rfl⟩;have g1:=hB.free k;have g2:=hB.cell k (by omega);rw[hz] at g2;obtain⟨lo,hi,new,u1,u2,u3,hnew,hsum⟩:=Qli d e s hs hdb heb;have HST:=Hi (Qlj k d e s new _ rs l (by omega) hd he hsum HV.out);have hcw:=Qbc (some ⟨b,off,none⟩) cap l (k+1) wr.drew (H.out.below HBL.out.drew) (by omega) (by omega);rw[he,show ((k+1:Nat):Int)=(k:Int)+1 by omega] at hcw;have wk:IntKind.i64.wrap ((k:Int)+1)=(k:Int)+1:=Qa0 _ (by omega) (by omega);obtain⟨t,ht⟩:∃t,64 - s=t:=⟨_,rfl⟩;have ws:IntKind.i64.wrap (64 - (s:Int))=(t:Int):=by rw[Qa0 _ (by omega) (by omega)];omega
   have ht64:t≤64:=by omega
   rw[ht] at u2;clear ht;have HC:=Hi hcw;clear hcw;have i0:(0:Int)≤(k:Int):=by omega
   have i1:(k:Int)<(l.length:Int):=by omega
   have hst:=(((HBL.out.setCell (p:=⟨w.heap.size,k,none⟩) (Nat.le_refl _) (.int .u64 (new:Int))).drew).cell (p:=⟨b,off+k,none⟩) hb1).trans hc1;clear hd he hc1 hz hB hrl hsum;go_wp2_with fail;go_region_held3 (fun w'=>w'.cell? ⟨b,off+k,none⟩=some (.int .u64 d)) ((simp [*])) (first
    |(
     go_at_call 201;go_fit (HC.out);rintro e1 w2 ⟨rfl,hw2⟩
     subst hw2))
   go_wp2;go_roundw
   case rel=>exact⟨k+1,rs.set k new,by omega,by go_num,(HB.out.set k _).drew,by rw[List.length_set];exact HRL.out,HRS.out.set k hnew,HST.out,(HBL.out.setCell (Nat.le_refl _) _).drew⟩
   case measure=>simp[intOf];omega
  ·
   have e1:k=l.length:=by omega
   have hvv:val 18446744073709551616 rs=val 18446744073709551616 l / 2 ^ s:=by
    have e2:=HV.out;rw[e1,List.take_of_length_le (by have:=HRL.out;omega),List.take_length,Qa8 l l.length (Nat.le_refl _),Nat.zero_mod,Nat.mul_zero,Nat.add_zero] at e2;have e3:l.getD 0 0 % 2 ^ s<2 ^ s:=Nat.mod_lt _ (Nat.two_pow_pos _);rw[←e2,Nat.mul_comm,Nat.mul_add_div (Nat.two_pow_pos _),Nat.div_eq_of_lt e3,Nat.add_zero]
   have HQ:=Hi hvv;clear hrl hB hvv;go_wp2_with fail;refine(Qb4 w.heap.size l.length l.length (val 18446744073709551616 l / 2 ^ s) rs _ HB.out.pre HRS.out (by rw[HRL.out];omega) (by rw[HRL.out];exact Nat.le_refl _) (Nat.le_refl _) (by rw[List.take_of_length_le (by rw[HRL.out];exact Nat.le_refl _)];exact HQ.out)).mono ?_;rintro e w1 ⟨⟨r,rfl,hu,_⟩,rfl⟩;have HU:=Hi hu;clear hu;go_wp2;go_ret;exact⟨⟨rs,r,rfl,HU.out⟩,HBL.out⟩
structure Tops (a2 a1 a0 d1 d0 P lw lv W V:Nat):Prop where
 hP:0<P
 hW:W=(a2*18446744073709551616+a1)*(18446744073709551616*P)+a0*P+lw
 hV:V=d1*(18446744073709551616*P)+d0*P+lv
 hlw:lw<P
 hd1:0<d1
 hWV:W<18446744073709551616*V
 b2:a2<18446744073709551616
 b1:a1<18446744073709551616
 b0:a0<18446744073709551616
 c1:d1<18446744073709551616
 c0:d0<18446744073709551616
theorem Tops.pos{a2 a1 a0 d1 d0 P lw lv W V:Nat}(t:Tops a2 a1 a0 d1 d0 P lw lv W V):0<V:=by
 have:=t.hWV;rcases Nat.eq_zero_or_pos V with h|h
 · subst h;omega
 · exact h
theorem Tops.all{a2 a1 a0 d1 d0 P lw lv W V:Nat}(t:Tops a2 a1 a0 d1 d0 P lw lv W V):W / V≤18446744073709551615:=by
 have h:=t.hWV;have:W / V<18446744073709551616:=by rw[Nat.div_lt_iff_lt_mul t.pos];exact h
 omega
theorem Qk1{high low r a0 t:Nat}(ht:low+18446744073709551616*high=t)(hl:low<18446744073709551616)(ha:a0<18446744073709551616):(high<r∨(high=r∧low≤a0))↔t≤r*18446744073709551616+a0:=by omega
set_option maxRecDepth 100000 in
set_option maxHeartbeats 2000000 in
theorem Qk2(a2 a1 a0 d1 d0 P lw lv W V:Nat)(w:World)(t:Tops a2 a1 a0 d1 d0 P lw lv W V):
 Calls Tryz.prog 241 #[.int .u64 a2,.int .u64 a1,.int .u64 a0,.int .u64 d1,.int .u64 d0] w fun e w'=>∃q:Nat,e=.returned (.int .u64 (q:Int))∧q<18446744073709551616∧W / V≤q∧∃n,w'=w.drewN n:=by
 have HT:=Hi t;have b2:=t.b2;have b1:=t.b1;have b0:=t.b0;have c1:=t.c1;have c0:=t.c0;clear t;by_cases hA:d1≤a2
 ·
  go_enter Tryz.func241,Tryz.ntmps241;go_wp2;go_ret;exact⟨18446744073709551615,rfl,by omega,HT.out.all,0,rfl⟩
 ·
  obtain⟨q,r,hq,hr,hqr,hcd⟩:=div64 a2 a1 d1 (by omega) b1 c1;have HCD:=Hi hcd;have HST:Hid (W / V≤q):=Hi (by
   have h1:=Qfc 18446744073709551616 P (a2*18446744073709551616+a1) a0 lw d1 d0 lv W V HT.out.hP (by decide) HT.out.hW HT.out.hV HT.out.hlw b0 HT.out.hd1;have h2:(a2*18446744073709551616+a1) / d1=q:=by
    rw[show a2*18446744073709551616+a1=d1*q+r by omega,Nat.mul_add_div HT.out.hd1,Nat.div_eq_of_lt hr,Nat.add_zero]
   rw[h2] at h1
   exact h1)
  have HQR:Hid (q*d1+r=a2*18446744073709551616+a1):=Hi (by rw[Nat.mul_comm];omega);clear hcd hqr;go_enter Tryz.func241,Tryz.ntmps241;go_wp2_with fail;refine(HCD.out _).mono ?_;rintro e w1 ⟨rfl,n1,hw1⟩;go_wp2_with fail;go_loop [11,12] (fun qv rv=>∃q r:Nat,qv=.int .u64 q∧rv=.int .u64 r∧q<18446744073709551616∧r<18446744073709551616∧q*d1+r=a2*18446744073709551616+a1∧W / V≤q) (fun qv _=>(intOf qv).toNat)
  case atStart=>exact⟨q,r,rfl,rfl,hq,by omega,HQR.out,HST.out⟩
  case round=>
   clear hq hr HCD HST HQR;obtain⟨q,r,rfl,rfl,hq,hr,hqr,hle⟩:=hrel;obtain⟨high,low,hh,hl,hhl,hcm⟩:=mul64 q d0 hq c0;have HCM:=Hi hcm;have HLE:=Hi hle;have HQR:=Hi hqr;have HIF:=Hi (Qk1 (r:=r) hhl hl b0);clear hcm hle hqr hhl;by_cases hc1:high<r
   ·
    have hc1':(high:Int)<(r:Int):=by omega
    go_wp2_with fail;refine(HCM.out _).mono ?_;rintro e w2 ⟨rfl,hw2⟩;go_wp2;go_ret;exact⟨q,rfl,hq,HLE.out,n1,rfl⟩
   by_cases hc2:high=r
   ·
    subst hc2;have hc1':¬((high:Int)<(high:Int)):=by omega
    by_cases hc3:low≤a0
    ·
     have hc3':(low:Int)≤(a0:Int):=by omega
     go_wp2_with fail;refine(HCM.out _).mono ?_;rintro e w2 ⟨rfl,hw2⟩;go_wp2;go_ret;exact⟨q,rfl,hq,HLE.out,n1,rfl⟩
    ·
     have hc3':¬((low:Int)≤(a0:Int)):=by omega
     have HGT:Hid (high*18446744073709551616+a0<q*d0):=Hi (Nat.lt_of_not_le (fun h=>by have:=HIF.out.2 h;omega));have HLT:Hid (W / V<q):=Hi (Qdl 18446744073709551616 P (a2*18446744073709551616+a1) a0 lw d1 d0 lv W V q high HT.out.hP HT.out.hW HT.out.hV HT.out.hlw HT.out.pos HQR.out HGT.out);obtain⟨qm,hqm⟩:∃qm,q=qm+1:=⟨q - 1,by have:=Nat.lt_of_le_of_lt (Nat.zero_le _) HLT.out;omega⟩;have eq1:(q:Int) - 1=(qm:Int):=by omega
     have hqmb:qm<18446744073709551616:=by omega
     have HQM:=Hi hqm;have HQR1:Hid (qm*d1+(high+d1)=a2*18446744073709551616+a1):=Hi (by have:=HQR.out;rw[hqm,Nat.succ_mul] at this;omega);have HQ1:Hid (W / V≤qm):=Hi (by have h:=HLT.out;rw[hqm] at h;exact Nat.le_of_lt_succ h);clear hqm;by_cases hov:high+d1<18446744073709551616
     ·
      have hov':¬((high:Int)+(d1:Int)<(d1:Int)):=by omega
      go_wp2_with fail;refine(HCM.out _).mono ?_;rintro e w2 ⟨rfl,hw2⟩;subst hw2;go_wp2_with fail;go_round
      case rel=>exact⟨qm,high+d1,by go_num,by go_num,hqmb,hov,HQR1.out,HQ1.out⟩
      case measure=>have:=HQM.out;simp[intOf];omega
     ·
      obtain⟨r2,hr2⟩:∃r2,high+d1=r2+18446744073709551616:=⟨high+d1 - 18446744073709551616,by omega⟩;have ew:IntKind.u64.wrap ((high:Int)+(d1:Int))=(r2:Int):=by rw[Qan];omega
      have hlt2:(r2:Int)<(d1:Int):=by omega
      clear hr2 hov;go_wp2_with fail;refine(HCM.out _).mono ?_;rintro e w2 ⟨rfl,hw2⟩;go_wp2;go_ret;exact⟨qm,rfl,hqmb,HQ1.out,n1,rfl⟩
   ·
    have hc1':¬((high:Int)<(r:Int)):=by omega
    have hc2':((high:Int) == (r:Int))=false:=by rw[beq_eq_false_iff_ne];omega
    have HGT:Hid (r*18446744073709551616+a0<q*d0):=Hi (Nat.lt_of_not_le (fun h=>by have:=HIF.out.2 h;omega));have HLT:Hid (W / V<q):=Hi (Qdl 18446744073709551616 P (a2*18446744073709551616+a1) a0 lw d1 d0 lv W V q r HT.out.hP HT.out.hW HT.out.hV HT.out.hlw HT.out.pos HQR.out HGT.out);obtain⟨qm,hqm⟩:∃qm,q=qm+1:=⟨q - 1,by have:=Nat.lt_of_le_of_lt (Nat.zero_le _) HLT.out;omega⟩;have eq1:(q:Int) - 1=(qm:Int):=by omega
    have hqmb:qm<18446744073709551616:=by omega
    have HQM:=Hi hqm;have HQR1:Hid (qm*d1+(r+d1)=a2*18446744073709551616+a1):=Hi (by have:=HQR.out;rw[hqm,Nat.succ_mul] at this;omega);have HQ1:Hid (W / V≤qm):=Hi (by have h:=HLT.out;rw[hqm] at h;exact Nat.le_of_lt_succ h);clear hqm;by_cases hov:r+d1<18446744073709551616
    ·
     have hov':¬((r:Int)+(d1:Int)<(d1:Int)):=by omega
     go_wp2_with fail;refine(HCM.out _).mono ?_;rintro e w2 ⟨rfl,hw2⟩;subst hw2;go_wp2_with fail;go_round
     case rel=>exact⟨qm,r+d1,by go_num,by go_num,hqmb,hov,HQR1.out,HQ1.out⟩
     case measure=>have:=HQM.out;simp[intOf];omega
    ·
     obtain⟨r2,hr2⟩:∃r2,r+d1=r2+18446744073709551616:=⟨r+d1 - 18446744073709551616,by omega⟩;have ew:IntKind.u64.wrap ((r:Int)+(d1:Int))=(r2:Int):=by rw[Qan];omega
     have hlt2:(r2:Int)<(d1:Int):=by omega
     clear hr2 hov;go_wp2_with fail;refine(HCM.out _).mono ?_;rintro e w2 ⟨rfl,hw2⟩;go_wp2;go_ret;exact⟨qm,rfl,hqmb,HQ1.out,n1,rfl⟩
end Go.Proofs.YtbbkamnfjejceaaGreatDoor
