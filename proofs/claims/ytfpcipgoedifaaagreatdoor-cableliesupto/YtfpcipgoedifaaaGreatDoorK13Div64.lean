/- The library's Div64. -/
import Derived.Test.YtfpcipgoedifaaaGreatDoorK12Dv
namespace Go.Proofs.YtfpcipgoedifaaaGreatDoor
open Go.RowKit
set_option linter.unusedVariables false
set_option linter.unusedSimpArgs false
theorem Qe8(x:Int)(w:World)(h0:0<=x)(h1:x<=18446744073709551615):
 Calls Tryz.prog 159 #[.int .u64 x] w fun e w'=>e=.returned (.int .i64 (64 - (Lib.bitLen x.toNat:Int)))/\w'=w:=Any.bits_LeadingZeros64 Tryz.lays134 x w h0 h1
set_option maxRecDepth 100000 in
set_option maxHeartbeats 1000000 in
theorem Qod(lo y:Nat)(w:World)(hl:lo<18446744073709551616)(hy:y<18446744073709551616)(h0:0<y):
 Calls Tryz.prog 164 #[.int .u64 0,.int .u64 lo,.int .u64 y] w fun e w'=>e=.returned (.tuple #[.int .u64 ((lo / y:Nat):Int),.int .u64 ((lo % y:Nat):Int)])/\∃n,w'=w.drewN n:=by
 have q0:((y:Int) == 0)=false:=by rw[beq_eq_false_iff_ne];omega
 have q1:¬((y:Int)<=0):=by omega
 obtain⟨Q,hQ⟩:=nm (lo / y);obtain⟨R,hR⟩:=nm (lo % y);have hQb:Q<18446744073709551616:=by rw[<-hQ];exact Nat.lt_of_le_of_lt (Nat.div_le_self _ _) hl
 have d1:(lo:Int) / (y:Int)=(Q:Int):=by rw[<-hQ];rfl
 have d2:(lo:Int) % (y:Int)=(R:Int):=by rw[<-hR];rfl
 have d1':Int.tdiv (lo:Int) (y:Int)=(Q:Int):=by rw[<-hQ];rfl
 have d2':Int.tmod (lo:Int) (y:Int)=(R:Int):=by rw[<-hR];rfl
 rw[hQ,hR];clear hQ hR;go_enter Tryz.func164,Tryz.ntmps164;go_wp2;go_quiet (fail);go_wp2;go_ret2;exact⟨rfl,_,rfl⟩
theorem Qe9(y:Nat)(h0:0<y)(hy:y<18446744073709551616):∃s:Nat,s<64/\64 - (Lib.bitLen (y:Int).toNat:Int)=s/\9223372036854775808<=y*2 ^ s/\y*2 ^ s<18446744073709551616:=by
 rw[Int.toNat_natCast];have key:∀(k:Nat),k<=64->∀z,2 ^ (64 - k)<=z->z<18446744073709551616->True:=fun _ _ _ _ _=>trivial
 have hn:=Qe4 y;have hp:=Qhv (n:=y) (k:=nb y - 1) (by have:=Qdd h0;omega);have hnb:nb y<=64:=nb_le hy;have hpos:=Qdd h0;have e:Lib.bitLen y=nb y:=by
  have h1:=Lib.bitLen_shift (nb y - 1) y hp hy;have h2:y / 2 ^ (nb y - 1)=1:=by
   apply Nat.le_antisymm
   ·
    have:y / 2 ^ (nb y - 1)<2:=by
     rw[Nat.div_lt_iff_lt_mul (Nat.two_pow_pos _),<-Nat.pow_succ',show (nb y - 1).succ=nb y by omega];exact hn
    omega
   · exact(Nat.one_le_div_iff (Nat.two_pow_pos _)).2 hp
  rw[h2] at h1;have h3:Lib.bitLen 1=1:=by decide
  rw[h1,h3];omega
 refine⟨64 - nb y,by omega,by rw[e];omega,?_,?_⟩
 ·
  have:2 ^ (nb y - 1)*2 ^ (64 - nb y)<=y*2 ^ (64 - nb y):=Nat.mul_le_mul_right _ hp;rw[<-Nat.pow_add,show nb y - 1+(64 - nb y)=63 by omega] at this;exact this
 ·
  have:y*2 ^ (64 - nb y)<2 ^ nb y*2 ^ (64 - nb y):=Nat.mul_lt_mul_of_pos_right hn (Nat.two_pow_pos _);rw[<-Nat.pow_add,show nb y+(64 - nb y)=64 by omega] at this;exact this
theorem Qfa(u yn1:Nat)(hy:2147483648<=yn1)(hy':yn1<4294967296)(hu:u<18446744073709551616):∃q p r:Nat,u / yn1=q/\q*yn1=p/\p+r=u/\r<yn1/\q<8589934592/\Int.tdiv (u:Int) (yn1:Int)=(q:Int)/\(u:Int) / (yn1:Int)=(q:Int)/\(q:Int)*(yn1:Int)=(p:Int)/\(u:Int) - (p:Int)=(r:Int):=by
 have hpr:u / yn1*yn1+u % yn1=u:=by rw[Nat.mul_comm];exact Nat.div_add_mod u yn1
 refine⟨u / yn1,u / yn1*yn1,u % yn1,rfl,rfl,hpr,Nat.mod_lt _ (by omega),?_,rfl,rfl,rfl,?_⟩
 · rw[Nat.div_lt_iff_lt_mul (by omega)];omega
 · have:((u / yn1*yn1:Nat):Int)+((u % yn1:Nat):Int)=(u:Int):=by rw[<-Int.natCast_add,hpr]
   omega
theorem Qau(u un1 q Y:Nat)(hY:Y<18446744073709551616)(hY0:0<Y)(hn:un1<4294967296)(hQ:(4294967296*u+un1) / Y=q):
 ∃a1 P b1 v:Nat,a1+un1<18446744073709551616/\b1<18446744073709551616/\v<Y/\v+q*Y=4294967296*u+un1/\(IntKind.u64.wrap ((u:Int)*4294967296)=(a1:Int))/\((q:Int)*(Y:Int)=(P:Int))/\(IntKind.u64.wrap (P:Int)=(b1:Int))/\IntKind.u64.wrap ((a1:Int)+(un1:Int) - (b1:Int))=(v:Int):=by
 have hv:(4294967296*u+un1) % Y+q*Y=4294967296*u+un1:=by
  have h:=Nat.mod_add_div (4294967296*u+un1) Y;rw[hQ,Nat.mul_comm Y q] at h;exact h
 have hvb:(4294967296*u+un1) % Y<Y:=Nat.mod_lt _ hY0;refine⟨u*4294967296 % 18446744073709551616,q*Y,q*Y % 18446744073709551616,(4294967296*u+un1) % Y,by omega,by omega,hvb,hv,?_,rfl,?_,?_⟩
 · rw[Qaq];omega
 · rw[Qaq];rfl
 ·
  rw[Qaq];generalize q*Y=P at*;generalize (4294967296*u+un1) % Y=v at*;omega
theorem Qa3{hi lo y s u H l2 un10 un1 un0 Y Q Q0 v v2:Nat}(hY:y*2 ^ s=Y)(hH:hi*2 ^ s=H)(hu:H+l2=u)(hlow:lo*2 ^ s=18446744073709551616*l2+un10)(hun:un10=4294967296*un1+un0)(h1:v+Q*Y=4294967296*u+un1)(h2:v2+Q0*Y=4294967296*v+un0)(hv2:v2<Y):
 (18446744073709551616*hi+lo) / y=Q*4294967296+Q0/\(18446744073709551616*hi+lo) % y=v2 / 2 ^ s:=by
 have h:=Qfg (X:=(18446744073709551616*hi+lo)*2 ^ s) (V:=Y) (x:=18446744073709551616*hi+lo) (y:=y) (p:=2 ^ s) (Q:=Q*4294967296+Q0) (R:=v2) (Nat.two_pow_pos s) rfl hY (by
  rw[Nat.add_mul,Nat.mul_assoc,hH,hlow,Nat.mul_add,Nat.mul_comm Y (Q*4294967296),Nat.mul_comm Y Q0,Nat.mul_assoc Q,Nat.mul_comm 4294967296 Y,<-Nat.mul_assoc];generalize Q*Y=A at*;generalize Q0*Y=B at*
  omega) hv2
 exact⟨h.1.symm,h.2.symm⟩
set_option maxRecDepth 100000 in
set_option maxHeartbeats 4000000 in
theorem Qoe(hi lo y QQ RR:Nat)(w:World)(hQQ:(18446744073709551616*hi+lo) / y=QQ)(hRR:(18446744073709551616*hi+lo) % y=RR)(hh:0<hi)(hhy:hi<y)(hl:lo<18446744073709551616)(hy:y<18446744073709551616):
 Calls Tryz.prog 164 #[.int .u64 hi,.int .u64 lo,.int .u64 y] w fun e w'=>e=.returned (.tuple #[.int .u64 (QQ:Int),.int .u64 (RR:Int)])/\∃n,w'=w.drewN n:=by
 have HQQ:=Hi hQQ;have HRR:=Hi hRR;clear hQQ hRR;have q0:((y:Int) == 0)=false:=by rw[beq_eq_false_iff_ne];omega
 have q1:¬((y:Int)<=(hi:Int)):=by omega
 have q2:((hi:Int) == 0)=false:=by rw[beq_eq_false_iff_ne];omega
 obtain⟨s,hs64,hs,hY1,hY2⟩:=Qe9 y (by omega) hy;have HL:=Hi (Qe8 y w (by omega) (by omega));rw[hs] at HL;obtain⟨Y,hYe⟩:=nm (y*2 ^ s);rw[hYe] at hY1 hY2;obtain⟨H,hHe⟩:=nm (hi*2 ^ s);have hHY:H<Y:=by rw[<-hHe,<-hYe];exact Nat.mul_lt_mul_of_pos_right hhy (Nat.two_pow_pos _)
 obtain⟨l2,hl2e⟩:=nm (lo / 2 ^ (64 - s));have hl2:l2<2 ^ s:=by rw[<-hl2e];exact Qfb (by omega) hl
 obtain⟨un10,hun10⟩:∃z,lo*2 ^ s % 18446744073709551616=z:=⟨_,rfl⟩;have hun10b:un10<18446744073709551616:=by rw[<-hun10];exact Nat.mod_lt _ (by decide)
 have hlow:=low64 (lo:=lo) (s:=s) (by omega);rw[hl2e,hun10] at hlow;have hu32b:H+l2<Y:=by
  have:(hi+1)*2 ^ s<=y*2 ^ s:=Nat.mul_le_mul_right _ hhy;rw[Nat.add_mul,hHe,hYe,Nat.one_mul] at this;omega
 have r1:IntKind.u64.wrap ((y:Int)*2 ^ s)=(Y:Int):=by
  rw[show (y:Int)*2 ^ s=((y*2 ^ s:Nat):Int) by rw[Int.natCast_mul,Int.natCast_pow];rfl,hYe];exact Qbx Y hY2
 have r4:IntKind.u64.wrap ((hi:Int)*2 ^ s)=(H:Int):=by
  rw[show (hi:Int)*2 ^ s=((hi*2 ^ s:Nat):Int) by rw[Int.natCast_mul,Int.natCast_pow];rfl,hHe];exact Qbx H (by omega)
 have r5:(lo:Int) / 2 ^ (64 - s)=(l2:Int):=by
  rw[<-hl2e,Int.natCast_ediv,Int.natCast_pow];rfl
 have r7:IntKind.u64.wrap ((lo:Int)*2 ^ s)=(un10:Int):=by
  rw[show (lo:Int)*2 ^ s=((lo*2 ^ s:Nat):Int) by rw[Int.natCast_mul,Int.natCast_pow];rfl,Qaq,<-hun10];rfl
 obtain⟨u,hu⟩:=nm (H+l2);have r6:bits .or .u64 (H:Int) (l2:Int)=(u:Int):=by
  rw[or64 (H:Int) (l2:Int) hi l2 s (by rw[<-hHe,Nat.mul_comm]) rfl hl2 (by rw[Nat.mul_comm,hHe];omega),Nat.mul_comm,hHe,hu]
 rw[hu] at hu32b;obtain⟨yn1,hyn1⟩:∃z,Y / 4294967296=z:=⟨_,rfl⟩;obtain⟨yn0,hyn0⟩:∃z,Y % 4294967296=z:=⟨_,rfl⟩;have hYs:Y=4294967296*yn1+yn0:=by omega
 have hyn1b:2147483648<=yn1/\yn1<4294967296:=by omega
 have hyn0b:yn0<4294967296:=by omega
 have r2:(Y:Int) / 4294967296=(yn1:Int):=by omega
 have r3:bits .and .u64 (Y:Int) 4294967295=(yn0:Int):=by rw[Mul64.maskN Y hY2,hyn0]
 obtain⟨un1,hun1⟩:∃z,un10 / 4294967296=z:=⟨_,rfl⟩;obtain⟨un0,hun0⟩:∃z,un10 % 4294967296=z:=⟨_,rfl⟩;have hun1b:un1<4294967296:=by omega
 have hun0b:un0<4294967296:=by omega
 have r8:(un10:Int) / 4294967296=(un1:Int):=by omega
 have r9:bits .and .u64 (un10:Int) 4294967295=(un0:Int):=by rw[Mul64.maskN un10 hun10b,hun0]
 have q3:((yn1:Int) == 0)=false:=by rw[beq_eq_false_iff_ne];omega
 obtain⟨q,hq⟩:=nm (u / yn1);obtain⟨p,hp⟩:=nm (q*yn1);obtain⟨r,hr⟩:=nm (u % yn1);have hpr:p+r=u:=by rw[<-hp,<-hq,<-hr,Nat.mul_comm];exact Nat.div_add_mod u yn1
 have hrb:r<yn1:=by rw[<-hr];exact Nat.mod_lt _ (by omega)
 have r10:Int.tdiv (u:Int) (yn1:Int)=(q:Int):=by rw[<-hq];rfl
 have r10':(u:Int) / (yn1:Int)=(q:Int):=by rw[<-hq];rfl
 have r11:(q:Int)*(yn1:Int)=(p:Int):=by rw[<-hp];rfl
 have hqb:q<8589934592:=by
  rw[<-hq,Nat.div_lt_iff_lt_mul (by omega)];omega
 have HYS:=Hi hYs;have HUN:=Hi (show un10=4294967296*un1+un0 by omega);have HLOW:=Hi hlow;have HYE:=Hi hYe;have HHE:=Hi hHe;have HU:=Hi hu;have HPR:=Hi hpr;have HP:=Hi hp;have HST:Hid ((4294967296*u+un1) / Y<=q):=Hi (by rw[<-hq];exact Qdi hYs hun1b (by omega));have r12:(u:Int) - (p:Int)=(r:Int):=by omega
 clear hYe hHe hl2e hun10 hl2 hu hq hr hp hYs hyn1 hyn0 hun1 hun0 hlow hpr hs;go_enter Tryz.func164,Tryz.ntmps164;go_wp2_with fail;refine HL.out.mono ?_;rintro e w ⟨rfl,hw⟩;subst hw;clear HL;go_wp2_with fail;have hY0:0<Y:=by omega
 go_loop [15,16] (fun qv rv=>∃q r:Nat,qv=.int .u64 q/\rv=.int .u64 r/\q*yn1+r=u/\(4294967296*u+un1) / Y<=q/\r<4294967296/\q<8589934592) (fun qv _=>(intOf qv).toNat)
 case atStart=>exact⟨q,r,rfl,rfl,by rw[HP.out];exact HPR.out,HST.out,by omega,hqb⟩
 case round=>
  clear hqb hrb r10 r10' r11 r12;obtain⟨q,r,rfl,rfl,hqr,hQ,hrb,hqb⟩:=hrel;have HQR:=Hi hqr;have HQ:=Hi hQ;clear hqr hQ;by_cases hA:4294967296<=q
  ·
   have HLT:Hid ((4294967296*u+un1) / Y<q):=Hi (Nat.lt_of_lt_of_le (Qag hu32b hun1b) hA);have hA':(4294967296:Int)<=(q:Int):=by omega
   have hq1:1<=q:=by omega
   clear hA;obtain⟨qm,hqm⟩:∃qm,q=qm+1:=⟨q - 1,by omega⟩;have eq1:(q:Int) - 1=(qm:Int):=by omega
   have hqmb:qm<8589934592:=by omega
   have HQM:=Hi hqm;have HQR1:Hid (qm*yn1+(r+yn1)=u):=Hi (by have:=HQR.out;rw[hqm,Nat.succ_mul] at this;omega);have HQ1:Hid ((4294967296*u+un1) / Y<=qm):=Hi (Nat.le_of_lt_succ (by have:=HLT.out;omega));clear hqm hq1;by_cases hC:4294967296<=r+yn1
   ·
    have hbr:=Qbf HYS.out hyn0b hu32b HQR1.out hC (by omega);have HQF:Hid ((4294967296*u+un1) / Y=qm):=Hi (Qaw hY0 ((Qav (n1:=un1) HYS.out HQR1.out).1 (by omega)) HQ1.out);have hC':(4294967296:Int)<=(r:Int)+(yn1:Int):=by omega
    clear hC hbr;obtain⟨a1,P,b1,v,ha1,hb1,hvY,hvq,z1,z2,z3,z4⟩:=Qau u un1 qm Y hY2 hY0 hun1b HQF.out;obtain⟨q2',p2,r2',hq2,hp2,hpr2,hr2b,hq2b,x1,x2,x3,x4⟩:=Qfa v yn1 hyn1b.1 hyn1b.2 (by omega);have HVQ:=Hi hvq;have HQ2:=Hi hq2;have HP2:=Hi hp2;have HPR2:=Hi hpr2;clear hvq r1 r2 r3 r4 r5 r6 r7 r8 r9 hq2 hp2 hpr2;go_wp2_with fail;clear z1 z2 z3 z4;go_loop [18,16] (fun qv rv=>∃q r:Nat,qv=.int .u64 q/\rv=.int .u64 r/\q*yn1+r=v/\(4294967296*v+un0) / Y<=q/\r<4294967296/\q<8589934592) (fun qv _=>(intOf qv).toNat)
    case atStart=>exact⟨q2',r2',rfl,rfl,by rw[HP2.out];exact HPR2.out,by rw[<-HQ2.out];exact Qdi HYS.out hun0b (by omega),by omega,hq2b⟩
    case round=>
     clear x1 x2 x3 x4 hr2b hq2b;obtain⟨q3,r3,rfl,rfl,hqr,hQ,hrb3,hqb3⟩:=hrel;have HQR3:=Hi hqr;have HQ3:=Hi hQ;clear hqr hQ;by_cases hA:4294967296<=q3
     ·
      have HLT2:Hid ((4294967296*v+un0) / Y<q3):=Hi (Nat.lt_of_lt_of_le (Qag hvY hun0b) hA);have hA2:(4294967296:Int)<=(q3:Int):=by omega
      have hq12:1<=q3:=by omega
      clear hA;obtain⟨qm2,hqm⟩:∃qm2,q3=qm2+1:=⟨q3 - 1,by omega⟩;have eq12:(q3:Int) - 1=(qm2:Int):=by omega
      have hqmb2:qm2<8589934592:=by omega
      have HQM2:=Hi hqm;have HQR12:Hid (qm2*yn1+(r3+yn1)=v):=Hi (by have:=HQR3.out;rw[hqm,Nat.succ_mul] at this;omega);have HQ12:Hid ((4294967296*v+un0) / Y<=qm2):=Hi (Nat.le_of_lt_succ (by have:=HLT2.out;omega));clear hqm hq12;by_cases hC:4294967296<=r3+yn1
      ·
       have hbr:=Qbf HYS.out hyn0b hvY HQR12.out hC (by omega);have HQF2:Hid ((4294967296*v+un0) / Y=qm2):=Hi (Qaw hY0 ((Qav (n1:=un0) HYS.out HQR12.out).1 (by omega)) HQ12.out);have hC':(4294967296:Int)<=(r3:Int)+(yn1:Int):=by omega
       clear hC hbr;obtain⟨a1,P,b1,v2,ha1,hb1,hvY2,hvq,y1,y2,y3,y4⟩:=Qau v un0 qm2 Y hY2 hY0 hun0b HQF2.out;have hQb:qm<4294967296:=by rw[<-HQF.out];exact Qag hu32b hun1b
       have hQb2:qm2<4294967296:=by rw[<-HQF2.out];exact Qag hvY hun0b
       obtain⟨R,hR⟩:=nm (v2 / 2 ^ s);have rR:(v2:Int) / 2 ^ s=(R:Int):=by rw[<-hR,Int.natCast_ediv,Int.natCast_pow];rfl
       have HFIN:=Hi (Qa3 HYE.out HHE.out HU.out HLOW.out HUN.out HVQ.out hvq hvY2);rw[hR] at HFIN;clear hvq hR;go_wp2_with fail;go_ret2;have e1:(QQ:Int)=(qm:Int)*4294967296+(qm2:Int):=by have:=HFIN.out.1;rw[HQQ.out] at this;omega
       have e2:(RR:Int)=(R:Int):=by have:=HFIN.out.2;rw[HRR.out] at this;omega
       exact⟨by rw[e1,e2];rfl,0,rfl⟩
      ·
       have hC':¬((4294967296:Int)<=(r3:Int)+(yn1:Int)):=by omega
       have hC2:r3+yn1<4294967296:=by omega
       clear hC;go_wp2_with fail;go_round
       case rel=>exact⟨qm2,r3+yn1,by go_num,by go_num,HQR12.out,HQ12.out,hC2,by omega⟩
       case measure=>have:=HQM2.out;simp[intOf];omega
     ·
      obtain⟨t2,ht⟩:∃t,q3*yn0=t:=⟨_,rfl⟩;have htb2:t2<=4294967295*4294967295:=by rw[<-ht];exact Nat.mul_le_mul (by omega) (by omega)
      have rt2:(q3:Int)*(yn0:Int)=(t2:Int):=by rw[<-ht];rfl
      have HIF2:=Hi (Qav (n1:=un0) HYS.out HQR3.out);rw[ht] at HIF2;have hA2:¬((4294967296:Int)<=(q3:Int)):=by omega
      clear ht hA;by_cases hB:t2<=4294967296*r3+un0
      ·
       have HQF2:=Hi (Qaw hY0 (HIF2.out.1 hB) HQ3.out);have hB2:¬(4294967296*(r3:Int)+(un0:Int)<(t2:Int)):=by omega
       clear hB;obtain⟨a1,P,b1,v2,ha1,hb1,hvY2,hvq,y1,y2,y3,y4⟩:=Qau v un0 q3 Y hY2 hY0 hun0b HQF2.out;have hQb:qm<4294967296:=by rw[<-HQF.out];exact Qag hu32b hun1b
       have hQb2:q3<4294967296:=by rw[<-HQF2.out];exact Qag hvY hun0b
       obtain⟨R,hR⟩:=nm (v2 / 2 ^ s);have rR:(v2:Int) / 2 ^ s=(R:Int):=by rw[<-hR,Int.natCast_ediv,Int.natCast_pow];rfl
       have HFIN:=Hi (Qa3 HYE.out HHE.out HU.out HLOW.out HUN.out HVQ.out hvq hvY2);rw[hR] at HFIN;clear hvq hR;go_wp2_with fail;go_ret2;have e1:(QQ:Int)=(qm:Int)*4294967296+(q3:Int):=by have:=HFIN.out.1;rw[HQQ.out] at this;omega
       have e2:(RR:Int)=(R:Int):=by have:=HFIN.out.2;rw[HRR.out] at this;omega
       exact⟨by rw[e1,e2];rfl,0,rfl⟩
      ·
       have HLT2:=Hi (Qdj hY0 (fun h=>hB (HIF2.out.2 h)));have hB2:4294967296*(r3:Int)+(un0:Int)<(t2:Int):=by omega
       have hq12:1<=q3:=by
        rcases Nat.eq_zero_or_pos q3 with h|h
        ·
         exfalso
         subst h;have:=rt2;simp at this;omega
        · exact h
       clear hB;obtain⟨qm2,hqm⟩:∃qm2,q3=qm2+1:=⟨q3 - 1,by omega⟩;have eq12:(q3:Int) - 1=(qm2:Int):=by omega
       have hqmb2:qm2<8589934592:=by omega
       have HQM2:=Hi hqm;have HQR12:Hid (qm2*yn1+(r3+yn1)=v):=Hi (by have:=HQR3.out;rw[hqm,Nat.succ_mul] at this;omega);have HQ12:Hid ((4294967296*v+un0) / Y<=qm2):=Hi (Nat.le_of_lt_succ (by have:=HLT2.out;omega));clear hqm hq12;by_cases hC:4294967296<=r3+yn1
       ·
        have hbr:=Qbf HYS.out hyn0b hvY HQR12.out hC (by omega);have HQF2:Hid ((4294967296*v+un0) / Y=qm2):=Hi (Qaw hY0 ((Qav (n1:=un0) HYS.out HQR12.out).1 (by omega)) HQ12.out);have hC':(4294967296:Int)<=(r3:Int)+(yn1:Int):=by omega
        clear hC hbr;obtain⟨a1,P,b1,v2,ha1,hb1,hvY2,hvq,y1,y2,y3,y4⟩:=Qau v un0 qm2 Y hY2 hY0 hun0b HQF2.out;have hQb:qm<4294967296:=by rw[<-HQF.out];exact Qag hu32b hun1b
        have hQb2:qm2<4294967296:=by rw[<-HQF2.out];exact Qag hvY hun0b
        obtain⟨R,hR⟩:=nm (v2 / 2 ^ s);have rR:(v2:Int) / 2 ^ s=(R:Int):=by rw[<-hR,Int.natCast_ediv,Int.natCast_pow];rfl
        have HFIN:=Hi (Qa3 HYE.out HHE.out HU.out HLOW.out HUN.out HVQ.out hvq hvY2);rw[hR] at HFIN;clear hvq hR;go_wp2_with fail;go_ret2;have e1:(QQ:Int)=(qm:Int)*4294967296+(qm2:Int):=by have:=HFIN.out.1;rw[HQQ.out] at this;omega
        have e2:(RR:Int)=(R:Int):=by have:=HFIN.out.2;rw[HRR.out] at this;omega
        exact⟨by rw[e1,e2];rfl,0,rfl⟩
       ·
        have hC':¬((4294967296:Int)<=(r3:Int)+(yn1:Int)):=by omega
        have hC2:r3+yn1<4294967296:=by omega
        clear hC;go_wp2_with fail;go_round
        case rel=>exact⟨qm2,r3+yn1,by go_num,by go_num,HQR12.out,HQ12.out,hC2,by omega⟩
        case measure=>have:=HQM2.out;simp[intOf];omega
   ·
    have hC':¬((4294967296:Int)<=(r:Int)+(yn1:Int)):=by omega
    have hC2:r+yn1<4294967296:=by omega
    clear hC;go_wp2_with fail;go_round
    case rel=>exact⟨qm,r+yn1,by go_num,by go_num,HQR1.out,HQ1.out,hC2,by omega⟩
    case measure=>have:=HQM.out;simp[intOf];omega
  ·
   obtain⟨t,ht⟩:=nm (q*yn0);have htb:t<=4294967295*4294967295:=by rw[<-ht];exact Nat.mul_le_mul (by omega) (by omega)
   have rt:(q:Int)*(yn0:Int)=(t:Int):=by rw[<-ht];rfl
   have HIF:=Hi (Qav (n1:=un1) HYS.out HQR.out);rw[ht] at HIF;have hA':¬((4294967296:Int)<=(q:Int)):=by omega
   clear ht hA;by_cases hB:t<=4294967296*r+un1
   ·
    have HQF:=Hi (Qaw hY0 (HIF.out.1 hB) HQ.out);have hB':¬(4294967296*(r:Int)+(un1:Int)<(t:Int)):=by omega
    clear hB;obtain⟨a1,P,b1,v,ha1,hb1,hvY,hvq,z1,z2,z3,z4⟩:=Qau u un1 q Y hY2 hY0 hun1b HQF.out;obtain⟨q2',p2,r2',hq2,hp2,hpr2,hr2b,hq2b,x1,x2,x3,x4⟩:=Qfa v yn1 hyn1b.1 hyn1b.2 (by omega);have HVQ:=Hi hvq;have HQ2:=Hi hq2;have HP2:=Hi hp2;have HPR2:=Hi hpr2;clear hvq r1 r2 r3 r4 r5 r6 r7 r8 r9 hq2 hp2 hpr2;go_wp2_with fail;clear z1 z2 z3 z4;go_loop [18,16] (fun qv rv=>∃q r:Nat,qv=.int .u64 q/\rv=.int .u64 r/\q*yn1+r=v/\(4294967296*v+un0) / Y<=q/\r<4294967296/\q<8589934592) (fun qv _=>(intOf qv).toNat)
    case atStart=>exact⟨q2',r2',rfl,rfl,by rw[HP2.out];exact HPR2.out,by rw[<-HQ2.out];exact Qdi HYS.out hun0b (by omega),by omega,hq2b⟩
    case round=>
     clear x1 x2 x3 x4 hr2b hq2b;obtain⟨q3,r3,rfl,rfl,hqr,hQ,hrb3,hqb3⟩:=hrel;have HQR3:=Hi hqr;have HQ3:=Hi hQ;clear hqr hQ;by_cases hA:4294967296<=q3
     ·
      have HLT2:Hid ((4294967296*v+un0) / Y<q3):=Hi (Nat.lt_of_lt_of_le (Qag hvY hun0b) hA);have hA2:(4294967296:Int)<=(q3:Int):=by omega
      have hq12:1<=q3:=by omega
      clear hA;obtain⟨qm2,hqm⟩:∃qm2,q3=qm2+1:=⟨q3 - 1,by omega⟩;have eq12:(q3:Int) - 1=(qm2:Int):=by omega
      have hqmb2:qm2<8589934592:=by omega
      have HQM2:=Hi hqm;have HQR12:Hid (qm2*yn1+(r3+yn1)=v):=Hi (by have:=HQR3.out;rw[hqm,Nat.succ_mul] at this;omega);have HQ12:Hid ((4294967296*v+un0) / Y<=qm2):=Hi (Nat.le_of_lt_succ (by have:=HLT2.out;omega));clear hqm hq12;by_cases hC:4294967296<=r3+yn1
      ·
       have hbr:=Qbf HYS.out hyn0b hvY HQR12.out hC (by omega);have HQF2:Hid ((4294967296*v+un0) / Y=qm2):=Hi (Qaw hY0 ((Qav (n1:=un0) HYS.out HQR12.out).1 (by omega)) HQ12.out);have hC':(4294967296:Int)<=(r3:Int)+(yn1:Int):=by omega
       clear hC hbr;obtain⟨a1,P,b1,v2,ha1,hb1,hvY2,hvq,y1,y2,y3,y4⟩:=Qau v un0 qm2 Y hY2 hY0 hun0b HQF2.out;have hQb:q<4294967296:=by rw[<-HQF.out];exact Qag hu32b hun1b
       have hQb2:qm2<4294967296:=by rw[<-HQF2.out];exact Qag hvY hun0b
       obtain⟨R,hR⟩:=nm (v2 / 2 ^ s);have rR:(v2:Int) / 2 ^ s=(R:Int):=by rw[<-hR,Int.natCast_ediv,Int.natCast_pow];rfl
       have HFIN:=Hi (Qa3 HYE.out HHE.out HU.out HLOW.out HUN.out HVQ.out hvq hvY2);rw[hR] at HFIN;clear hvq hR;go_wp2_with fail;go_ret2;have e1:(QQ:Int)=(q:Int)*4294967296+(qm2:Int):=by have:=HFIN.out.1;rw[HQQ.out] at this;omega
       have e2:(RR:Int)=(R:Int):=by have:=HFIN.out.2;rw[HRR.out] at this;omega
       exact⟨by rw[e1,e2];rfl,0,rfl⟩
      ·
       have hC':¬((4294967296:Int)<=(r3:Int)+(yn1:Int)):=by omega
       have hC2:r3+yn1<4294967296:=by omega
       clear hC;go_wp2_with fail;go_round
       case rel=>exact⟨qm2,r3+yn1,by go_num,by go_num,HQR12.out,HQ12.out,hC2,by omega⟩
       case measure=>have:=HQM2.out;simp[intOf];omega
     ·
      obtain⟨t2,ht⟩:∃t,q3*yn0=t:=⟨_,rfl⟩;have htb2:t2<=4294967295*4294967295:=by rw[<-ht];exact Nat.mul_le_mul (by omega) (by omega)
      have rt2:(q3:Int)*(yn0:Int)=(t2:Int):=by rw[<-ht];rfl
      have HIF2:=Hi (Qav (n1:=un0) HYS.out HQR3.out);rw[ht] at HIF2;have hA2:¬((4294967296:Int)<=(q3:Int)):=by omega
      clear ht hA;by_cases hB:t2<=4294967296*r3+un0
      ·
       have HQF2:=Hi (Qaw hY0 (HIF2.out.1 hB) HQ3.out);have hB2:¬(4294967296*(r3:Int)+(un0:Int)<(t2:Int)):=by omega
       clear hB;obtain⟨a1,P,b1,v2,ha1,hb1,hvY2,hvq,y1,y2,y3,y4⟩:=Qau v un0 q3 Y hY2 hY0 hun0b HQF2.out;have hQb:q<4294967296:=by rw[<-HQF.out];exact Qag hu32b hun1b
       have hQb2:q3<4294967296:=by rw[<-HQF2.out];exact Qag hvY hun0b
       obtain⟨R,hR⟩:=nm (v2 / 2 ^ s);have rR:(v2:Int) / 2 ^ s=(R:Int):=by rw[<-hR,Int.natCast_ediv,Int.natCast_pow];rfl
       have HFIN:=Hi (Qa3 HYE.out HHE.out HU.out HLOW.out HUN.out HVQ.out hvq hvY2);rw[hR] at HFIN;clear hvq hR;go_wp2_with fail;go_ret2;have e1:(QQ:Int)=(q:Int)*4294967296+(q3:Int):=by have:=HFIN.out.1;rw[HQQ.out] at this;omega
       have e2:(RR:Int)=(R:Int):=by have:=HFIN.out.2;rw[HRR.out] at this;omega
       exact⟨by rw[e1,e2];rfl,0,rfl⟩
      ·
       have HLT2:=Hi (Qdj hY0 (fun h=>hB (HIF2.out.2 h)));have hB2:4294967296*(r3:Int)+(un0:Int)<(t2:Int):=by omega
       have hq12:1<=q3:=by
        rcases Nat.eq_zero_or_pos q3 with h|h
        ·
         exfalso
         subst h;have:=rt2;simp at this;omega
        · exact h
       clear hB;obtain⟨qm2,hqm⟩:∃qm2,q3=qm2+1:=⟨q3 - 1,by omega⟩;have eq12:(q3:Int) - 1=(qm2:Int):=by omega
       have hqmb2:qm2<8589934592:=by omega
       have HQM2:=Hi hqm;have HQR12:Hid (qm2*yn1+(r3+yn1)=v):=Hi (by have:=HQR3.out;rw[hqm,Nat.succ_mul] at this;omega);have HQ12:Hid ((4294967296*v+un0) / Y<=qm2):=Hi (Nat.le_of_lt_succ (by have:=HLT2.out;omega));clear hqm hq12;by_cases hC:4294967296<=r3+yn1
       ·
        have hbr:=Qbf HYS.out hyn0b hvY HQR12.out hC (by omega);have HQF2:Hid ((4294967296*v+un0) / Y=qm2):=Hi (Qaw hY0 ((Qav (n1:=un0) HYS.out HQR12.out).1 (by omega)) HQ12.out);have hC':(4294967296:Int)<=(r3:Int)+(yn1:Int):=by omega
        clear hC hbr;obtain⟨a1,P,b1,v2,ha1,hb1,hvY2,hvq,y1,y2,y3,y4⟩:=Qau v un0 qm2 Y hY2 hY0 hun0b HQF2.out;have hQb:q<4294967296:=by rw[<-HQF.out];exact Qag hu32b hun1b
        have hQb2:qm2<4294967296:=by rw[<-HQF2.out];exact Qag hvY hun0b
        obtain⟨R,hR⟩:=nm (v2 / 2 ^ s);have rR:(v2:Int) / 2 ^ s=(R:Int):=by rw[<-hR,Int.natCast_ediv,Int.natCast_pow];rfl
        have HFIN:=Hi (Qa3 HYE.out HHE.out HU.out HLOW.out HUN.out HVQ.out hvq hvY2);rw[hR] at HFIN;clear hvq hR;go_wp2_with fail;go_ret2;have e1:(QQ:Int)=(q:Int)*4294967296+(qm2:Int):=by have:=HFIN.out.1;rw[HQQ.out] at this;omega
        have e2:(RR:Int)=(R:Int):=by have:=HFIN.out.2;rw[HRR.out] at this;omega
        exact⟨by rw[e1,e2];rfl,0,rfl⟩
       ·
        have hC':¬((4294967296:Int)<=(r3:Int)+(yn1:Int)):=by omega
        have hC2:r3+yn1<4294967296:=by omega
        clear hC;go_wp2_with fail;go_round
        case rel=>exact⟨qm2,r3+yn1,by go_num,by go_num,HQR12.out,HQ12.out,hC2,by omega⟩
        case measure=>have:=HQM2.out;simp[intOf];omega
   ·
    have HLT:=Hi (Qdj hY0 (fun h=>hB (HIF.out.2 h)));have hB':4294967296*(r:Int)+(un1:Int)<(t:Int):=by omega
    have hq1:1<=q:=by
     rcases Nat.eq_zero_or_pos q with h|h
     ·
      exfalso
      subst h;have:=rt;simp at this;omega
     · exact h
    clear hB;obtain⟨qm,hqm⟩:∃qm,q=qm+1:=⟨q - 1,by omega⟩;have eq1:(q:Int) - 1=(qm:Int):=by omega
    have hqmb:qm<8589934592:=by omega
    have HQM:=Hi hqm;have HQR1:Hid (qm*yn1+(r+yn1)=u):=Hi (by have:=HQR.out;rw[hqm,Nat.succ_mul] at this;omega);have HQ1:Hid ((4294967296*u+un1) / Y<=qm):=Hi (Nat.le_of_lt_succ (by have:=HLT.out;omega));clear hqm hq1;by_cases hC:4294967296<=r+yn1
    ·
     have hbr:=Qbf HYS.out hyn0b hu32b HQR1.out hC (by omega);have HQF:Hid ((4294967296*u+un1) / Y=qm):=Hi (Qaw hY0 ((Qav (n1:=un1) HYS.out HQR1.out).1 (by omega)) HQ1.out);have hC':(4294967296:Int)<=(r:Int)+(yn1:Int):=by omega
     clear hC hbr;obtain⟨a1,P,b1,v,ha1,hb1,hvY,hvq,z1,z2,z3,z4⟩:=Qau u un1 qm Y hY2 hY0 hun1b HQF.out;obtain⟨q2',p2,r2',hq2,hp2,hpr2,hr2b,hq2b,x1,x2,x3,x4⟩:=Qfa v yn1 hyn1b.1 hyn1b.2 (by omega);have HVQ:=Hi hvq;have HQ2:=Hi hq2;have HP2:=Hi hp2;have HPR2:=Hi hpr2;clear hvq r1 r2 r3 r4 r5 r6 r7 r8 r9 hq2 hp2 hpr2;go_wp2_with fail;clear z1 z2 z3 z4;go_loop [18,16] (fun qv rv=>∃q r:Nat,qv=.int .u64 q/\rv=.int .u64 r/\q*yn1+r=v/\(4294967296*v+un0) / Y<=q/\r<4294967296/\q<8589934592) (fun qv _=>(intOf qv).toNat)
     case atStart=>exact⟨q2',r2',rfl,rfl,by rw[HP2.out];exact HPR2.out,by rw[<-HQ2.out];exact Qdi HYS.out hun0b (by omega),by omega,hq2b⟩
     case round=>
      clear x1 x2 x3 x4 hr2b hq2b;obtain⟨q3,r3,rfl,rfl,hqr,hQ,hrb3,hqb3⟩:=hrel;have HQR3:=Hi hqr;have HQ3:=Hi hQ;clear hqr hQ;by_cases hA:4294967296<=q3
      ·
       have HLT2:Hid ((4294967296*v+un0) / Y<q3):=Hi (Nat.lt_of_lt_of_le (Qag hvY hun0b) hA);have hA2:(4294967296:Int)<=(q3:Int):=by omega
       have hq12:1<=q3:=by omega
       clear hA;obtain⟨qm2,hqm⟩:∃qm2,q3=qm2+1:=⟨q3 - 1,by omega⟩;have eq12:(q3:Int) - 1=(qm2:Int):=by omega
       have hqmb2:qm2<8589934592:=by omega
       have HQM2:=Hi hqm;have HQR12:Hid (qm2*yn1+(r3+yn1)=v):=Hi (by have:=HQR3.out;rw[hqm,Nat.succ_mul] at this;omega);have HQ12:Hid ((4294967296*v+un0) / Y<=qm2):=Hi (Nat.le_of_lt_succ (by have:=HLT2.out;omega));clear hqm hq12;by_cases hC:4294967296<=r3+yn1
       ·
        have hbr:=Qbf HYS.out hyn0b hvY HQR12.out hC (by omega);have HQF2:Hid ((4294967296*v+un0) / Y=qm2):=Hi (Qaw hY0 ((Qav (n1:=un0) HYS.out HQR12.out).1 (by omega)) HQ12.out);have hC':(4294967296:Int)<=(r3:Int)+(yn1:Int):=by omega
        clear hC hbr;obtain⟨a1,P,b1,v2,ha1,hb1,hvY2,hvq,y1,y2,y3,y4⟩:=Qau v un0 qm2 Y hY2 hY0 hun0b HQF2.out;have hQb:qm<4294967296:=by rw[<-HQF.out];exact Qag hu32b hun1b
        have hQb2:qm2<4294967296:=by rw[<-HQF2.out];exact Qag hvY hun0b
        obtain⟨R,hR⟩:=nm (v2 / 2 ^ s);have rR:(v2:Int) / 2 ^ s=(R:Int):=by rw[<-hR,Int.natCast_ediv,Int.natCast_pow];rfl
        have HFIN:=Hi (Qa3 HYE.out HHE.out HU.out HLOW.out HUN.out HVQ.out hvq hvY2);rw[hR] at HFIN;clear hvq hR;go_wp2_with fail;go_ret2;have e1:(QQ:Int)=(qm:Int)*4294967296+(qm2:Int):=by have:=HFIN.out.1;rw[HQQ.out] at this;omega
        have e2:(RR:Int)=(R:Int):=by have:=HFIN.out.2;rw[HRR.out] at this;omega
        exact⟨by rw[e1,e2];rfl,0,rfl⟩
       ·
        have hC':¬((4294967296:Int)<=(r3:Int)+(yn1:Int)):=by omega
        have hC2:r3+yn1<4294967296:=by omega
        clear hC;go_wp2_with fail;go_round
        case rel=>exact⟨qm2,r3+yn1,by go_num,by go_num,HQR12.out,HQ12.out,hC2,by omega⟩
        case measure=>have:=HQM2.out;simp[intOf];omega
      ·
       obtain⟨t2,ht⟩:∃t,q3*yn0=t:=⟨_,rfl⟩;have htb2:t2<=4294967295*4294967295:=by rw[<-ht];exact Nat.mul_le_mul (by omega) (by omega)
       have rt2:(q3:Int)*(yn0:Int)=(t2:Int):=by rw[<-ht];rfl
       have HIF2:=Hi (Qav (n1:=un0) HYS.out HQR3.out);rw[ht] at HIF2;have hA2:¬((4294967296:Int)<=(q3:Int)):=by omega
       clear ht hA;by_cases hB:t2<=4294967296*r3+un0
       ·
        have HQF2:=Hi (Qaw hY0 (HIF2.out.1 hB) HQ3.out);have hB2:¬(4294967296*(r3:Int)+(un0:Int)<(t2:Int)):=by omega
        clear hB;obtain⟨a1,P,b1,v2,ha1,hb1,hvY2,hvq,y1,y2,y3,y4⟩:=Qau v un0 q3 Y hY2 hY0 hun0b HQF2.out;have hQb:qm<4294967296:=by rw[<-HQF.out];exact Qag hu32b hun1b
        have hQb2:q3<4294967296:=by rw[<-HQF2.out];exact Qag hvY hun0b
        obtain⟨R,hR⟩:=nm (v2 / 2 ^ s);have rR:(v2:Int) / 2 ^ s=(R:Int):=by rw[<-hR,Int.natCast_ediv,Int.natCast_pow];rfl
        have HFIN:=Hi (Qa3 HYE.out HHE.out HU.out HLOW.out HUN.out HVQ.out hvq hvY2);rw[hR] at HFIN;clear hvq hR;go_wp2_with fail;go_ret2;have e1:(QQ:Int)=(qm:Int)*4294967296+(q3:Int):=by have:=HFIN.out.1;rw[HQQ.out] at this;omega
        have e2:(RR:Int)=(R:Int):=by have:=HFIN.out.2;rw[HRR.out] at this;omega
        exact⟨by rw[e1,e2];rfl,0,rfl⟩
       ·
        have HLT2:=Hi (Qdj hY0 (fun h=>hB (HIF2.out.2 h)));have hB2:4294967296*(r3:Int)+(un0:Int)<(t2:Int):=by omega
        have hq12:1<=q3:=by
         rcases Nat.eq_zero_or_pos q3 with h|h
         ·
          exfalso
          subst h;have:=rt2;simp at this;omega
         · exact h
        clear hB;obtain⟨qm2,hqm⟩:∃qm2,q3=qm2+1:=⟨q3 - 1,by omega⟩;have eq12:(q3:Int) - 1=(qm2:Int):=by omega
        have hqmb2:qm2<8589934592:=by omega
        have HQM2:=Hi hqm;have HQR12:Hid (qm2*yn1+(r3+yn1)=v):=Hi (by have:=HQR3.out;rw[hqm,Nat.succ_mul] at this;omega);have HQ12:Hid ((4294967296*v+un0) / Y<=qm2):=Hi (Nat.le_of_lt_succ (by have:=HLT2.out;omega));clear hqm hq12;by_cases hC:4294967296<=r3+yn1
        ·
         have hbr:=Qbf HYS.out hyn0b hvY HQR12.out hC (by omega);have HQF2:Hid ((4294967296*v+un0) / Y=qm2):=Hi (Qaw hY0 ((Qav (n1:=un0) HYS.out HQR12.out).1 (by omega)) HQ12.out);have hC':(4294967296:Int)<=(r3:Int)+(yn1:Int):=by omega
         clear hC hbr;obtain⟨a1,P,b1,v2,ha1,hb1,hvY2,hvq,y1,y2,y3,y4⟩:=Qau v un0 qm2 Y hY2 hY0 hun0b HQF2.out;have hQb:qm<4294967296:=by rw[<-HQF.out];exact Qag hu32b hun1b
         have hQb2:qm2<4294967296:=by rw[<-HQF2.out];exact Qag hvY hun0b
         obtain⟨R,hR⟩:=nm (v2 / 2 ^ s);have rR:(v2:Int) / 2 ^ s=(R:Int):=by rw[<-hR,Int.natCast_ediv,Int.natCast_pow];rfl
         have HFIN:=Hi (Qa3 HYE.out HHE.out HU.out HLOW.out HUN.out HVQ.out hvq hvY2);rw[hR] at HFIN;clear hvq hR;go_wp2_with fail;go_ret2;have e1:(QQ:Int)=(qm:Int)*4294967296+(qm2:Int):=by have:=HFIN.out.1;rw[HQQ.out] at this;omega
         have e2:(RR:Int)=(R:Int):=by have:=HFIN.out.2;rw[HRR.out] at this;omega
         exact⟨by rw[e1,e2];rfl,0,rfl⟩
        ·
         have hC':¬((4294967296:Int)<=(r3:Int)+(yn1:Int)):=by omega
         have hC2:r3+yn1<4294967296:=by omega
         clear hC;go_wp2_with fail;go_round
         case rel=>exact⟨qm2,r3+yn1,by go_num,by go_num,HQR12.out,HQ12.out,hC2,by omega⟩
         case measure=>have:=HQM2.out;simp[intOf];omega
    ·
     have hC':¬((4294967296:Int)<=(r:Int)+(yn1:Int)):=by omega
     have hC2:r+yn1<4294967296:=by omega
     clear hC;go_wp2_with fail;go_round
     case rel=>exact⟨qm,r+yn1,by go_num,by go_num,HQR1.out,HQ1.out,hC2,by omega⟩
     case measure=>have:=HQM.out;simp[intOf];omega
theorem div64(hi lo y:Nat)(hhy:hi<y)(hl:lo<18446744073709551616)(hy:y<18446744073709551616):∃q r:Nat,q<18446744073709551616/\r<y/\y*q+r=18446744073709551616*hi+lo/\
 ∀w,Calls Tryz.prog 164 #[.int .u64 hi,.int .u64 lo,.int .u64 y] w fun e w'=>e=.returned (.tuple #[.int .u64 (q:Int),.int .u64 (r:Int)])/\∃n,w'=w.drewN n:=by
 have h1:=Nat.div_add_mod (18446744073709551616*hi+lo) y;refine⟨_,_,?_,Nat.mod_lt _ (by omega),h1,fun w=>?_⟩
 ·
  rw[Nat.div_lt_iff_lt_mul (by omega)];have:=Nat.mul_le_mul_left 18446744073709551616 (show hi+1<=y from hhy);omega
 ·
  by_cases h0:hi=0
  ·
   subst h0;have:=Qod lo y w hl hy (by omega);rw[Nat.mul_zero,Nat.zero_add];exact this
  · exact Qoe hi lo y _ _ w rfl rfl (by omega) hhy hl hy
end Go.Proofs.YtfpcipgoedifaaaGreatDoor
