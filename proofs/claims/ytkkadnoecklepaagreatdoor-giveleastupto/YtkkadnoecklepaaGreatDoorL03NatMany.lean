import Derived.Test.YtkkadnoecklepaaGreatDoorL02Dv
import Derived.Lib.SliceRun
import Derived.Deep.DeepFit
namespace Go.Proofs.YtkkadnoecklepaaGreatDoor
open Go.RowKit
open Go.Proofs.Tryz
set_option linter.unusedSimpArgs false
set_option linter.unusedVariables false
set_option maxHeartbeats 8000000
set_option maxRecDepth 1000000
theorem Qfv(x:Int)(w:Vz)(a:0<=x)(b:x<=18446744073709551615):
 Calls prog 217 #[.int .u64 x] w fun e w'=>e=.returned (.int .i64 (64 - (Lib.bitLen x.toNat:Int)))/\w'=w:=Any.bits_LeadingZeros64 Tryz.lays134 x w a b
theorem Qou(lo y:Nat)(w:Vz)(hl:lo<18446744073709551616)(g:y<18446744073709551616)(h:0<y):
 Calls prog 222 #[.int .u64 0,.int .u64 lo,.int .u64 y] w fun e w'=>e=.returned (.tuple #[.int .u64 ((lo / y:Nat):Int),.int .u64 ((lo % y:Nat):Int)])/\∃n,w'=w.drewN n:=by
 have i:((y:Int) == 0)=false:=by rw[beq_eq_false_iff_ne];omega
 have j:¬((y:Int)<=0):=by omega
 obtain⟨Q,a⟩:=nm (lo / y);obtain⟨R,b⟩:=nm (lo % y);have c:Q<18446744073709551616:=by rw[<-a];exact Nat.lt_of_le_of_lt (Nat.div_le_self _ _) hl
 have d1:(lo:Int) / (y:Int)=(Q:Int):=by rw[<-a];rfl
 have d2:(lo:Int) % (y:Int)=(R:Int):=by rw[<-b];rfl
 have d:Int.tdiv (lo:Int) (y:Int)=(Q:Int):=by rw[<-a];rfl
 have f:Int.tmod (lo:Int) (y:Int)=(R:Int):=by rw[<-b];rfl
 rw[a,b];clear a b;go_enter func222,ntmps222;go_wp2;go_quiet (fail);go_wp2;go_ret2;exact⟨rfl,_,rfl⟩
theorem Qfw(y:Nat)(b:0<y)(c:y<18446744073709551616):∃s:Nat,s<64/\64 - (Lib.bitLen (y:Int).toNat:Int)=s/\9223372036854775808<=y*2 ^ s/\y*2 ^ s<18446744073709551616:=by
 rw[Int.toNat_natCast];have h:∀(k:Nat),k<=64->∀z,2 ^ (64 - k)<=z->z<18446744073709551616->True:=fun _ _ _ _ _=>trivial
 have d:=Qfr y;have a:=Qh5 (n:=y) (k:=nb y - 1) (by have:=Qdw b;omega);have i:nb y<=64:=nb_le c;have f:=Qdw b;have e:Lib.bitLen y=nb y:=by
  have g:=Lib.bitLen_shift (nb y - 1) y a c;have j:y / 2 ^ (nb y - 1)=1:=by
   apply Nat.le_antisymm
   .
    have:y / 2 ^ (nb y - 1)<2:=by
     rw[Nat.div_lt_iff_lt_mul (Nat.two_pow_pos _),<-Nat.pow_succ',show (nb y - 1).succ=nb y by omega];exact d
    omega
   . exact(Nat.one_le_div_iff (Nat.two_pow_pos _)).2 a
  rw[j] at g;have l:Lib.bitLen 1=1:=by decide
  rw[g,l];omega
 refine⟨64 - nb y,by omega,by rw[e];omega,?_,?_⟩
 .
  have:2 ^ (nb y - 1)*2 ^ (64 - nb y)<=y*2 ^ (64 - nb y):=Nat.mul_le_mul_right _ a;rw[<-Nat.pow_add,show nb y - 1+(64 - nb y)=63 by omega] at this;exact this
 .
  have:y*2 ^ (64 - nb y)<2 ^ nb y*2 ^ (64 - nb y):=Nat.mul_lt_mul_of_pos_right d (Nat.two_pow_pos _);rw[<-Nat.pow_add,show nb y+(64 - nb y)=64 by omega] at this;exact this
theorem Qfx(u a:Nat)(d:2147483648<=a)(c:a<4294967296)(e:u<18446744073709551616):∃q p r:Nat,u / a=q/\q*a=p/\p+r=u/\r<a/\q<8589934592/\Int.tdiv (u:Int) (a:Int)=(q:Int)/\(u:Int) / (a:Int)=(q:Int)/\(q:Int)*(a:Int)=(p:Int)/\(u:Int) - (p:Int)=(r:Int):=by
 have b:u / a*a+u % a=u:=by rw[Nat.mul_comm];exact Nat.div_add_mod u a
 refine⟨u / a,u / a*a,u % a,rfl,rfl,b,Nat.mod_lt _ (by omega),?_,rfl,rfl,rfl,?_⟩
 . rw[Nat.div_lt_iff_lt_mul (by omega)];omega
 . have:((u / a*a:Nat):Int)+((u % a:Nat):Int)=(u:Int):=by rw[<-Int.natCast_add,b]
   omega
theorem Qav(u a q Y:Nat)(i:Y<18446744073709551616)(b:0<Y)(j:a<4294967296)(f:(4294967296*u+a) / Y=q):
 ∃c P d v:Nat,c+a<18446744073709551616/\d<18446744073709551616/\v<Y/\v+q*Y=4294967296*u+a/\(IntKind.u64.wrap ((u:Int)*4294967296)=(c:Int))/\((q:Int)*(Y:Int)=(P:Int))/\(IntKind.u64.wrap (P:Int)=(d:Int))/\IntKind.u64.wrap ((c:Int)+(a:Int) - (d:Int))=(v:Int):=by
 have g:(4294967296*u+a) % Y+q*Y=4294967296*u+a:=by
  have h:=Nat.mod_add_div (4294967296*u+a) Y;rw[f,Nat.mul_comm Y q] at h;exact h
 have e:(4294967296*u+a) % Y<Y:=Nat.mod_lt _ b;refine⟨u*4294967296 % 18446744073709551616,q*Y,q*Y % 18446744073709551616,(4294967296*u+a) % Y,by omega,by omega,e,g,?_,rfl,?_,?_⟩
 . rw[Qaq];omega
 . rw[Qaq];rfl
 .
  rw[Qaq];generalize q*Y=P at*;generalize (4294967296*u+a) % Y=v at*;omega
theorem Qa7{b lo y s u H i a c d Y Q e v g:Nat}(j:y*2 ^ s=Y)(k:b*2 ^ s=H)(m:H+i=u)(f:lo*2 ^ s=18446744073709551616*i+a)(l:a=4294967296*c+d)(n:v+Q*Y=4294967296*u+c)(o:g+e*Y=4294967296*v+d)(hv2:g<Y):
 (18446744073709551616*b+lo) / y=Q*4294967296+e/\(18446744073709551616*b+lo) % y=g / 2 ^ s:=by
 have h:=Qgb (X:=(18446744073709551616*b+lo)*2 ^ s) (V:=Y) (x:=18446744073709551616*b+lo) (y:=y) (p:=2 ^ s) (Q:=Q*4294967296+e) (R:=g) (Nat.two_pow_pos s) rfl j (by
  rw[Nat.add_mul,Nat.mul_assoc,k,f,Nat.mul_add,Nat.mul_comm Y (Q*4294967296),Nat.mul_comm Y e,Nat.mul_assoc Q,Nat.mul_comm 4294967296 Y,<-Nat.mul_assoc];generalize Q*Y=A at*;generalize e*Y=B at*
  omega) hv2
 exact⟨h.1.symm,h.2.symm⟩
theorem Qov(hi lo y QQ RR:Nat)(w:Vz)(bs:(18446744073709551616*hi+lo) / y=QQ)(bt:(18446744073709551616*hi+lo) % y=RR)(hh:0<hi)(bu:hi<y)(hl:lo<18446744073709551616)(hy:y<18446744073709551616):
 Calls prog 222 #[.int .u64 hi,.int .u64 lo,.int .u64 y] w fun e w'=>e=.returned (.tuple #[.int .u64 (QQ:Int),.int .u64 (RR:Int)])/\∃n,w'=w.drewN n:=by
 obtain⟨an,ao⟩:=Ia bs bt;clear bs bt;have q0:((y:Int) == 0)=false:=by rw[beq_eq_false_iff_ne];omega
 have q1:¬((y:Int)<=(hi:Int)):=by omega
 have q2:((hi:Int) == 0)=false:=by rw[beq_eq_false_iff_ne];omega
 obtain⟨s,cd,hs,b4,S⟩:=Qfw y (by omega) hy;have HL:=Hi (Qfv y w (by omega) (by omega));rw[hs] at HL;obtain⟨Y,a4⟩:=nm (y*2 ^ s);rw[a4] at b4 S;obtain⟨H,av⟩:=nm (hi*2 ^ s);have ce:H<Y:=by rw[<-av,<-a4];exact Nat.mul_lt_mul_of_pos_right bu (Nat.two_pow_pos _)
 obtain⟨l2,a3⟩:=nm (lo / 2 ^ (64 - s));have bv:l2<2 ^ s:=by rw[<-a3];exact Qfy (by omega) hl
 obtain⟨ab,ap⟩:∃z,lo*2 ^ s % 18446744073709551616=z:=⟨_,rfl⟩;have bf:ab<18446744073709551616:=by rw[<-ap];exact Nat.mod_lt _ (by decide)
 have a5:=low64 (lo:=lo) (s:=s) (by omega);rw[a3,ap] at a5;have x:H+l2<Y:=by
  have:(hi+1)*2 ^ s<=y*2 ^ s:=Nat.mul_le_mul_right _ bu;rw[Nat.add_mul,av,a4,Nat.one_mul] at this;omega
 have r1:IntKind.u64.wrap ((y:Int)*2 ^ s)=(Y:Int):=by
  rw[show (y:Int)*2 ^ s=((y*2 ^ s:Nat):Int) by rw[Int.natCast_mul,Int.natCast_pow];rfl,a4];exact Qcc Y S
 have r4:IntKind.u64.wrap ((hi:Int)*2 ^ s)=(H:Int):=by
  rw[show (hi:Int)*2 ^ s=((hi*2 ^ s:Nat):Int) by rw[Int.natCast_mul,Int.natCast_pow];rfl,av];exact Qcc H (by omega)
 have r5:(lo:Int) / 2 ^ (64 - s)=(l2:Int):=by
  rw[<-a3,Int.natCast_ediv,Int.natCast_pow];rfl
 have r7:IntKind.u64.wrap ((lo:Int)*2 ^ s)=(ab:Int):=by
  rw[show (lo:Int)*2 ^ s=((lo*2 ^ s:Nat):Int) by rw[Int.natCast_mul,Int.natCast_pow];rfl,Qaq,<-ap];rfl
 obtain⟨u,hu⟩:=nm (H+l2);have r6:bits .or .u64 (H:Int) (l2:Int)=(u:Int):=by
  rw[or64 (H:Int) (l2:Int) hi l2 s (by rw[<-av,Nat.mul_comm]) rfl bv (by rw[Nat.mul_comm,av];omega),Nat.mul_comm,av,hu]
 rw[hu] at x;obtain⟨a,bw⟩:∃z,Y / 4294967296=z:=⟨_,rfl⟩;obtain⟨ag,bg⟩:∃z,Y % 4294967296=z:=⟨_,rfl⟩;have bl:Y=4294967296*a+ag:=by omega
 have aa:2147483648<=a/\a<4294967296:=by omega
 have G:ag<4294967296:=by omega
 have r2:(Y:Int) / 4294967296=(a:Int):=by omega
 have D:bits .and .u64 (Y:Int) 4294967295=(ag:Int):=by rw[Mul64.maskN Y S,bg]
 obtain⟨Q,bx⟩:∃z,ab / 4294967296=z:=⟨_,rfl⟩;obtain⟨i,bh⟩:∃z,ab % 4294967296=z:=⟨_,rfl⟩;have l:Q<4294967296:=by omega
 have d:i<4294967296:=by omega
 have r8:(ab:Int) / 4294967296=(Q:Int):=by omega
 have r9:bits .and .u64 (ab:Int) 4294967295=(i:Int):=by rw[Mul64.maskN ab bf,bh]
 have A:((a:Int) == 0)=false:=by rw[beq_eq_false_iff_ne];omega
 obtain⟨q,hq⟩:=nm (u / a);obtain⟨p,hp⟩:=nm (q*a);obtain⟨r,hr⟩:=nm (u % a);have bz:p+r=u:=by rw[<-hp,<-hq,<-hr,Nat.mul_comm];exact Nat.div_add_mod u a
 have b0:r<a:=by rw[<-hr];exact Nat.mod_lt _ (by omega)
 have b5:Int.tdiv (u:Int) (a:Int)=(q:Int):=by rw[<-hq];rfl
 have b2:(u:Int) / (a:Int)=(q:Int):=by rw[<-hq];rfl
 have b6:(q:Int)*(a:Int)=(p:Int):=by rw[<-hp];rfl
 have bm:q<8589934592:=by
  rw[<-hq,Nat.div_lt_iff_lt_mul (by omega)];omega
 obtain⟨E,aq,W,ar,au,HU,b7,HP⟩:=Ig bl (show ab=4294967296*Q+i by omega) a5 a4 av hu bz hp;have b8:O ((4294967296*u+Q) / Y<=q):=Hi (by rw[<-hq];exact Qd1 bl l (by omega));have b9:(u:Int) - (p:Int)=(r:Int):=by omega
 clear a4 av a3 ap bv hu hq hr hp bl bw bg bx bh a5 bz hs;go_enter func222,ntmps222;go_wp2_with fail;refine HL.o.mono ?_;rintro e w ⟨rfl,hw⟩;subst hw;clear HL;go_wp2_with fail;have m:0<Y:=by omega
 go_loop [15,16] (fun qv rv=>∃q r:Nat,qv=.int .u64 q/\rv=.int .u64 r/\q*a+r=u/\(4294967296*u+Q) / Y<=q/\r<4294967296/\q<8589934592) (fun qv _=>(intOf qv).toNat)
 case atStart=>exact⟨q,r,rfl,rfl,by rw[HP.o];exact b7.o,b8.o,by omega,bm⟩
 case round=>
  clear bm b0 b5 b2 b6 b9;obtain⟨q,r,rfl,rfl,ah,hQ,b0,bm⟩:=hrel;obtain⟨bn,HQ⟩:=Ia ah hQ;clear ah hQ;by_cases hA:4294967296<=q
  .
   have bo:=Hi (Nat.lt_of_lt_of_le (Qaf x l) hA);have ca:(4294967296:Int)<=(q:Int):=by omega
   have bp:1<=q:=by omega
   clear hA;obtain⟨X,k⟩:∃X,q=X+1:=⟨q - 1,by omega⟩;have cb:(q:Int) - 1=(X:Int):=by omega
   have b3:X<8589934592:=by omega
   have bq:=Hi k;have ai:O (X*a+(r+a)=u):=Hi (by have:=bn.o;rw[k,Nat.succ_mul] at this;omega);have a6:O ((4294967296*u+Q) / Y<=X):=Hi (Nat.le_of_lt_succ (by have:=bo.o;omega));clear k bp;by_cases hC:4294967296<=r+a
   .
    have T:=Qbk E.o G x ai.o hC (by omega);have Z:=Hi (Qax m ((Qaw (n1:=Q) E.o ai.o).1 (by omega)) a6.o);have U:(4294967296:Int)<=(r:Int)+(a:Int):=by omega
    clear hC T;obtain⟨a1,P,b1,v,aj,ak,F,j,z1,z2,z3,z4⟩:=Qav u Q X Y S m l Z.o;obtain⟨a7,p2,a8,aw,ax,ad,ay,ae,x1,x2,x3,x4⟩:=Qfx v a aa.1 aa.2 (by omega);obtain⟨al,a9,ba,az⟩:=Ic j aw ax ad;clear j r1 r2 D r4 r5 r6 r7 r8 r9 aw ax ad;go_wp2_with fail;clear z1 z2 z3 z4;go_loop [18,16] (fun qv rv=>∃q r:Nat,qv=.int .u64 q/\rv=.int .u64 r/\q*a+r=v/\(4294967296*v+i) / Y<=q/\r<4294967296/\q<8589934592) (fun qv _=>(intOf qv).toNat)
    case atStart=>exact⟨a7,a8,rfl,rfl,by rw[ba.o];exact az.o,by rw[<-a9.o];exact Qd1 E.o d (by omega),by omega,ae⟩
    case round=>
     clear x1 x2 x3 x4 ay ae;obtain⟨A,D,rfl,rfl,ah,hQ,bi,bj⟩:=hrel;obtain⟨I,bb⟩:=Ia ah hQ;clear ah hQ;by_cases hA:4294967296<=A
     .
      have J:=Hi (Nat.lt_of_lt_of_le (Qaf F d) hA);have bc:(4294967296:Int)<=(A:Int):=by omega
      have K:1<=A:=by omega
      clear hA;obtain⟨b,k⟩:∃b,A=b+1:=⟨A - 1,by omega⟩;have a0:(A:Int) - 1=(b:Int):=by omega
      have am:b<8589934592:=by omega
      have L:=Hi k;have f:O (b*a+(D+a)=v):=Hi (by have:=I.o;rw[k,Nat.succ_mul] at this;omega);have B:O ((4294967296*v+i) / Y<=b):=Hi (Nat.le_of_lt_succ (by have:=J.o;omega));clear k K;by_cases hC:4294967296<=D+a
      .
       have T:=Qbk E.o G F f.o hC (by omega);have g:=Hi (Qax m ((Qaw (n1:=i) E.o f.o).1 (by omega)) B.o);have U:(4294967296:Int)<=(D:Int)+(a:Int):=by omega
       clear hC T;obtain⟨a1,P,b1,v2,aj,ak,C,j,y1,y2,y3,y4⟩:=Qav v i b Y S m d g.o;have a2:X<4294967296:=by rw[<-Z.o];exact Qaf x l
       have af:b<4294967296:=by rw[<-g.o];exact Qaf F d
       obtain⟨R,M⟩:=nm (v2 / 2 ^ s);have rR:(v2:Int) / 2 ^ s=(R:Int):=by rw[<-M,Int.natCast_ediv,Int.natCast_pow];rfl
       have c:=Hi (Qa7 ar.o au.o HU.o W.o aq.o al.o j C);rw[M] at c;clear j M;go_wp2_with fail;go_ret2;have e1:(QQ:Int)=(X:Int)*4294967296+(b:Int):=by have:=c.o.1;rw[an.o] at this;omega
       have e2:(RR:Int)=(R:Int):=by have:=c.o.2;rw[ao.o] at this;omega
       exact⟨by rw[e1,e2];rfl,0,rfl⟩
      .
       have U:¬((4294967296:Int)<=(D:Int)+(a:Int)):=by omega
       have V:D+a<4294967296:=by omega
       clear hC;go_wp2_with fail;go_round
       case rel=>exact⟨b,D+a,by go_num,by go_num,f.o,B.o,V,by omega⟩
       case measure=>have:=L.o;simp[intOf];omega
     .
      obtain⟨t2,ht⟩:∃t,A*ag=t:=⟨_,rfl⟩;have bk:t2<=4294967295*4294967295:=by rw[<-ht];exact Nat.mul_le_mul (by omega) (by omega)
      have bd:(A:Int)*(ag:Int)=(t2:Int):=by rw[<-ht];rfl
      have N:=Hi (Qaw (n1:=i) E.o I.o);rw[ht] at N;have bc:¬((4294967296:Int)<=(A:Int)):=by omega
      clear ht hA;by_cases hB:t2<=4294967296*D+i
      .
       have g:=Hi (Qax m (N.o.1 hB) bb.o);have be:¬(4294967296*(D:Int)+(i:Int)<(t2:Int)):=by omega
       clear hB;obtain⟨a1,P,b1,v2,aj,ak,C,j,y1,y2,y3,y4⟩:=Qav v i A Y S m d g.o;have a2:X<4294967296:=by rw[<-Z.o];exact Qaf x l
       have af:A<4294967296:=by rw[<-g.o];exact Qaf F d
       obtain⟨R,M⟩:=nm (v2 / 2 ^ s);have rR:(v2:Int) / 2 ^ s=(R:Int):=by rw[<-M,Int.natCast_ediv,Int.natCast_pow];rfl
       have c:=Hi (Qa7 ar.o au.o HU.o W.o aq.o al.o j C);rw[M] at c;clear j M;go_wp2_with fail;go_ret2;have e1:(QQ:Int)=(X:Int)*4294967296+(A:Int):=by have:=c.o.1;rw[an.o] at this;omega
       have e2:(RR:Int)=(R:Int):=by have:=c.o.2;rw[ao.o] at this;omega
       exact⟨by rw[e1,e2];rfl,0,rfl⟩
      .
       have J:=Hi (Qd2 m (fun h=>hB (N.o.2 h)));have be:4294967296*(D:Int)+(i:Int)<(t2:Int):=by omega
       have K:1<=A:=by
        rcases Nat.eq_zero_or_pos A with h|h
        .
         exfalso
         subst h;have:=bd;simp at this;omega
        . exact h
       clear hB;obtain⟨b,k⟩:∃b,A=b+1:=⟨A - 1,by omega⟩;have a0:(A:Int) - 1=(b:Int):=by omega
       have am:b<8589934592:=by omega
       have L:=Hi k;have f:O (b*a+(D+a)=v):=Hi (by have:=I.o;rw[k,Nat.succ_mul] at this;omega);have B:O ((4294967296*v+i) / Y<=b):=Hi (Nat.le_of_lt_succ (by have:=J.o;omega));clear k K;by_cases hC:4294967296<=D+a
       .
        have T:=Qbk E.o G F f.o hC (by omega);have g:=Hi (Qax m ((Qaw (n1:=i) E.o f.o).1 (by omega)) B.o);have U:(4294967296:Int)<=(D:Int)+(a:Int):=by omega
        clear hC T;obtain⟨a1,P,b1,v2,aj,ak,C,j,y1,y2,y3,y4⟩:=Qav v i b Y S m d g.o;have a2:X<4294967296:=by rw[<-Z.o];exact Qaf x l
        have af:b<4294967296:=by rw[<-g.o];exact Qaf F d
        obtain⟨R,M⟩:=nm (v2 / 2 ^ s);have rR:(v2:Int) / 2 ^ s=(R:Int):=by rw[<-M,Int.natCast_ediv,Int.natCast_pow];rfl
        have c:=Hi (Qa7 ar.o au.o HU.o W.o aq.o al.o j C);rw[M] at c;clear j M;go_wp2_with fail;go_ret2;have e1:(QQ:Int)=(X:Int)*4294967296+(b:Int):=by have:=c.o.1;rw[an.o] at this;omega
        have e2:(RR:Int)=(R:Int):=by have:=c.o.2;rw[ao.o] at this;omega
        exact⟨by rw[e1,e2];rfl,0,rfl⟩
       .
        have U:¬((4294967296:Int)<=(D:Int)+(a:Int)):=by omega
        have V:D+a<4294967296:=by omega
        clear hC;go_wp2_with fail;go_round
        case rel=>exact⟨b,D+a,by go_num,by go_num,f.o,B.o,V,by omega⟩
        case measure=>have:=L.o;simp[intOf];omega
   .
    have U:¬((4294967296:Int)<=(r:Int)+(a:Int)):=by omega
    have V:r+a<4294967296:=by omega
    clear hC;go_wp2_with fail;go_round
    case rel=>exact⟨X,r+a,by go_num,by go_num,ai.o,a6.o,V,by omega⟩
    case measure=>have:=bq.o;simp[intOf];omega
  .
   obtain⟨t,ht⟩:=nm (q*ag);have cf:t<=4294967295*4294967295:=by rw[<-ht];exact Nat.mul_le_mul (by omega) (by omega)
   have rt:(q:Int)*(ag:Int)=(t:Int):=by rw[<-ht];rfl
   have br:=Hi (Qaw (n1:=Q) E.o bn.o);rw[ht] at br;have ca:¬((4294967296:Int)<=(q:Int)):=by omega
   clear ht hA;by_cases hB:t<=4294967296*r+Q
   .
    have Z:=Hi (Qax m (br.o.1 hB) HQ.o);have cc:¬(4294967296*(r:Int)+(Q:Int)<(t:Int)):=by omega
    clear hB;obtain⟨a1,P,b1,v,aj,ak,F,j,z1,z2,z3,z4⟩:=Qav u Q q Y S m l Z.o;obtain⟨a7,p2,a8,aw,ax,ad,ay,ae,x1,x2,x3,x4⟩:=Qfx v a aa.1 aa.2 (by omega);obtain⟨al,a9,ba,az⟩:=Ic j aw ax ad;clear j r1 r2 D r4 r5 r6 r7 r8 r9 aw ax ad;go_wp2_with fail;clear z1 z2 z3 z4;go_loop [18,16] (fun qv rv=>∃q r:Nat,qv=.int .u64 q/\rv=.int .u64 r/\q*a+r=v/\(4294967296*v+i) / Y<=q/\r<4294967296/\q<8589934592) (fun qv _=>(intOf qv).toNat)
    case atStart=>exact⟨a7,a8,rfl,rfl,by rw[ba.o];exact az.o,by rw[<-a9.o];exact Qd1 E.o d (by omega),by omega,ae⟩
    case round=>
     clear x1 x2 x3 x4 ay ae;obtain⟨A,D,rfl,rfl,ah,hQ,bi,bj⟩:=hrel;obtain⟨I,bb⟩:=Ia ah hQ;clear ah hQ;by_cases hA:4294967296<=A
     .
      have J:=Hi (Nat.lt_of_lt_of_le (Qaf F d) hA);have bc:(4294967296:Int)<=(A:Int):=by omega
      have K:1<=A:=by omega
      clear hA;obtain⟨b,k⟩:∃b,A=b+1:=⟨A - 1,by omega⟩;have a0:(A:Int) - 1=(b:Int):=by omega
      have am:b<8589934592:=by omega
      have L:=Hi k;have f:O (b*a+(D+a)=v):=Hi (by have:=I.o;rw[k,Nat.succ_mul] at this;omega);have B:O ((4294967296*v+i) / Y<=b):=Hi (Nat.le_of_lt_succ (by have:=J.o;omega));clear k K;by_cases hC:4294967296<=D+a
      .
       have T:=Qbk E.o G F f.o hC (by omega);have g:=Hi (Qax m ((Qaw (n1:=i) E.o f.o).1 (by omega)) B.o);have U:(4294967296:Int)<=(D:Int)+(a:Int):=by omega
       clear hC T;obtain⟨a1,P,b1,v2,aj,ak,C,j,y1,y2,y3,y4⟩:=Qav v i b Y S m d g.o;have a2:q<4294967296:=by rw[<-Z.o];exact Qaf x l
       have af:b<4294967296:=by rw[<-g.o];exact Qaf F d
       obtain⟨R,M⟩:=nm (v2 / 2 ^ s);have rR:(v2:Int) / 2 ^ s=(R:Int):=by rw[<-M,Int.natCast_ediv,Int.natCast_pow];rfl
       have c:=Hi (Qa7 ar.o au.o HU.o W.o aq.o al.o j C);rw[M] at c;clear j M;go_wp2_with fail;go_ret2;have e1:(QQ:Int)=(q:Int)*4294967296+(b:Int):=by have:=c.o.1;rw[an.o] at this;omega
       have e2:(RR:Int)=(R:Int):=by have:=c.o.2;rw[ao.o] at this;omega
       exact⟨by rw[e1,e2];rfl,0,rfl⟩
      .
       have U:¬((4294967296:Int)<=(D:Int)+(a:Int)):=by omega
       have V:D+a<4294967296:=by omega
       clear hC;go_wp2_with fail;go_round
       case rel=>exact⟨b,D+a,by go_num,by go_num,f.o,B.o,V,by omega⟩
       case measure=>have:=L.o;simp[intOf];omega
     .
      obtain⟨t2,ht⟩:∃t,A*ag=t:=⟨_,rfl⟩;have bk:t2<=4294967295*4294967295:=by rw[<-ht];exact Nat.mul_le_mul (by omega) (by omega)
      have bd:(A:Int)*(ag:Int)=(t2:Int):=by rw[<-ht];rfl
      have N:=Hi (Qaw (n1:=i) E.o I.o);rw[ht] at N;have bc:¬((4294967296:Int)<=(A:Int)):=by omega
      clear ht hA;by_cases hB:t2<=4294967296*D+i
      .
       have g:=Hi (Qax m (N.o.1 hB) bb.o);have be:¬(4294967296*(D:Int)+(i:Int)<(t2:Int)):=by omega
       clear hB;obtain⟨a1,P,b1,v2,aj,ak,C,j,y1,y2,y3,y4⟩:=Qav v i A Y S m d g.o;have a2:q<4294967296:=by rw[<-Z.o];exact Qaf x l
       have af:A<4294967296:=by rw[<-g.o];exact Qaf F d
       obtain⟨R,M⟩:=nm (v2 / 2 ^ s);have rR:(v2:Int) / 2 ^ s=(R:Int):=by rw[<-M,Int.natCast_ediv,Int.natCast_pow];rfl
       have c:=Hi (Qa7 ar.o au.o HU.o W.o aq.o al.o j C);rw[M] at c;clear j M;go_wp2_with fail;go_ret2;have e1:(QQ:Int)=(q:Int)*4294967296+(A:Int):=by have:=c.o.1;rw[an.o] at this;omega
       have e2:(RR:Int)=(R:Int):=by have:=c.o.2;rw[ao.o] at this;omega
       exact⟨by rw[e1,e2];rfl,0,rfl⟩
      .
       have J:=Hi (Qd2 m (fun h=>hB (N.o.2 h)));have be:4294967296*(D:Int)+(i:Int)<(t2:Int):=by omega
       have K:1<=A:=by
        rcases Nat.eq_zero_or_pos A with h|h
        .
         exfalso
         subst h;have:=bd;simp at this;omega
        . exact h
       clear hB;obtain⟨b,k⟩:∃b,A=b+1:=⟨A - 1,by omega⟩;have a0:(A:Int) - 1=(b:Int):=by omega
       have am:b<8589934592:=by omega
       have L:=Hi k;have f:O (b*a+(D+a)=v):=Hi (by have:=I.o;rw[k,Nat.succ_mul] at this;omega);have B:O ((4294967296*v+i) / Y<=b):=Hi (Nat.le_of_lt_succ (by have:=J.o;omega));clear k K;by_cases hC:4294967296<=D+a
       .
        have T:=Qbk E.o G F f.o hC (by omega);have g:=Hi (Qax m ((Qaw (n1:=i) E.o f.o).1 (by omega)) B.o);have U:(4294967296:Int)<=(D:Int)+(a:Int):=by omega
        clear hC T;obtain⟨a1,P,b1,v2,aj,ak,C,j,y1,y2,y3,y4⟩:=Qav v i b Y S m d g.o;have a2:q<4294967296:=by rw[<-Z.o];exact Qaf x l
        have af:b<4294967296:=by rw[<-g.o];exact Qaf F d
        obtain⟨R,M⟩:=nm (v2 / 2 ^ s);have rR:(v2:Int) / 2 ^ s=(R:Int):=by rw[<-M,Int.natCast_ediv,Int.natCast_pow];rfl
        have c:=Hi (Qa7 ar.o au.o HU.o W.o aq.o al.o j C);rw[M] at c;clear j M;go_wp2_with fail;go_ret2;have e1:(QQ:Int)=(q:Int)*4294967296+(b:Int):=by have:=c.o.1;rw[an.o] at this;omega
        have e2:(RR:Int)=(R:Int):=by have:=c.o.2;rw[ao.o] at this;omega
        exact⟨by rw[e1,e2];rfl,0,rfl⟩
       .
        have U:¬((4294967296:Int)<=(D:Int)+(a:Int)):=by omega
        have V:D+a<4294967296:=by omega
        clear hC;go_wp2_with fail;go_round
        case rel=>exact⟨b,D+a,by go_num,by go_num,f.o,B.o,V,by omega⟩
        case measure=>have:=L.o;simp[intOf];omega
   .
    have bo:=Hi (Qd2 m (fun h=>hB (br.o.2 h)));have cc:4294967296*(r:Int)+(Q:Int)<(t:Int):=by omega
    have bp:1<=q:=by
     rcases Nat.eq_zero_or_pos q with h|h
     .
      exfalso
      subst h;have:=rt;simp at this;omega
     . exact h
    clear hB;obtain⟨X,k⟩:∃X,q=X+1:=⟨q - 1,by omega⟩;have cb:(q:Int) - 1=(X:Int):=by omega
    have b3:X<8589934592:=by omega
    have bq:=Hi k;have ai:O (X*a+(r+a)=u):=Hi (by have:=bn.o;rw[k,Nat.succ_mul] at this;omega);have a6:O ((4294967296*u+Q) / Y<=X):=Hi (Nat.le_of_lt_succ (by have:=bo.o;omega));clear k bp;by_cases hC:4294967296<=r+a
    .
     have T:=Qbk E.o G x ai.o hC (by omega);have Z:=Hi (Qax m ((Qaw (n1:=Q) E.o ai.o).1 (by omega)) a6.o);have U:(4294967296:Int)<=(r:Int)+(a:Int):=by omega
     clear hC T;obtain⟨a1,P,b1,v,aj,ak,F,j,z1,z2,z3,z4⟩:=Qav u Q X Y S m l Z.o;obtain⟨a7,p2,a8,aw,ax,ad,ay,ae,x1,x2,x3,x4⟩:=Qfx v a aa.1 aa.2 (by omega);obtain⟨al,a9,ba,az⟩:=Ic j aw ax ad;clear j r1 r2 D r4 r5 r6 r7 r8 r9 aw ax ad;go_wp2_with fail;clear z1 z2 z3 z4;go_loop [18,16] (fun qv rv=>∃q r:Nat,qv=.int .u64 q/\rv=.int .u64 r/\q*a+r=v/\(4294967296*v+i) / Y<=q/\r<4294967296/\q<8589934592) (fun qv _=>(intOf qv).toNat)
     case atStart=>exact⟨a7,a8,rfl,rfl,by rw[ba.o];exact az.o,by rw[<-a9.o];exact Qd1 E.o d (by omega),by omega,ae⟩
     case round=>
      clear x1 x2 x3 x4 ay ae;obtain⟨A,D,rfl,rfl,ah,hQ,bi,bj⟩:=hrel;obtain⟨I,bb⟩:=Ia ah hQ;clear ah hQ;by_cases hA:4294967296<=A
      .
       have J:=Hi (Nat.lt_of_lt_of_le (Qaf F d) hA);have bc:(4294967296:Int)<=(A:Int):=by omega
       have K:1<=A:=by omega
       clear hA;obtain⟨b,k⟩:∃b,A=b+1:=⟨A - 1,by omega⟩;have a0:(A:Int) - 1=(b:Int):=by omega
       have am:b<8589934592:=by omega
       have L:=Hi k;have f:O (b*a+(D+a)=v):=Hi (by have:=I.o;rw[k,Nat.succ_mul] at this;omega);have B:O ((4294967296*v+i) / Y<=b):=Hi (Nat.le_of_lt_succ (by have:=J.o;omega));clear k K;by_cases hC:4294967296<=D+a
       .
        have T:=Qbk E.o G F f.o hC (by omega);have g:=Hi (Qax m ((Qaw (n1:=i) E.o f.o).1 (by omega)) B.o);have U:(4294967296:Int)<=(D:Int)+(a:Int):=by omega
        clear hC T;obtain⟨a1,P,b1,v2,aj,ak,C,j,y1,y2,y3,y4⟩:=Qav v i b Y S m d g.o;have a2:X<4294967296:=by rw[<-Z.o];exact Qaf x l
        have af:b<4294967296:=by rw[<-g.o];exact Qaf F d
        obtain⟨R,M⟩:=nm (v2 / 2 ^ s);have rR:(v2:Int) / 2 ^ s=(R:Int):=by rw[<-M,Int.natCast_ediv,Int.natCast_pow];rfl
        have c:=Hi (Qa7 ar.o au.o HU.o W.o aq.o al.o j C);rw[M] at c;clear j M;go_wp2_with fail;go_ret2;have e1:(QQ:Int)=(X:Int)*4294967296+(b:Int):=by have:=c.o.1;rw[an.o] at this;omega
        have e2:(RR:Int)=(R:Int):=by have:=c.o.2;rw[ao.o] at this;omega
        exact⟨by rw[e1,e2];rfl,0,rfl⟩
       .
        have U:¬((4294967296:Int)<=(D:Int)+(a:Int)):=by omega
        have V:D+a<4294967296:=by omega
        clear hC;go_wp2_with fail;go_round
        case rel=>exact⟨b,D+a,by go_num,by go_num,f.o,B.o,V,by omega⟩
        case measure=>have:=L.o;simp[intOf];omega
      .
       obtain⟨t2,ht⟩:∃t,A*ag=t:=⟨_,rfl⟩;have bk:t2<=4294967295*4294967295:=by rw[<-ht];exact Nat.mul_le_mul (by omega) (by omega)
       have bd:(A:Int)*(ag:Int)=(t2:Int):=by rw[<-ht];rfl
       have N:=Hi (Qaw (n1:=i) E.o I.o);rw[ht] at N;have bc:¬((4294967296:Int)<=(A:Int)):=by omega
       clear ht hA;by_cases hB:t2<=4294967296*D+i
       .
        have g:=Hi (Qax m (N.o.1 hB) bb.o);have be:¬(4294967296*(D:Int)+(i:Int)<(t2:Int)):=by omega
        clear hB;obtain⟨a1,P,b1,v2,aj,ak,C,j,y1,y2,y3,y4⟩:=Qav v i A Y S m d g.o;have a2:X<4294967296:=by rw[<-Z.o];exact Qaf x l
        have af:A<4294967296:=by rw[<-g.o];exact Qaf F d
        obtain⟨R,M⟩:=nm (v2 / 2 ^ s);have rR:(v2:Int) / 2 ^ s=(R:Int):=by rw[<-M,Int.natCast_ediv,Int.natCast_pow];rfl
        have c:=Hi (Qa7 ar.o au.o HU.o W.o aq.o al.o j C);rw[M] at c;clear j M;go_wp2_with fail;go_ret2;have e1:(QQ:Int)=(X:Int)*4294967296+(A:Int):=by have:=c.o.1;rw[an.o] at this;omega
        have e2:(RR:Int)=(R:Int):=by have:=c.o.2;rw[ao.o] at this;omega
        exact⟨by rw[e1,e2];rfl,0,rfl⟩
       .
        have J:=Hi (Qd2 m (fun h=>hB (N.o.2 h)));have be:4294967296*(D:Int)+(i:Int)<(t2:Int):=by omega
        have K:1<=A:=by
         rcases Nat.eq_zero_or_pos A with h|h
         .
          exfalso
          subst h;have:=bd;simp at this;omega
         . exact h
        clear hB;obtain⟨b,k⟩:∃b,A=b+1:=⟨A - 1,by omega⟩;have a0:(A:Int) - 1=(b:Int):=by omega
        have am:b<8589934592:=by omega
        have L:=Hi k;have f:O (b*a+(D+a)=v):=Hi (by have:=I.o;rw[k,Nat.succ_mul] at this;omega);have B:O ((4294967296*v+i) / Y<=b):=Hi (Nat.le_of_lt_succ (by have:=J.o;omega));clear k K;by_cases hC:4294967296<=D+a
        .
         have T:=Qbk E.o G F f.o hC (by omega);have g:=Hi (Qax m ((Qaw (n1:=i) E.o f.o).1 (by omega)) B.o);have U:(4294967296:Int)<=(D:Int)+(a:Int):=by omega
         clear hC T;obtain⟨a1,P,b1,v2,aj,ak,C,j,y1,y2,y3,y4⟩:=Qav v i b Y S m d g.o;have a2:X<4294967296:=by rw[<-Z.o];exact Qaf x l
         have af:b<4294967296:=by rw[<-g.o];exact Qaf F d
         obtain⟨R,M⟩:=nm (v2 / 2 ^ s);have rR:(v2:Int) / 2 ^ s=(R:Int):=by rw[<-M,Int.natCast_ediv,Int.natCast_pow];rfl
         have c:=Hi (Qa7 ar.o au.o HU.o W.o aq.o al.o j C);rw[M] at c;clear j M;go_wp2_with fail;go_ret2;have e1:(QQ:Int)=(X:Int)*4294967296+(b:Int):=by have:=c.o.1;rw[an.o] at this;omega
         have e2:(RR:Int)=(R:Int):=by have:=c.o.2;rw[ao.o] at this;omega
         exact⟨by rw[e1,e2];rfl,0,rfl⟩
        .
         have U:¬((4294967296:Int)<=(D:Int)+(a:Int)):=by omega
         have V:D+a<4294967296:=by omega
         clear hC;go_wp2_with fail;go_round
         case rel=>exact⟨b,D+a,by go_num,by go_num,f.o,B.o,V,by omega⟩
         case measure=>have:=L.o;simp[intOf];omega
    .
     have U:¬((4294967296:Int)<=(r:Int)+(a:Int)):=by omega
     have V:r+a<4294967296:=by omega
     clear hC;go_wp2_with fail;go_round
     case rel=>exact⟨X,r+a,by go_num,by go_num,ai.o,a6.o,V,by omega⟩
     case measure=>have:=bq.o;simp[intOf];omega
theorem div64(a lo y:Nat)(b:a<y)(hl:lo<18446744073709551616)(c:y<18446744073709551616):∃q r:Nat,q<18446744073709551616/\r<y/\y*q+r=18446744073709551616*a+lo/\
 ∀w,Calls prog 222 #[.int .u64 a,.int .u64 lo,.int .u64 y] w fun e w'=>e=.returned (.tuple #[.int .u64 (q:Int),.int .u64 (r:Int)])/\∃n,w'=w.drewN n:=by
 have d:=Nat.div_add_mod (18446744073709551616*a+lo) y;refine⟨_,_,?_,Nat.mod_lt _ (by omega),d,fun w=>?_⟩
 .
  rw[Nat.div_lt_iff_lt_mul (by omega)];have:=Nat.mul_le_mul_left 18446744073709551616 (show a+1<=y from b);omega
 .
  by_cases f:a=0
  .
   subst f;have:=Qou lo y w hl c (by omega);rw[Nat.mul_zero,Nat.zero_add];exact this
  . exact Qov a lo y _ _ w rfl rfl (by omega) b hl c
def Pre(w:Vz)(g:Nat)(rs:Vy):Prop:=∃C,SB w g 190 C/\∀i,i<rs.length->C[i]?=some (.int .u64 ((rs.getD i 0:Nat):Int))
theorem Pre.lt{w:Vz}{g:Nat}{rs:Vy}(h:Pre w g rs):g<w.heap.size:=by obtain⟨C,h,_⟩:=h;exact h.lt
theorem Pre.cell{w:Vz}{g:Nat}{rs:Vy}(h:Pre w g rs)(i:Nat)(a:i<rs.length):w.cell? ⟨g,i,none⟩=some (.int .u64 ((rs.getD i 0:Nat):Int)):=by
 obtain⟨C,h,b⟩:=h;rw[h.cell];exact b i a
theorem Pre.free{w:Vz}{g:Nat}{rs:Vy}(h:Pre w g rs)(i:Nat):w.frozen? ⟨g,i,none⟩=false:=by
 obtain⟨C,h,a⟩:=h;exact h.free i
theorem Pre.set{w:Vz}{g:Nat}{rs:Vy}(h:Pre w g rs)(i x:Nat)(b:i<rs.length):Pre (w.setCell ⟨g,i,none⟩ (.int .u64 (x:Int))) g (rs.set i x):=by
 obtain⟨C,h,c⟩:=h;refine⟨_,h.set i _,fun j d=>?_⟩;rw[List.length_set] at d;have a:i<C.size:=by
  apply bC;intro f;have:=c i b;rw[Array.getElem?_eq_none (by omega)] at this;cases this
 rw[Array.getElem?_setIfInBounds];by_cases e:i=j
 . subst e
   rw[if_pos rfl,if_pos a,Qbj _ _ _ b]
 . rw[if_neg e,c j d,getD_set_ne _ _ _ _ e]
theorem Pre.drewN{w:Vz}{g:Nat}{rs:Vy}(h:Pre w g rs)(n:Nat):Pre (w.drewN n) g rs:=h
theorem Pre.row{w:Vz}{g:Nat}{rs:Vy}(h:Pre w g rs)(a:Nat)(b:rs.length<=a):Row .u64 w (some ⟨g,0,none⟩) a rs:=
 ⟨b,.inr ⟨g,0,rfl,h.lt⟩,fun i c=>⟨g,0,rfl,h.lt,by rw[Nat.zero_add];exact h.cell i c⟩⟩
theorem Pre.below{w w':Vz}{g B:Nat}{rs:Vy}(h:Pre w g rs)(a:Below B w w')(hB:g<B):Pre w' g rs:=by
 obtain⟨C,h,b⟩:=h;exact⟨C,h.below a hB,b⟩
theorem Qsr(g H d:Nat)(rs:Vy)(w:Vz)(h:Pre w g rs)(S:Small 18446744073709551616 rs)(hl:rs.length<=1099511627776)(I:0<d)(Z:d<18446744073709551616):
 Calls prog 215 #[.slice (some ⟨g,0,none⟩) rs.length H,.int .u64 d] w fun e w'=>∃c r,e=.returned (.int .u64 ((r:Nat):Int))/\r<d/\Pre w' g c/\c.length=rs.length/\Small 18446744073709551616 c/\val 18446744073709551616 c*d+r=val 18446744073709551616 rs/\Only g w w':=by
 obtain⟨J,K⟩:=Ia h S;clear h S;go_enter func215,ntmps215;go_wp2;go_loopw [5,6] (fun r i wr=>∃(k s:Nat) (a:Vy),k<=rs.length/\s<d/\r=.int .u64 s/\i=.int .i64 ((k:Int) - 1)/\Pre wr g a/\a.length=rs.length/\Small 18446744073709551616 a/\(∀p,p<k->a.getD p 0=rs.getD p 0)/\
  val 18446744073709551616 (a.drop k)*d+s=val 18446744073709551616 (rs.drop k)/\Only g w wr) (fun _ i _=>(intOf i+1).toNat)
 case atStart=>exact⟨rs.length,0,rs,Nat.le_refl _,I,rfl,rfl,J.o,rfl,K.o,fun _ _=>rfl,by rw[List.drop_of_length_le lZ];simp[val],Only.refl _ _⟩
 case round=>
  obtain⟨k,r,a,hk,T,rfl,rfl,h,l,t,u,U,v⟩:=hrel;obtain⟨V,f,m,x,W,y⟩:=Ie h l t u U v;clear t u U v;by_cases h0:k=0
  .
   subst h0;clear h l;go_wp2;go_ret;exact⟨a,r,rfl,T,V.o,f.o,m.o,by have:=W.o;simpa using this,y.o⟩
  .
   obtain⟨j,rfl⟩:∃j,k=j+1:=⟨k - 1,by omega⟩;obtain⟨z,F⟩:=nm (a.getD j 0);have L:z<18446744073709551616:=by rw[<-F];exact m.o.getD (by omega) j
   have X:=h.free j;have M:=h.cell j (by omega);rw[F] at M;obtain⟨q,s,hq,N,B,C⟩:=div64 r z d T L Z;obtain⟨D,P,HZ⟩:=Ib C B F;have Y:((j+1:Nat):Int) - 1=(j:Int):=by omega
   rw[Y];clear Y C B F h l;go_wp2_with fail;refine(D.o _).mono ?_;rintro e G ⟨rfl,n,b⟩;have aa:G.frozen? ⟨g,j,none⟩=false:=by rw[b];exact X
   have ab:G.cell? ⟨g,j,none⟩=some (.int .u64 (z:Int)):=by rw[b];exact M
   have Q:O (Pre G g a):=Hi (by rw[b];exact V.o.drewN n);have E:O (Only g w G):=Hi (by rw[b];exact y.o.drewN n);clear b X M D;go_wp2;go_roundw
   case rel=>
    have R:j<a.length:=by rw[f.o];omega
    refine⟨j,s,a.set j q,by omega,N,rfl,by go_num,Q.o.set j q R,by rw[List.length_set];exact f.o,m.o.set j hq,?_,?_,E.o.setCell _ _⟩
    .
     intro p hp;rw[getD_set_ne _ _ _ _ (by omega)];exact x.o p (by omega)
    .
     have e1:rs.getD j 0=z:=by rw[<-x.o j (by omega)];exact HZ.o
     rw[Qao _ _ j (by rw[List.length_set];exact R),Qbj _ _ _ R,Qao _ rs j (by have:=f.o;omega),e1,<-W.o];have e2:(a.set j q).drop (j+1)=a.drop (j+1):=by
      rw[List.drop_set,if_pos (by omega)]
     rw[e2];have:=P.o;rw[Nat.add_mul,Nat.mul_assoc,Nat.mul_comm q d,Nat.mul_add];generalize val 18446744073709551616 (a.drop (j+1))*d=A at*;omega
   case measure=>simp[intOf]
theorem Qss(x:Nat)(w:Vz)(g:x<18446744073709551616):
 Calls prog 216 #[.int .u64 x] w fun e w'=>(∃a b r,e=.returned (.slice a r.length b)/\U64 w' a b r x)/\Below w.heap.size w w':=by
 by_cases c:x=0
 .
  subst c;go_enter func216,ntmps216;go_wp2;go_ret;exact⟨⟨none,0,[],rfl,U64.nil _⟩,Below.refl _ _⟩
 .
  have q:((x:Int) == 0)=false:=by rw[beq_eq_false_iff_ne];omega
  go_enter func216,ntmps216;go_wp2;go_ret;have hB:Blk .u64 190 (w.alloc (.cells (wordCells .u64 [x]) 190)) w.heap.size [x]:=Blk.new _ _ _ _;refine⟨⟨some ⟨w.heap.size,0,none⟩,1,[x],rfl,hB.row 1 (by simp) 1 (by omega),⟨fun d f=>by simp at f;omega,.inr (by simpa using c),by simp[val]⟩,by simp⟩,bR.alloc lZ _⟩
theorem Qgl(a:Vx)(q:Nat)(l:Vy)(x:Nat)(w:Vz)(h:U64 w a q l x)(hl:0<l.length):
 Calls prog 177 #[.slice a l.length q] w fun e w'=>(∃g cap',e=.returned (.slice (some ⟨g,0,none⟩) l.length cap')/\l.length<=cap'/\w.heap.size<=g/\Pre w' g l)/\Below w.heap.size w w':=by
 obtain⟨J,B,C,D,hz2⟩:=info_parts Tryz.info64;have U:=h.short;have V:∀(w:Vz) (a:Vx) (n c n' E:Nat),(binOp .eql 105 (.slice a n c) (.slice none n' E)).run prog w=.ok (.bool a.isNone) w:=fun w a n c n' E=>Lib.run_eql_slice_nil w _ _ a n c n' E underlying105
 obtain⟨b,r,rfl,W,_⟩:=h.row.cell 0 hl;have H:=Hi h;clear h;go_enter func177,ntmps177;go_wp2_with (at_builtin;refine wpList_append_own _ rfl _ _ 105 rfl w.heap.size 190 J (.int .u64 0) 1 8 underlying105 B C D hz2 rfl (by decide) _ _ _ rfl (World.ownsRow_made w #[] 0 lZ (Nat.zero_le _) rfl) ⟨b,r,none⟩ l.length q (l.map (fun n:Nat=>Value.int .u64 n)) rfl ?c1 ?c2 ?c3 ?c4 ?c5 ?c6 ?_)
 case c1=>simp
 case c2=>
  intro j u K;obtain⟨v,F⟩:=gZ K;have m:j<l.length:=by simpa using v
  obtain⟨L,y,s,G,M⟩:=H.o.row.cell j m;obtain⟨rfl,rfl⟩:b=L/\r=y:=by simpa using s
  rw[Qas];refine(((Below.refl w.heap.size w).alloc lZ _).cell (p:=⟨b,r+j,none⟩) G).trans ?_;rw[M,<-F];simp[m]
 case c3=>intro u F;obtain⟨n,_,rfl⟩:=List.mem_map.1 F;rfl
 case c4=>unfold maxLen;omega
 case c5=>omega
 case c6=>simp
 intro X Y d f z;obtain⟨g,cap',rfl,Z,v⟩:=d.form (by omega);obtain⟨N,O⟩:=Ia d f;clear d f z;go_wp2;go_ret;obtain⟨_,A⟩:=N.o;rcases A with ⟨A,_⟩|⟨g',I,t,A,P,Q,h5,h6,h7,R⟩
 . cases A
 .
  injection A with s e2 S
  injection s with s
  injection s with s
  subst s;subst S;refine⟨⟨g,cap',by simp,by omega,P,t,Q,fun i B=>?_⟩,((Below.refl _ w).alloc lZ _).grown O.o (by simp) (by intro k hk;simp[Value.ownBlock] at hk;omega)⟩;have T:(t.toList.take (l.length*1))[i]?=t[i]?:=by
   rw[List.getElem?_take_of_lt (by omega)];simp
  rw[<-T,R,List.getElem?_map,List.getD_eq_getElem?_getD,gE B];rfl
theorem Qtf(L:Int)(n:Nat)(a:L=n)(b:n<=2199023255552)(w:Vz):
 (Instr.makeSlice 104 (.int .i64 L) (.int .i64 L)).run prog w=.ok (.slice (some ⟨w.heap.size,0,none⟩) n n) (w.alloc (.cells (wordCells .u64 (zeros n)) 190)):=by
 subst a;rw[<-Qei];exact Go.run_make_row' 104 190 (.int .u64 0) 8 underlying104 Tryz.info64 rfl .i64 .i64 n (by omega) (by omega) w
theorem Qtg(d s z:Nat)(j:s<64)(e:d<18446744073709551616)(f:z<2 ^ s):∃lo b a:Nat,IntKind.u64.wrap ((d:Int)*2 ^ s)=(lo:Int)/\(d:Int) / 2 ^ (64 - s)=(b:Int)/\bits .or .u64 (z:Int) (lo:Int)=(a:Int)/\b<2 ^ s/\a<18446744073709551616/\b<18446744073709551616/\a+18446744073709551616*b=z+d*2 ^ s:=by
 have k:=low64 (lo:=d) (s:=s) (by omega);have g:=Qfy (lo:=d) (s:=s) (by omega) e;have c:d*2 ^ s % 18446744073709551616=2 ^ s*(d % 2 ^ (64 - s)):=by
  rw[<-Qbx (s:=s) (by omega),Nat.mul_comm d,Nat.mul_mod_mul_left]
 have h:d % 2 ^ (64 - s)+1<=2 ^ (64 - s):=Nat.mod_lt _ (Nat.two_pow_pos _);have i:=Nat.mul_le_mul_left (2 ^ s) h;rw[Qbx (by omega),Nat.mul_add,Nat.mul_one,<-c] at i;have l:2 ^ s<=9223372036854775808:=Nat.pow_le_pow_right (by decide) (show s<=63 by omega);refine⟨d*2 ^ s % 18446744073709551616,d / 2 ^ (64 - s),d*2 ^ s % 18446744073709551616+z,?_,?_,?_,g,by omega,by omega,by omega⟩
 . rw[show (d:Int)*2 ^ s=((d*2 ^ s:Nat):Int) by rw[Int.natCast_mul,Int.natCast_pow];rfl,Qaq];rfl
 . rw[Int.natCast_ediv,Int.natCast_pow];rfl
 . rw[or64' ((d*2 ^ s % 18446744073709551616:Nat):Int) (z:Int) (d % 2 ^ (64 - s)) z s (by rw[c]) rfl f (by rw[<-c];omega),c]
theorem Qth(k d s z a b:Nat)(rs l:Vy)(hk:k+1<rs.length)(c:l.getD k 0=d)(e:rs.getD k 0=z)(f:a+18446744073709551616*b=z+d*2 ^ s)(h:val 18446744073709551616 (rs.take (k+1))=val 18446744073709551616 (l.take k)*2 ^ s):
 val 18446744073709551616 (((rs.set k a).set (k+1) b).take (k+1+1))=val 18446744073709551616 (l.take (k+1))*2 ^ s:=by
 rw[take_set _ _ _ (by simp;omega),Qal,List.length_take,Nat.min_eq_left (by simp;omega),take_set _ _ _ (by omega),Qal,List.length_take,Nat.min_eq_left (by omega)];rw[Qae,e] at h;rw[Qae _ l,c,Nat.add_mul,<-h,Nat.pow_succ,Nat.mul_assoc (18446744073709551616 ^ k) d];have g:18446744073709551616 ^ k*(a+18446744073709551616*b)=18446744073709551616 ^ k*(z+d*2 ^ s):=by rw[f]
 rw[Nat.mul_add,Nat.mul_add,<-Nat.mul_assoc] at g;omega
theorem Qti(d e s:Nat)(l:s<64)(f:d<18446744073709551616)(m:e<18446744073709551616):∃lo c b:Nat,(d:Int) / 2 ^ s=(lo:Int)/\IntKind.u64.wrap ((e:Int)*2 ^ (64 - s))=(c:Int)/\bits .or .u64 (lo:Int) (c:Int)=(b:Int)/\b<18446744073709551616/\b*2 ^ s+d % 2 ^ s=d+18446744073709551616*(e % 2 ^ s):=by
 have g:=Qbx (s:=s) (by omega);have a:2 ^ (64 - s)*2 ^ s=18446744073709551616:=by rw[Nat.mul_comm];exact g
 have h:e*2 ^ (64 - s) % 18446744073709551616=2 ^ (64 - s)*(e % 2 ^ s):=by
  rw[<-a,Nat.mul_comm e,Nat.mul_mod_mul_left]
 have i:d / 2 ^ s<2 ^ (64 - s):=by
  rw[Nat.div_lt_iff_lt_mul (Nat.two_pow_pos _),a];exact f
 have j:e % 2 ^ s+1<=2 ^ s:=Nat.mod_lt _ (Nat.two_pow_pos _);have k:=Nat.mul_le_mul_left (2 ^ (64 - s)) j;rw[a,Nat.mul_add,Nat.mul_one] at k;refine⟨d / 2 ^ s,e*2 ^ (64 - s) % 18446744073709551616,2 ^ (64 - s)*(e % 2 ^ s)+d / 2 ^ s,?_,?_,?_,by omega,?_⟩
 . rw[Int.natCast_ediv,Int.natCast_pow];rfl
 . rw[show (e:Int)*2 ^ (64 - s)=((e*2 ^ (64 - s):Nat):Int) by rw[Int.natCast_mul,Int.natCast_pow];rfl,Qaq];rfl
 . rw[or64' ((e*2 ^ (64 - s) % 18446744073709551616:Nat):Int) ((d / 2 ^ s:Nat):Int) (e % 2 ^ s) (d / 2 ^ s) (64 - s) (by rw[h]) rfl i (by omega)]
 .
  have n:=Nat.div_add_mod d (2 ^ s);rw[Nat.add_mul,Nat.mul_right_comm,a,Nat.mul_comm (d / 2 ^ s)];omega
theorem Qtj(k d e s a m0:Nat)(rs l:Vy)(hk:k<rs.length)(b:l.getD k 0=d)(c:l.getD (k+1) 0=e)(f:a*2 ^ s+d % 2 ^ s=d+18446744073709551616*(e % 2 ^ s))
 (h:val 18446744073709551616 (rs.take k)*2 ^ s+m0=val 18446744073709551616 (l.take k)+18446744073709551616 ^ k*(l.getD k 0 % 2 ^ s)):
 val 18446744073709551616 ((rs.set k a).take (k+1))*2 ^ s+m0=val 18446744073709551616 (l.take (k+1))+18446744073709551616 ^ (k+1)*(l.getD (k+1) 0 % 2 ^ s):=by
 rw[b] at h;rw[take_set _ _ _ hk,Qal,List.length_take,Nat.min_eq_left (by omega),Qae,b,c,Nat.pow_succ,Nat.add_mul];have g:18446744073709551616 ^ k*(a*2 ^ s+d % 2 ^ s)=18446744073709551616 ^ k*(d+18446744073709551616*(e % 2 ^ s)):=by rw[f]
 rw[Nat.mul_add,Nat.mul_add,<-Nat.mul_assoc,<-Nat.mul_assoc] at g;omega
theorem Qkt(a:Vx)(q s:Nat)(l:Vy)(x:Nat)(w:Vz)(h:U64 w a q l x)(hl:l.length<1099511627776)(R:s<64):
 Calls prog 218 #[.slice a l.length q,.int .i64 s] w fun e w'=>(∃rs,e=.returned (.slice (some ⟨w.heap.size,0,none⟩) (l.length+1) (l.length+1))/\Blk .u64 190 w' w.heap.size rs/\rs.length=l.length+1/\Small 18446744073709551616 rs/\val 18446744073709551616 rs=x*2 ^ s)/\Below w.heap.size w w':=by
 have C:∀w,(Instr.makeSlice 104 (.int .i64 ((l.length:Int)+1)) (.int .i64 ((l.length:Int)+1))).run prog w=.ok (.slice (some ⟨w.heap.size,0,none⟩) (l.length+1) (l.length+1)) (w.alloc (.cells (wordCells .u64 (zeros (l.length+1))) 190)):=
  fun w=>Qtf _ (l.length+1) (by omega) (by omega) w
 have H:=Hi h;clear h;go_enter func218,ntmps218;go_wp2;clear C;go_loopw [14] (fun i wr=>∃(k:Nat) (rs:Vy),k<=l.length/\i=.int .i64 k/\Blk .u64 190 wr w.heap.size rs/\rs.length=l.length+1/\Small 18446744073709551616 rs/\rs.getD k 0<2 ^ s/\(∀j,k<j->rs.getD j 0=0)/\
  val 18446744073709551616 (rs.take (k+1))=val 18446744073709551616 (l.take k)*2 ^ s/\Below w.heap.size w wr) (fun i _=>l.length - (intOf i).toNat)
 case atStart=>exact⟨0,zeros (l.length+1),by omega,rfl,Blk.new _ _ _ _,Qag _,Qam _ _ (by omega),by rw[Qb2];exact Nat.pow_pos (by omega),fun j _=>Qb2 _ j,by rw[Qae,Qb2];simp[val],bR.alloc lZ _⟩
 case round=>
  obtain⟨k,rs,hk,rfl,hB,m,r,c,hz2,K,L⟩:=hrel;obtain⟨M,f,N,t,n⟩:=Id K m hB r L;clear K r L;by_cases D:k<l.length
  .
   obtain⟨b,S,rfl,E,p⟩:=H.o.row.cell k D;obtain⟨d,B⟩:=nm (l.getD k 0);have F:d<18446744073709551616:=by rw[<-B];exact H.o.num.small.getD (by omega) k
   rw[B] at p;have O:=ce n.o E p;have Y:=hB.free k;have T:=hB.cell k (by omega);have Z:=hB.free (k+1);have U:=hB.cell (k+1) (by omega);rw[hz2 (k+1) (by omega)] at U;obtain⟨z,G⟩:=nm (rs.getD k 0);rw[G] at T c;obtain⟨lo,P,u,u1,u2,u3,v,y,A,g⟩:=Qtg d s z R F c;obtain⟨I,V,J⟩:=Ib (Qth k d s z u P rs l (by omega) B G g M.o) hz2 v;clear B p G hB m c hz2 g v;have i0:(0:Int)<=(k:Int):=by omega
   have i1:(k:Int)<(l.length:Int)+1:=by omega
   go_wp2_with fail;go_region
   all_goals
    go_wp2;go_roundw
    case rel=>
     refine⟨k+1,(rs.set k u).set (k+1) P,by omega,by go_num,((N.o.set k _).drew).set (k+1) _,by rw[List.length_set,List.length_set];exact f.o,(t.o.set k y).set (k+1) A,?_,fun j hj=>?_,I.o,((n.o.setCell lZ _).drew).setCell lZ _⟩
     . rw[Qbj _ _ _ (by rw[List.length_set,f.o];omega)];exact J.o
     . rw[getD_set_ne _ _ _ _ (by omega),getD_set_ne _ _ _ _ (by omega)];exact V.o j (by omega)
    case measure=>simp[intOf];omega
  .
   have W:k=l.length:=by omega
   have X:=Hi (by
    have Q:=M.o;rw[W,List.take_length,List.take_of_length_le (by have:=f.o;omega),H.o.num.eq] at Q
    exact Q)
   clear m hB c hz2;go_wp2;go_ret;exact⟨⟨rs,rfl,N.o,f.o,t.o,X.o⟩,n.o⟩
theorem Qar(n:Int)(a: -9223372036854775808<=n)(b:n<9223372036854775808):IntKind.i64.wrap n=n:=by
 simp[IntKind.wrap,IntKind.signed,IntKind.bits];omega
structure ON (w:Vz) (g cap:Nat) (C l:Vy) (n:Nat):Prop where
 pre:Pre w g C
 small:Small 18446744073709551616 C
 len:C.length<=1099511627776
 fro:C.take l.length=l
 num:Num 18446744073709551616 l n
 fit:l.length<=cap
theorem Blk.pre{w:Vz}{g:Nat}{C:Vy}(h:Blk .u64 190 w g C):Pre w g C:=
 ⟨wordCells .u64 C,h,fun i a=>by
   have c:=SB.cell (w:=w) (b:=g) (t:=190) (C:=wordCells .u64 C) h i;rw[<-c]
   exact h.cell i a⟩
theorem Pre.rowN{w:Vz}{g:Nat}{C:Vy}(h:Pre w g C)(n:Nat)(b:n<=C.length)(a:Nat)(c:n<=a):Row .u64 w (some ⟨g,0,none⟩) a (C.take n):=by
 have hl:(C.take n).length=n:=by rw[List.length_take];omega
 refine⟨by omega,.inr ⟨g,0,rfl,h.lt⟩,fun i d=>⟨g,0,rfl,h.lt,?_⟩⟩;rw[Nat.zero_add,Qfu _ _ _ (by omega)];exact h.cell i (by omega)
theorem ON.le{w:Vz}{g a n:Nat}{C l:Vy}(h:ON w g a C l n):l.length<=C.length:=by
 have:=congrArg List.length h.fro;rw[List.length_take] at this;omega
theorem ON.u64{w:Vz}{g a n:Nat}{C l:Vy}(h:ON w g a C l n):U64 w (some ⟨g,0,none⟩) a l n:=by
 have b:=h.pre.rowN l.length h.le a h.fit;rw[h.fro] at b;exact⟨b,h.num,Nat.le_trans h.le h.len⟩
theorem ON.below{w w':Vz}{g a n:Nat}{C l:Vy}(h:ON w g a C l n)(b:Bl w w'):ON w' g a C l n:=⟨h.pre.below b h.pre.lt,h.small,h.len,h.fro,h.num,h.fit⟩
theorem Qdc(g n a x:Nat)(C:Vy)(w:Vz)(h:Pre w g C)(j:Small 18446744073709551616 C)(l:C.length<=1099511627776)(m:n<=C.length)(o:n<=a)(p:val 18446744073709551616 (C.take n)=x):
 Calls prog 187 #[.slice (some ⟨g,0,none⟩) n a] w fun e w'=>(∃r,e=.returned (.slice (some ⟨g,0,none⟩) r.length a)/\ON w g a C r x/\r.length<=n)/\w'=w:=by
 have s:=h.rowN n m a o;have hl:(C.take n).length=n:=by rw[List.length_take];omega
 have k:=Qgk (some ⟨g,0,none⟩) a (C.take n) w s (by omega);rw[hl] at k;refine k.mono ?_;rintro e t ⟨⟨q,u,rfl,b,c⟩,rfl⟩;have f:q<=n:=by omega
 have i:(C.take n).take q=C.take q:=by rw[List.take_take,Nat.min_eq_left f]
 rw[i] at b c;have d:(C.take q).length=q:=by rw[List.length_take];omega
 exact⟨⟨C.take q,by rw[d],⟨h,j,l,by rw[d],⟨j.take q,c,b.trans p⟩,by omega⟩,by omega⟩,rfl⟩
theorem Qsu(a:Vx)(m s:Nat)(l:Vy)(w:Vz)(h:Row .u64 w a m l)(x:Small 18446744073709551616 l)(hl:l.length<1099511627776)(Z:s<64):
 Calls prog 220 #[.slice a l.length m,.int .i64 s] w fun e w'=>(∃rs r,e=.returned (.slice (some ⟨w.heap.size,0,none⟩) r.length l.length)/\ON w' w.heap.size l.length rs r (val 18446744073709551616 l / 2 ^ s))/\Below w.heap.size w w':=by
 have I:=
  fun w=>Qc7 _ l.length rfl (by omega) w
 obtain⟨H,y⟩:=Ia h x;clear h x;go_enter func220,ntmps220;go_wp2;clear I;go_loopw [12] (fun i wr=>∃(k:Nat) (rs:Vy),k<=l.length/\i=.int .i64 k/\Blk .u64 190 wr w.heap.size rs/\rs.length=l.length/\Small 18446744073709551616 rs/\
  val 18446744073709551616 (rs.take k)*2 ^ s+l.getD 0 0 % 2 ^ s=val 18446744073709551616 (l.take k)+18446744073709551616 ^ k*(l.getD k 0 % 2 ^ s)/\Below w.heap.size w wr) (fun i _=>l.length - (intOf i).toNat)
 case atStart=>exact⟨0,zeros l.length,by omega,rfl,Blk.new _ _ _ _,Qag _,Qam _ _ (by omega),by simp[val],bR.alloc lZ _⟩
 case round=>
  obtain⟨k,rs,hk,rfl,hB,n,A,O,P⟩:=hrel;obtain⟨Q,c,R,B,f⟩:=Id O n hB A P;clear O A P;by_cases J:k<l.length
  .
   obtain⟨b,q,rfl,C,g⟩:=H.o.cell k J;obtain⟨d,F⟩:=nm (l.getD k 0);obtain⟨e,G⟩:=nm (l.getD (k+1) 0);have K:d<18446744073709551616:=by rw[<-F];exact y.o.getD (by omega) k
   have L:e<18446744073709551616:=by rw[<-G];exact y.o.getD (by omega) (k+1)
   rw[F] at g;have S:=ce f.o C g;obtain⟨z,T⟩:=nm (rs.getD k 0);have g1:=hB.free k;have g2:=hB.cell k (by omega);rw[T] at g2;obtain⟨lo,hi,u,u1,u2,u3,D,j⟩:=Qti d e s Z K L;have M:=Hi (Qtj k d e s u _ rs l (by omega) F G j Q.o);have v:=Qb3 (some ⟨b,q,none⟩) m l (k+1) wr.drew (H.o.below f.o.drew) (by omega) (by omega);rw[G,show ((k+1:Nat):Int)=(k:Int)+1 by omega] at v;have wk:IntKind.i64.wrap ((k:Int)+1)=(k:Int)+1:=Qar _ (by omega) (by omega);obtain⟨t,U⟩:=nm (64 - s);have ws:IntKind.i64.wrap (64 - (s:Int))=(t:Int):=by rw[Qar _ (by omega) (by omega)];omega
   have V:t<=64:=by omega
   rw[U] at u2;clear U;have HC:=Hi v;clear v;have i0:(0:Int)<=(k:Int):=by omega
   have i1:(k:Int)<(l.length:Int):=by omega
   have aa:=(((f.o.setCell (p:=⟨w.heap.size,k,none⟩) lZ (.int .u64 (u:Int))).drew).cell (p:=⟨b,q+k,none⟩) C).trans g;clear F G g T hB n j;go_wp2_with fail;go_region_held3 (fun w'=>w'.cell? ⟨b,q+k,none⟩=some (.int .u64 d)) ((simp [*])) (first
    |(
     go_at_call 224;go_fit (HC.o);rintro W w2 ⟨rfl,N⟩
     subst N))
   go_wp2;go_roundw
   case rel=>exact⟨k+1,rs.set k u,by omega,by go_num,(R.o.set k _).drew,by rw[List.length_set];exact c.o,B.o.set k D,M.o,(f.o.setCell lZ _).drew⟩
   case measure=>simp[intOf];omega
  .
   have W:k=l.length:=by omega
   have E:val 18446744073709551616 rs=val 18446744073709551616 l / 2 ^ s:=by
    have X:=Q.o;rw[W,List.take_of_length_le (by have:=c.o;omega),List.take_length,Qbw l l.length lZ,Nat.zero_mod,Nat.mul_zero,Nat.add_zero] at X;have e3:l.getD 0 0 % 2 ^ s<2 ^ s:=Nat.mod_lt _ (Nat.two_pow_pos _);rw[<-X,Nat.mul_comm,Nat.mul_add_div (Nat.two_pow_pos _),Nat.div_eq_of_lt e3,Nat.add_zero]
   have HQ:=Hi E;clear n hB E;go_wp2_with fail;refine(Qdc w.heap.size l.length l.length (val 18446744073709551616 l / 2 ^ s) rs _ R.o.pre B.o (by rw[c.o];omega) (by rw[c.o];exact Nat.le_refl _) lZ (by rw[List.take_of_length_le (by rw[c.o];exact Nat.le_refl _)];exact HQ.o)).mono ?_;rintro e w1 ⟨⟨r,rfl,Y,_⟩,rfl⟩;have HU:=Hi Y;clear Y;go_wp2;go_ret;exact⟨⟨rs,r,rfl,HU.o⟩,f.o⟩
structure Tops (a2 a1 a0 d1 d0 P lw lv W V:Nat):Prop where
 hP:0<P
 hW:W=(a2*18446744073709551616+a1)*(18446744073709551616*P)+a0*P+lw
 hV:V=d1*(18446744073709551616*P)+d0*P+lv
 hlw:lw<P
 hd1:0<d1
 hWV:W<18446744073709551616*V
 b2:a2<18446744073709551616
 b1:a1<18446744073709551616
 b0:a0<18446744073709551616
 c1:d1<18446744073709551616
 c0:d0<18446744073709551616
theorem Tops.pos{a b c d1 d0 P d e W V:Nat}(t:Tops a b c d1 d0 P d e W V):0<V:=by
 have:=t.hWV;rcases Nat.eq_zero_or_pos V with h|h
 . subst h;omega
 . exact h
theorem Tops.all{a b c d1 d0 P d e W V:Nat}(t:Tops a b c d1 d0 P d e W V):W / V<=18446744073709551615:=by
 have h:=t.hWV;have:W / V<18446744073709551616:=by rw[Nat.div_lt_iff_lt_mul t.pos];exact h
 omega
theorem Qs1{a b r c t:Nat}(d:b+18446744073709551616*a=t)(hl:b<18446744073709551616)(e:c<18446744073709551616):(a<r∨(a=r/\b<=c))↔t<=r*18446744073709551616+c:=by omega
theorem Qs2(j l y d1 d0 P T U W V:Nat)(w:Vz)(t:Tops j l y d1 d0 P T U W V):
 Calls prog 246 #[.int .u64 j,.int .u64 l,.int .u64 y,.int .u64 d1,.int .u64 d0] w fun e w'=>∃q:Nat,e=.returned (.int .u64 (q:Int))/\q<18446744073709551616/\W / V<=q/\∃n,w'=w.drewN n:=by
 have c:=Hi t;have b2:=t.b2;have b1:=t.b1;have b0:=t.b0;have c1:=t.c1;have c0:=t.c0;clear t;by_cases hA:d1<=j
 .
  go_enter func246,ntmps246;go_wp2;go_ret;exact⟨18446744073709551615,rfl,by omega,c.o.all,0,rfl⟩
 .
  obtain⟨q,r,E,X,v,F⟩:=div64 j l d1 (by omega) b1 c1;have G:=Hi F;have H:=Hi (by
   have h1:=Qjz 18446744073709551616 P (j*18446744073709551616+l) y T d1 d0 U W V c.o.hP (by decide) c.o.hW c.o.hV c.o.hlw b0 c.o.hd1;have h2:(j*18446744073709551616+l) / d1=q:=by
    rw[show j*18446744073709551616+l=d1*q+r by omega,Nat.mul_add_div c.o.hd1,Nat.div_eq_of_lt X,Nat.add_zero]
   rw[h2] at h1
   exact h1)
  have f:O (q*d1+r=j*18446744073709551616+l):=Hi (by rw[Nat.mul_comm];omega);clear F v;go_enter func246,ntmps246;go_wp2_with fail;refine(G.o _).mono ?_;rintro e w1 ⟨rfl,n1,ab⟩;go_wp2_with fail;go_loop [11,12] (fun qv rv=>∃q r:Nat,qv=.int .u64 q/\rv=.int .u64 r/\q<18446744073709551616/\r<18446744073709551616/\q*d1+r=j*18446744073709551616+l/\W / V<=q) (fun qv _=>(intOf qv).toNat)
  case atStart=>exact⟨q,r,rfl,rfl,E,by omega,f.o,H.o⟩
  case round=>
   clear E X G H f;obtain⟨q,r,rfl,rfl,E,X,v,I⟩:=hrel;obtain⟨a,A,hh,hl,J,K⟩:=mul64 q d0 E c0;obtain⟨k,L,f,M⟩:=Ic K I v (Qs1 (r:=r) J hl b0);clear K I v J;by_cases ad:a<r
   .
    have z:(a:Int)<(r:Int):=by omega
    go_wp2_with fail;refine(k.o _).mono ?_;rintro e N ⟨rfl,g⟩;go_wp2;go_ret;exact⟨q,rfl,E,L.o,n1,rfl⟩
   by_cases Y:a=r
   .
    subst Y;have z:¬((a:Int)<(a:Int)):=by omega
    by_cases ae:A<=y
    .
     have Q:(A:Int)<=(y:Int):=by omega
     go_wp2_with fail;refine(k.o _).mono ?_;rintro e N ⟨rfl,g⟩;go_wp2;go_ret;exact⟨q,rfl,E,L.o,n1,rfl⟩
    .
     have Q:¬((A:Int)<=(y:Int)):=by omega
     have B:=Hi (Nat.lt_of_not_le (fun h=>by have:=M.o.2 h;omega));have m:=Hi (Qf9 18446744073709551616 P (j*18446744073709551616+l) y T d1 d0 U W V q a c.o.hP c.o.hW c.o.hV c.o.hlw c.o.pos f.o B.o);obtain⟨i,b⟩:∃i,q=i+1:=⟨q - 1,by have:=Nat.lt_of_le_of_lt (Nat.zero_le _) m.o;omega⟩;have Z:(q:Int) - 1=(i:Int):=by omega
     have d:i<18446744073709551616:=by omega
     have C:=Hi b;have p:O (i*d1+(a+d1)=j*18446744073709551616+l):=Hi (by have:=f.o;rw[b,Nat.succ_mul] at this;omega);have s:=Hi (by have h:=m.o;rw[b] at h;exact Nat.le_of_lt_succ h);clear b;by_cases u:a+d1<18446744073709551616
     .
      have R:¬((a:Int)+(d1:Int)<(d1:Int)):=by omega
      go_wp2_with fail;refine(k.o _).mono ?_;rintro e N ⟨rfl,g⟩;subst g;go_wp2_with fail;go_round
      case rel=>exact⟨i,a+d1,by go_num,by go_num,d,u,p.o,s.o⟩
      case measure=>have:=C.o;simp[intOf];omega
     .
      obtain⟨x,D⟩:∃x,a+d1=x+18446744073709551616:=⟨a+d1 - 18446744073709551616,by omega⟩;have ew:IntKind.u64.wrap ((a:Int)+(d1:Int))=(x:Int):=by rw[Qaq];omega
      have S:(x:Int)<(d1:Int):=by omega
      clear D u;go_wp2_with fail;refine(k.o _).mono ?_;rintro e N ⟨rfl,g⟩;go_wp2;go_ret;exact⟨i,rfl,d,s.o,n1,rfl⟩
   .
    have z:¬((a:Int)<(r:Int)):=by omega
    have aa:((a:Int) == (r:Int))=false:=by rw[beq_eq_false_iff_ne];omega
    have B:=Hi (Nat.lt_of_not_le (fun h=>by have:=M.o.2 h;omega));have m:=Hi (Qf9 18446744073709551616 P (j*18446744073709551616+l) y T d1 d0 U W V q r c.o.hP c.o.hW c.o.hV c.o.hlw c.o.pos f.o B.o);obtain⟨i,b⟩:∃i,q=i+1:=⟨q - 1,by have:=Nat.lt_of_le_of_lt (Nat.zero_le _) m.o;omega⟩;have Z:(q:Int) - 1=(i:Int):=by omega
    have d:i<18446744073709551616:=by omega
    have C:=Hi b;have p:O (i*d1+(r+d1)=j*18446744073709551616+l):=Hi (by have:=f.o;rw[b,Nat.succ_mul] at this;omega);have s:=Hi (by have h:=m.o;rw[b] at h;exact Nat.le_of_lt_succ h);clear b;by_cases u:r+d1<18446744073709551616
    .
     have R:¬((r:Int)+(d1:Int)<(d1:Int)):=by omega
     go_wp2_with fail;refine(k.o _).mono ?_;rintro e N ⟨rfl,g⟩;subst g;go_wp2_with fail;go_round
     case rel=>exact⟨i,r+d1,by go_num,by go_num,d,u,p.o,s.o⟩
     case measure=>have:=C.o;simp[intOf];omega
    .
     obtain⟨x,D⟩:∃x,r+d1=x+18446744073709551616:=⟨r+d1 - 18446744073709551616,by omega⟩;have ew:IntKind.u64.wrap ((r:Int)+(d1:Int))=(x:Int):=by rw[Qaq];omega
     have S:(x:Int)<(d1:Int):=by omega
     clear D u;go_wp2_with fail;refine(k.o _).mono ?_;rintro e N ⟨rfl,g⟩;go_wp2;go_ret;exact⟨i,rfl,d,s.o,n1,rfl⟩
theorem Qgp{B:Nat}{u w:Vz}(h:Below B u w)(n:Nat):Below B u (w.drewN n):=⟨h.os,h.tape,h.output,h.size,h.block⟩
theorem RowDone.trans{w b c:Vz}{g a n:Nat}{rs d e:Vy}(h:RowDone w b g a n rs d)(k:RowDone b c g a n d e):RowDone w c g a n rs e:=
 ⟨k.blk,k.len.trans h.len,k.small,h.only.trans k.only,fun p f=>(k.o p f).trans (h.o p f)⟩
theorem Qtk{B j x:Nat}{us vs:Vy}(hB:0<B)(d:j<=us.length)(hl:vs.length=us.length)(a:∀p,p<j->vs.getD p 0=us.getD p 0)(t:Nat)(h:val B vs+B ^ j*x=val B us+B ^ j*t):val B (vs.drop j)+x=val B (us.drop j)+t:=by
 have e:vs.take j=us.take j:=by
  apply List.ext_getElem
  . simp[hl]
  .
   intro i c b;have f:i<j:=by simp at c;omega
   have:=a i f;rw[List.getD_eq_getElem?_getD,List.getD_eq_getElem?_getD,gE (by simp at c;omega),gE (by simp at b;omega)] at this;simp only[List.getElem_take]
   simpa using this
 rw[Qak B vs j (by omega),Qak B us j d,e] at h;have b:B ^ j*(val B (vs.drop j)+x)=B ^ j*(val B (us.drop j)+t):=by rw[Nat.mul_add,Nat.mul_add];omega
 exact Nat.eq_of_mul_eq_mul_left (Nat.pow_pos hB) b
theorem Qtl{B e y b a c X Y:Nat}{us1:Vy}(d:e<us1.length)(f:us1.getD e 0=y)(h:val B us1+X=Y+B ^ e*a)(g:b+a=y+B*c):val B (us1.set e b)+X=Y+B ^ (e+1)*c:=by
 have i:=Qbi B us1 e b d;rw[f] at i;have j:B ^ e*(b+a)=B ^ e*(y+B*c):=by rw[g]
 rw[Nat.mul_add,Nat.mul_add,<-Nat.mul_assoc] at j;rw[Nat.pow_succ];omega
theorem Qtm{B e y b c a ca g i Y j:Nat}{us1 us2:Vy}(k:e<us1.length)(d:e<us2.length)(l:us1.getD e 0=y)(f:us2.getD e 0=y)(h:val B (us1.set e b)+(j+i)=Y+B ^ (e+1)*(g+ca))(q:val B us2+B ^ e*c=val B us1+i)(m:a+B*ca=b+c):val B (us2.set e a)+j=Y+B ^ (e+1)*g:=by
 have n:=Qbi B us1 e b k;have o:=Qbi B us2 e a d;rw[l] at n;rw[f] at o;have p:B ^ e*(a+B*ca)=B ^ e*(b+c):=by rw[m]
 rw[Nat.mul_add,Nat.mul_add,<-Nat.mul_assoc] at p;rw[Nat.pow_succ,Nat.mul_add] at h;rw[Nat.pow_succ];omega
theorem Qtn{r q D L:Nat}(a:0<D)(h:r+q*D=L)(d:L / D<=q):r<D:=by
 have e:q<=L / D:=(Nat.le_div_iff_mul_le a).2 (by omega);have b:=Nat.div_add_mod L D;have f:=Nat.mod_lt L a;have c:L / D=q:=by omega
 rw[c,Nat.mul_comm] at b;omega
theorem Qto{r q D L T:Nat}(a:0<D)(h:r+q*D=L+T)(b:r<T):L / D<q:=by
 rw[Nat.div_lt_iff_lt_mul a];omega
theorem Qtp(g j n C N p:Nat)(us:Vy)(a2:Vx)(c2:Nat)(m:Vy)(D:Nat)(w:Vz)(hB:Blk .u64 190 w g us)(t:Small 18446744073709551616 us)(E:U64 w a2 c2 m D)(Z:m.length=N)(aa:N=n+2)(ab:p=n+1)(ad:∀b o,a2=some ⟨b,o,none⟩->b≠g)
 (hj:j+N+1<=us.length) (hz:val 18446744073709551616 (us.drop (j+N+1))=0) (hL:val 18446744073709551616 (us.drop j)<18446744073709551616*D) (bc:N+1<=C):
 Calls prog 219 #[.slice (some ⟨g,j,none⟩) (N+1) C,.slice a2 N c2] w fun e w'=>∃(q:Nat) (V:Vy),e=.returned (.int .u64 (q:Int))/\q<18446744073709551616/\RowDone w w' g j (N+1) us V/\val 18446744073709551616 V+18446744073709551616 ^ j*(q*D)=val 18446744073709551616 us/\val 18446744073709551616 (V.drop j)<D:=by
 have az:=E.short;rw[Z] at az;obtain⟨a0,a1,HM,W⟩:=Ic hB t E ad;obtain⟨b,o,rfl,ae,a3⟩:=E.row.cell p (by omega);obtain⟨b',o',u,be,F⟩:=E.row.cell n (by omega);obtain⟨rfl,rfl⟩:b=b'/\o=o':=by simpa using u
 obtain⟨x1,y⟩:∃x,m.getD p 0=x:=⟨_,rfl⟩;obtain⟨x0,G⟩:∃x,m.getD n 0=x:=⟨_,rfl⟩;rw[y] at a3;rw[G] at F;obtain⟨y2,z⟩:∃x,us.getD (j+N) 0=x:=⟨_,rfl⟩;obtain⟨y1,H⟩:∃x,us.getD (j+p) 0=x:=⟨_,rfl⟩;obtain⟨y0,I⟩:∃x,us.getD (j+n) 0=x:=⟨_,rfl⟩;have k2:=hB.cell (j+N) (by omega);have k1:=hB.cell (j+p) (by omega);have k0:=hB.cell (j+n) (by omega);rw[z] at k2;rw[H] at k1;rw[I] at k0;have P:0<x1:=by
  rcases E.num.trim with h|h
  . rw[h] at Z;simp at Z;omega
  . rw[Z,aa,show n+2 - 1=p by omega,y] at h;omega
 have ht:Tops y2 y1 y0 x1 x0 (18446744073709551616 ^ n) (val 18446744073709551616 ((us.drop j).take n)) (val 18446744073709551616 (m.take n)) (val 18446744073709551616 (us.drop j)) D:=by
  refine⟨Nat.pow_pos (by decide),?_,?_,?_,P,hL,?_,?_,?_,?_,?_⟩
  . rw[Qj1 18446744073709551616 us j n (by omega) (by rw[show j+n+3=j+N+1 by omega];exact hz),show j+n+2=j+N by omega,show j+n+1=j+p by omega,z,H,I]
  . rw[<-E.num.eq,Qj2 18446744073709551616 m n (by omega),<-ab,y,G]
  .
   have:=Qab (B:=18446744073709551616) (by decide) ((t.drop j).take n);rw[List.length_take,List.length_drop,Nat.min_eq_left (by omega)] at this;exact this
  . rw[<-z];exact t.getD (by decide) _
  . rw[<-H];exact t.getD (by decide) _
  . rw[<-I];exact t.getD (by decide) _
  . rw[<-y];exact E.num.small.getD (by decide) _
  . rw[<-G];exact E.num.small.getD (by decide) _
 obtain⟨HT,af,HZ,HN⟩:=Ic ht z hz Z;have ag:=ht.b2;have bf:IntKind.i64.wrap ((N:Int) - 1)=(p:Int):=by rw[Qar _ (by omega) (by omega)];omega
 have bg:IntKind.i64.wrap ((N:Int) - 2)=(n:Int):=by rw[Qar _ (by omega) (by omega)];omega
 have i0:(0:Int)<=(N:Int):=by omega
 have i1:(N:Int)<(N:Int)+1:=by omega
 have i2:(0:Int)<=(p:Int):=by omega
 have i3:(p:Int)<(N:Int)+1:=by omega
 have i4:(p:Int)<(N:Int):=by omega
 have i5:(0:Int)<=(n:Int):=by omega
 have i6:(n:Int)<(N:Int)+1:=by omega
 have i7:(n:Int)<(N:Int):=by omega
 clear hB t E ad ht y G z H I P hz hL u aa ab Z;go_enter func219,ntmps219;go_wp2_with fail;go_region_held3 (fun w'=>w'.cell? ⟨g,j+N,none⟩=some (.int .u64 y2)/\w'.cell? ⟨g,j+p,none⟩=some (.int .u64 y1)/\w'.cell? ⟨g,j+n,none⟩=some (.int .u64 y0)/\w'.cell? ⟨b,o+p,none⟩=some (.int .u64 x1)/\w'.cell? ⟨b,o+n,none⟩=some (.int .u64 x0)) ((simp [*])) (first|(go_at_call 246;go_fit (Qs2 y2 y1 y0 x1 x0 _ _ _ _ D _ HT.o);rintro e w1 ⟨q,rfl,hq,ah,n1,a4⟩;subst a4));have F:=HT.o.pos;have a5:O (Only g w (w.drewN (1+n1))):=Hi ((Only.refl g w).drewN _);have ai:O (Blk .u64 190 (w.drewN (1+n1)) g us):=Hi a0.o;have J:O (U64 (w.drewN (1+n1)) (some ⟨b,o,none⟩) c2 m D):=Hi (HM.o.below (Qgp bR _));have K:=Hi ah;clear ah;go_wp2_with fail;generalize w.drewN (1+n1)=W1 at*
 have hC:=Qtd g j C us (some ⟨b,o,none⟩) c2 m q W1 ai.o a1.o J.o.row J.o.num.small J.o.short hq (by have:=HN.o;omega) (by have:=HN.o;omega) W.o;rw[HN.o,HM.o.num.eq] at hC;refine hC.mono ?_;rintro e w2 ⟨aj,us1,rfl,a6,a,Q⟩;have d:=a.len;have l:us1.getD (j+N) 0=y2:=by rw[a.o _ (.inr lZ)];exact af.o
 have kk:=a.blk.cell (j+N) (by omega);rw[l] at kk;obtain⟨k,L,v,u,ak,al⟩:=Qkh y2 aj ag a6;obtain⟨HE,HD⟩:=Ia (Qtl (by omega) l Q ak) (show RowDone w w2 g j N us us1 from ⟨a.blk,a.len,a.small,a5.o.trans a.only,a.o⟩);clear hC a Q l ak J ai k0 k1 k2 d;go_wp2_with (simp only[al]);clear kk al;go_loopw [6,8,9] (fun qv tv bv wr=>∃(q k L:Nat) (A:Vy),qv=.int .u64 q/\tv=.int .u64 k/\bv=.int .u64 L/\q<18446744073709551616/\k<18446744073709551616/\L<=1/\RowDone w wr g j N us A/\val 18446744073709551616 (A.set (j+N) k)+18446744073709551616 ^ j*(q*D)=val 18446744073709551616 us+18446744073709551616 ^ (j+N+1)*L/\val 18446744073709551616 (us.drop j) / D<=q) (fun qv _ _ _=>(intOf qv).toNat)
 case atStart=>exact⟨q,k,L,us1,rfl,rfl,rfl,hq,v,u,HD.o,HE.o,K.o⟩
 case round=>
  clear hq v u HE HD K;obtain⟨q,k,L,A,rfl,rfl,rfl,hq,v,u,a,hE,X⟩:=hrel;have d:=a.len;have l:A.getD (j+N) 0=y2:=by rw[a.o _ (.inr lZ)];exact af.o
  obtain⟨R,am,r,HE,K⟩:=Id d l a hE X;have an:O (val 18446744073709551616 ((A.set (j+N) k).drop j)+q*D=val 18446744073709551616 (us.drop j)+18446744073709551616 ^ (N+1)*L):=Hi (by
   refine Qtk (by decide) (by omega) (by rw[List.length_set];exact d) (fun p hp=>by rw[getD_set_ne _ _ _ _ (by omega)];exact a.o p (.inl hp)) _ ?_
   rw[hE,<-Nat.mul_assoc,<-Nat.pow_add,Nat.add_assoc])
  have M:O (val 18446744073709551616 ((A.set (j+N) k).drop j)<18446744073709551616 ^ (N+1)):=Hi (by
   have hs:=(a.small.set (j+N) v).drop j;have ao:=Qab (B:=18446744073709551616) (by decide) (hs.take (N+1));rw[List.length_take,List.length_drop,List.length_set,Nat.min_eq_left (by omega)] at ao;rw[Qak 18446744073709551616 _ (N+1) (by rw[List.length_drop,List.length_set];omega),List.drop_drop];have a7:val 18446744073709551616 ((A.set (j+N) k).drop (j+(N+1)))=0:=by
    apply Qgc;intro i;rw[Qec,getD_set_ne _ _ _ _ (by omega),a.o _ (.inr (by omega))];have:=Qgd 18446744073709551616 (by decide) _ HZ.o i;rw[Qec] at this;rw[show j+(N+1)+i=j+N+1+i by omega];exact this
   rw[a7,Nat.mul_zero,Nat.add_zero]
   exact ao)
  by_cases a8:L=0
  .
   subst a8;have g1:=a.blk.free (j+N);have g2:=a.blk.cell (j+N) (by omega);rw[l] at g2;clear a hE X d l;go_wp2;go_ret;refine⟨q,A.set (j+N) k,rfl,hq,⟨r.o.blk.set _ _,by rw[List.length_set];exact R.o,r.o.small.set _ v,r.o.only.setCell _ _,fun p hp=>by rw[getD_set_ne _ _ _ _ (by omega)];exact r.o.o p (by omega)⟩,by have:=HE.o;rw[Nat.mul_zero,Nat.add_zero] at this;exact this,?_⟩;have:=an.o;rw[Nat.mul_zero,Nat.add_zero] at this;exact Qtn F this K.o
  .
   have ae:L=1:=by omega
   subst ae;have ap:=Hi (Qto F (by have:=an.o;rw[Nat.mul_one] at this;exact this) M.o);obtain⟨qm,Y⟩:∃qm,q=qm+1:=⟨q - 1,by have:=Nat.lt_of_le_of_lt (Nat.zero_le _) ap.o;omega⟩;have bh:(q:Int) - 1=(qm:Int):=by omega
   have aq:qm<18446744073709551616:=by omega
   obtain⟨ar,a9⟩:=Ia Y (by have h:=ap.o;rw[Y] at h;exact Nat.le_of_lt_succ h);have hC:=Qte g j C A (some ⟨b,o,none⟩) c2 m wr r.o.blk r.o.small (HM.o.row.onlyG r.o.only W.o) HM.o.num.small HM.o.short (by have:=HN.o;omega) (by have:=HN.o;omega) W.o;rw[HN.o,HM.o.num.eq] at hC;have HC:=Hi hC;clear a hE X d l Y hC;go_wp2_with fail;refine HC.o.mono ?_;rintro e w3 ⟨c,u2,rfl,bi,f,s⟩;obtain⟨S,ca,au,bd,av,ba⟩:=Qc8 k c v (by omega);have T:u2.getD (j+N) 0=y2:=by rw[f.o _ (.inr lZ)];exact am.o
   have aw:=Hi (r.o.trans f);have ax:O (val 18446744073709551616 (u2.set (j+N) S)+18446744073709551616 ^ j*(qm*D)=val 18446744073709551616 us+18446744073709551616 ^ (j+N+1)*(1 - ca)):=Hi (by
    have h:=HE.o;rw[ar.o,Nat.succ_mul,Nat.mul_add] at h;rw[Nat.one_mul] at s;have bj:=f.len;have bk:=R.o;refine Qtm (us1:=A) (us2:=u2) (by omega) (by omega) am.o T ?_ s av;rw[show 1 - ca+ca=1 by omega]
    exact h)
   have bb:(1:Int) - (ca:Int)=((1 - ca:Nat):Int):=by omega
   obtain⟨b2,U⟩:∃b2,1 - ca=b2:=⟨_,rfl⟩;rw[U] at ax bb;have ay:b2<=1:=by omega
   clear f s av T HC U;go_wp2_with (simp only[ba]);go_roundw
   case rel=>exact⟨qm,S,b2,u2,by go_num,rfl,by go_num,aq,au,ay,aw.o,ax.o,a9.o⟩
   case measure=>have:=ar.o;simp[intOf];omega
def QR(w:Vz)(q r:Nat)(e:Ending)(w':Vz):Prop:=
 (∃aq cq lq ar cr lr,e=.returned (.tuple #[.slice aq (List.length lq) cq,.slice ar (List.length lr) cr])/\U64 w' aq cq lq q/\U64 w' ar cr lr r)/\Below w.heap.size w w'
theorem Qsm(b c:Vx)(c1 c2:Nat)(l m:Vy)(x y:Nat)(w:Vz)(d:U64 w b c1 l x)(g:U64 w c c2 m y)(a:x<y):
 Calls prog 180 #[.slice b l.length c1,.slice c m.length c2] w (QR w (x / y) (x % y)):=by
 have f:=Hi (Qdb b c c1 c2 l m x y w d g);rw[Qc0 a] at f;have j:=Hi d;clear d g;go_enter func180,ntmps180;go_wp2_with fail;refine f.o.mono ?_;rintro e k ⟨rfl,h⟩;have i:=Hi h;clear h f;go_wp2;go_ret2;exact⟨⟨none,0,[],b,c1,l,rfl,by rw[Nat.div_eq_of_lt a];exact U64.nil _,by rw[Nat.mod_eq_of_lt a];exact j.o.below i.o⟩,i.o⟩
theorem Qsn{q d r x:Nat}(h:q*d+r=x)(a:r<d):q=x / d/\r=x % d:=by
 rw[<-h,Nat.mul_comm q d];constructor
 . rw[Nat.mul_add_div (by omega),Nat.div_eq_of_lt a,Nat.add_zero]
 . rw[Nat.mul_add_mod,Nat.mod_eq_of_lt a]
theorem Qso(F G:Vx)(c1 c2:Nat)(l m:Vy)(x y:Nat)(w:Vz)(q:U64 w F c1 l x)(s:U64 w G c2 m y)(aa:y<=x)(h0:0<y)(H:m.length=1):
 Calls prog 180 #[.slice F l.length c1,.slice G m.length c2] w (QR w (x / y) (x % y)):=by
 have I:=Hi (Qdb F G c1 c2 l m x y w q s);have V:¬(cmp3 x y<0):=fun h=>by have:=(Qau x y).1 h;omega
 have J:0<l.length:=by
  rcases Nat.eq_zero_or_pos l.length with h|h
  . have:=(q.num.len_zero (by decide)).2 h;omega
  . exact h
 obtain⟨b,o,rfl,K,t⟩:=s.row.cell 0 (by omega);have L:m.getD 0 0=y:=by
  have W:=s.num.eq;obtain⟨d,rfl⟩:=List.length_eq_one_iff.1 H;rw[Qbh,Qcx,Nat.mul_zero,Nat.add_zero] at W;exact W
 rw[L,Nat.add_zero] at t;have M:y<18446744073709551616:=by rw[<-L];exact s.num.small.getD (by decide) 0
 have N:=q.short;have P:=Hi q;rw[H] at I;rw[H];have q1:((1:Int) == 1)=true:=rfl;clear q s L;go_enter func180,ntmps180;go_wp2_with fail;refine I.o.mono ?_;rintro e w1 ⟨rfl,i⟩;have a:=Hi i;have Q:=ce i K t;clear i I;go_wp2_with fail;refine(Qgl F c1 l x _ (P.o.below a.o) J).mono ?_;rintro e w2 ⟨⟨g,cap',rfl,X,hg,Y⟩,i⟩;have u:=Hi i;have ab:=ce i (by have:=a.o.size;show b<_;omega) Q;have HP:=Hi Y;clear i Y;go_wp2_with fail;refine(Qsr g cap' y l _ HP.o P.o.num.small N h0 M).mono ?_;rintro e Z ⟨c,r,rfl,hr,j,n,v,hv3,f⟩;have z:=Hi (show Below w.heap.size w Z from ((a.o.trans (u.o.mono a.o.size)).trans (f.below (by have:=a.o.size;omega) (Nat.le_trans a.o.size u.o.size))));rw[P.o.num.eq] at hv3;have HQ:=Hi (Qsn hv3 hr)
 obtain⟨R,S,T⟩:=Ib j v (Qgk (some ⟨g,0,none⟩) cap' c Z (j.row cap' (by omega)) (by omega));rw[n] at T;have p:=Hi n;clear j v hv3 f n;go_wp2_with fail;refine T.o.mono ?_;rintro e w4 ⟨⟨k,hk,rfl,A,B⟩,hw⟩;subst hw;have HU:O (U64 w4 (some ⟨g,0,none⟩) cap' (c.take k) (x / y)):=Hi ⟨(R.o.row cap' (by have:=p.o;omega)).take k (by have:=p.o;omega),⟨S.o.take k,B,by rw[A,HQ.o.1]⟩,by rw[List.length_take];omega⟩;have HK:=Hi (show (c.take k).length=k by rw[List.length_take];have:=p.o;omega);clear A B T;go_wp2_with fail;refine(Qss r _ (by omega)).mono ?_;rintro e w5 ⟨⟨ar,cr,lr,rfl,C⟩,D⟩;obtain⟨U,E⟩:=Ia C D;clear C D;go_wp2;go_ret2;exact⟨⟨some ⟨g,0,none⟩,cap',c.take k,ar,cr,lr,by rw[HK.o];rfl,HU.o.below E.o,by rw[<-HQ.o.2];exact U.o⟩,z.o.trans (E.o.mono z.o.size)⟩
structure DInv (X D N M k:Nat) (us qs:Vy):Prop where
 ul:us.length=M+N
 ql:qs.length=M
 su:Small 18446744073709551616 us
 sq:Small 18446744073709551616 qs
 eq:val 18446744073709551616 us+D*(18446744073709551616 ^ k*val 18446744073709551616 (qs.drop k))=X
 rem:val 18446744073709551616 (us.drop k)<D
theorem DInv.zero{X D N M k:Nat}{us a:Vy}(h:DInv X D N M k us a)(hk:k<=M)(b:D<18446744073709551616 ^ N):val 18446744073709551616 (us.drop (k+N))=0:=by
 have:=Qga 18446744073709551616 (by decide) (us.drop k) N (Nat.lt_trans h.rem b) (by rw[List.length_drop,h.ul];omega);rw[List.drop_drop] at this;exact this
theorem DInv.next{X D N M j q:Nat}{us b a:Vy}(h:DInv X D N M (j+1) us b)(c:j<M)(hl:a.length=us.length)(d:Small 18446744073709551616 a)(e:q<18446744073709551616)(f:val 18446744073709551616 a+18446744073709551616 ^ j*(q*D)=val 18446744073709551616 us)(g:val 18446744073709551616 (a.drop j)<D):DInv X D N M j a (b.set j q):=by
 refine⟨hl.trans h.ul,by rw[List.length_set];exact h.ql,d,h.sq.set j e,?_,g⟩;rw[Qao _ _ j (by rw[List.length_set,h.ql];exact c),Qbj _ _ _ (by rw[h.ql];exact c),List.drop_set,if_pos (by omega),<-h.eq,<-f,Nat.mul_add,Nat.mul_add,Nat.pow_succ,<-Nat.mul_assoc (18446744073709551616 ^ j) 18446744073709551616,Nat.mul_left_comm D (18446744073709551616 ^ j) q,Nat.mul_comm D q];omega
theorem DInv.win{X D N M j:Nat}{us a:Vy}(h:DInv X D N M (j+1) us a)(b:j<M)(c:0<D):val 18446744073709551616 (us.drop j)<18446744073709551616*D:=by
 rw[Qao _ us j (by rw[h.ul];omega)];have d:=h.su.getD (by decide) j;have e:=Nat.mul_le_mul_left 18446744073709551616 (show val 18446744073709551616 (us.drop (j+1))+1<=D from h.rem);omega
theorem Qsp{a c s N y:Nat}{d:Vy}(p:0<N)(q:y=c+18446744073709551616 ^ (N - 1)*a)(g:c<18446744073709551616 ^ (N - 1))(r:s<64)(l:9223372036854775808<=a*2 ^ s)(h:a*2 ^ s<18446744073709551616)(b:Num 18446744073709551616 d (y*2 ^ s)):d.length=N/\y*2 ^ s<18446744073709551616 ^ N/\9223372036854775808*18446744073709551616 ^ (N - 1)<=y*2 ^ s:=by
 obtain⟨K,rfl⟩:∃K,N=K+1:=⟨N - 1,by omega⟩;rw[Nat.add_sub_cancel] at*;have m:(a+1)*2 ^ s<=18446744073709551616:=by
  have i:=Qbx (s:=s) (by omega);rw[<-i,Nat.mul_comm (2 ^ s)];apply Nat.mul_le_mul_right;rw[<-i,Nat.mul_comm (2 ^ s)] at h;exact Nat.lt_of_mul_lt_mul_right h
 have j:y*2 ^ s<18446744073709551616 ^ (K+1):=by
  have e:y<18446744073709551616 ^ K*(a+1):=by rw[Nat.mul_add];omega
  have f:=Nat.mul_lt_mul_of_pos_right e (Nat.two_pow_pos s);rw[Nat.mul_assoc] at f;have k:=Nat.mul_le_mul_left (18446744073709551616 ^ K) m;rw[Nat.pow_succ];omega
 have n:9223372036854775808*18446744073709551616 ^ K<=y*2 ^ s:=by
  have e:18446744073709551616 ^ K*a<=y:=by omega
  have f:=Nat.mul_le_mul_right (2 ^ s) e;rw[Nat.mul_assoc] at f;have k:=Nat.mul_le_mul_left (18446744073709551616 ^ K) l;rw[Nat.mul_comm (18446744073709551616 ^ K) 9223372036854775808] at k;omega
 refine⟨?_,j,n⟩;apply Nat.le_antisymm
 . exact b.length_le_of_lt (by decide) j
 .
  apply bC;intro t;have o:=Qab (B:=18446744073709551616) (by decide) b.small;rw[b.eq] at o;have u:18446744073709551616 ^ d.length<=18446744073709551616 ^ K:=Nat.pow_le_pow_right (by decide) (by omega);omega
theorem Qsq{x s L M N D:Nat}{us:Vy}(a:x<18446744073709551616 ^ L)(b:M+N=L+1)(f:0<N)(g:s<64)(h:9223372036854775808*18446744073709551616 ^ (N - 1)<=D)(c:us.length=M+N)(i:val 18446744073709551616 us=x*2 ^ s):val 18446744073709551616 (us.drop M)<D:=by
 apply bC;intro j;have k:=Qak 18446744073709551616 us M (by omega);have d:18446744073709551616 ^ M*(9223372036854775808*18446744073709551616 ^ (N - 1))<=18446744073709551616 ^ M*val 18446744073709551616 (us.drop M):=Nat.mul_le_mul_left _ (by omega);have e:2 ^ s<=9223372036854775808:=Nat.pow_le_pow_right (by decide) (show s<=63 by omega);have l:=Nat.lt_of_le_of_lt (Nat.mul_le_mul_left x e) (Nat.mul_lt_mul_of_pos_right a (by decide));rw[Nat.mul_left_comm,<-Nat.pow_add,show M+(N - 1)=L by omega,Nat.mul_comm] at d;omega
theorem Qki{l:Vy}{y N:Nat}(h:Num 18446744073709551616 l y)(hl:l.length=N+1):∃c a,l.getD N 0=a/\y=c+18446744073709551616 ^ N*a/\c<18446744073709551616 ^ N/\0<a/\a<18446744073709551616:=by
 refine⟨val 18446744073709551616 (l.take N),l.getD N 0,rfl,?_,?_,?_,h.small.getD (by decide) N⟩
 .
  have b:=Qbv 18446744073709551616 l N (by omega);rw[List.take_of_length_le (by omega),h.eq] at b;exact b
 .
  have:=Qab (B:=18446744073709551616) (by decide) (h.small.take N);rw[List.length_take,Nat.min_eq_left (by omega)] at this;exact this
 .
  rcases h.trim with b|b
  . rw[b] at hl;simp at hl
  . rw[hl,Nat.add_sub_cancel] at b;omega
theorem Blk.onlyG{k:IntKind}{t:Vr}{w w':Vz}{g c:Nat}{l:Vy}(h:Blk k t w g l)(b:Only c w w')(a:g≠c):Blk k t w' g l:=by
 have:=h.lt;unfold Blk at h ⊢;rw[b.block g this a];exact h
def QRo(w:Vz)(q r:Nat)(e:Ending)(w':Vz):Prop:=
 (∃aq cq lq g cr C lr,e=.returned (.tuple #[.slice aq (List.length lq) cq,.slice (some ⟨g,0,none⟩) (List.length lr) cr])/\U64 w' aq cq lq q/\ON w' g cr C lr r/\w.heap.size<=g)/\Below w.heap.size w w'
theorem Qkj(a1 a2:Vx)(c1 c2 n:Nat)(l m:Vy)(x y:Nat)(w:Vz)(G:U64 w a1 c1 l x)(F:U64 w a2 c2 m y)(bx:y<=x)(hm:m.length=n+2)(bz:l.length<1099511627770):
 Calls prog 180 #[.slice a1 l.length c1,.slice a2 m.length c2] w (QRo w (x / y) (x % y)):=by
 have HC:=Hi (Qdb a1 a2 c1 c2 l m x y w G F);have bs:¬(cmp3 x y<0):=fun h=>by have:=(Qau x y).1 h;omega
 have a5:m.length<=l.length:=by
  apply bC;intro hc;have:=Qat (B:=18446744073709551616) (by decide) G.num.small F.num.trim (by omega);rw[G.num.eq,F.num.eq] at this;omega
 obtain⟨b0,ab,O,hy,P,a6,a7⟩:=Qki (N:=n+1) F.num hm;obtain⟨b,o,rfl,a8,H⟩:=F.row.cell (n+1) (by omega);rw[O] at H;obtain⟨s,f,hs,ad,ae⟩:=Qfw ab a6 a7;have t:=Hi (fun w=>Qfv (ab:Int) w (by omega) (by omega));rw[hs] at t;obtain⟨N,hN⟩:=nm m.length;obtain⟨p,hp⟩:=nm (n+1);have af:N=p+1:=by omega
 rw[hp] at H;obtain⟨H1,H2⟩:=Ia G F;rw[hN] at HC;rw[hN];have R:=Qab (B:=18446744073709551616) (by decide) G.num.small;rw[G.num.eq] at R;obtain⟨a9,HY⟩:=Ia R hy;have q1:((N:Int) == 1)=false:=by rw[beq_eq_false_iff_ne];omega
 have b1:IntKind.i64.wrap ((N:Int) - 1)=(p:Int):=by rw[Qar _ (by omega) (by omega)];omega
 obtain⟨ba,bb,ag,HP,ah,HM,HN⟩:=If ad ae P hp af hm hN;have b2:1<=N:=by omega
 have b3:p<N:=by omega
 have bt:(p:Int)<(N:Int):=by omega
 have b4:2<=N:=by omega
 rw[hN] at a5;clear G F hy hs O R ad ae P hp af hm hN;go_enter func180,ntmps180;go_wp2_with fail;go_fit HC.o;rintro e w1 ⟨rfl,v⟩;have I:=Hi v;have b5:=ce v a8 H;clear v HC H;go_wp2_with fail;go_fit (t.o _);rintro e w2 ⟨rfl,hw⟩;subst hw;clear t;go_wp2_with fail;go_fit (Qkt a1 c1 s l x _ (H1.o.below I.o) (by omega) f);rintro e S ⟨⟨us,rfl,d,E,ai,aj⟩,v⟩;have ak:=Hi (I.o.trans (v.mono I.o.size));have bu:=d.lt;have T:=Qkt (some ⟨b,o,none⟩) c2 s m y S (H2.o.below ak.o) (by have:=HN.o;omega) f;rw[HN.o] at T;obtain⟨al,U,V,am,W⟩:=Id T d E ai aj;clear v d E ai aj T;go_wp2_with fail;go_fit al.o;rintro e w4 ⟨⟨vs,rfl,X,an,ao,ap⟩,v⟩;have aq:=Hi v;have bv:=X.lt
 have ar:=Hi (Qc9 S.heap.size (N+1) (N+1) (y*2 ^ s) vs w4 X an ao lZ (by omega) ap);clear v X an ao ap al;go_wp2_with fail;go_fit ar.o;rintro e w5 ⟨⟨md,rfl,J⟩,hw⟩;subst hw;have A:=Qsp (N:=N) (by omega) (by have h:=HY.o;rw[HP.o,show p=N - 1 by have:=ah.o;omega] at h;exact h) (by have h:=ag.o;rw[HP.o,show p=N - 1 by have:=ah.o;omega] at h;exact h) f ba.o bb.o J.num;rw[A.1];obtain⟨D,hD⟩:=nm (y*2 ^ s);rw[hD] at J A;obtain⟨M,hM,b6⟩:∃M,M+N=l.length+1/\1<=M:=⟨l.length+1 - N,by omega,by omega⟩;obtain⟨bc,au,av,bd,be⟩:=Id A.1 A.2.1 A.2.2 J hD;clear J A hD ar;have wm:IntKind.i64.wrap ((l.length:Int)+1 - (N:Int))=(M:Int):=by rw[Qar _ (by omega) (by omega)];omega
 have b7:(l.length:Int)+1 - (N:Int)=(M:Int):=by omega
 have bf:=
  fun w=>Qc7 _ M rfl (by omega) w
 have C:=Hi hM;clear hM;go_wp2_with fail;clear bf;have bg:=Nat.lt_of_lt_of_le (Nat.mul_pos (by decide) (Nat.pow_pos (by decide))) av.o;have bw:=I.o.size;go_loopw [11] (fun i wr=>∃(k:Nat) (us qs:Vy),k<=M/\i=.int .i64 ((k:Int) - 1)/\Blk .u64 190 wr w2.heap.size us/\Blk .u64 190 wr w5.heap.size qs/\U64 wr (some ⟨S.heap.size,0,none⟩) (N+1) md D/\DInv (x*2 ^ s) D N M k us qs/\Below w.heap.size w wr) (fun i _=>(intOf i+1).toNat)
 case atStart=>
  refine⟨M,us,zeros M,Nat.le_refl _,rfl,(U.o.below aq.o (by omega)).alloc _,Blk.new _ _ _ _,bd.o.below (bR.alloc lZ _),⟨?_,Qag _,am.o,Qam _ _ (by decide),?_,?_⟩,(ak.o.trans (aq.o.mono (by omega))).alloc (by omega) _⟩
  . rw[V.o];have:=C.o;omega
  . rw[List.drop_of_length_le (by rw[Qag];exact Nat.le_refl _),Qcx,Nat.mul_zero,Nat.mul_zero,Nat.add_zero];exact W.o
  . exact Qsq a9.o C.o (by omega) f av.o (by rw[V.o];have:=C.o;omega) W.o
 case round=>
  clear U V am W;obtain⟨k,us,qs,hk,rfl,d,K,L,g,v⟩:=hrel;obtain⟨U,bh,bi,HI,HB⟩:=Id d K L g v;by_cases h0:k=0
  .
   subst h0;have a:=g.rem;have Y:=g.eq;rw[List.drop_zero] at a;rw[List.drop_zero,Nat.pow_zero,Nat.one_mul] at Y;have aw:=Hi (Qgb (Nat.two_pow_pos s) rfl be.o Y a);have ax:val 18446744073709551616 (us.take N)=val 18446744073709551616 us:=by
    have G:=Qga 18446744073709551616 (by decide) us N (Nat.lt_trans a au.o) (by rw[g.ul];omega);have F:=Qak 18446744073709551616 us N (by rw[g.ul];omega);rw[G,Nat.mul_zero,Nat.add_zero] at F;exact F.symm
   have E:us.length=l.length+1:=by rw[g.ul];exact C.o
   have bj:=Hi (Qc9 w5.heap.size M M (x / y) qs wr.drew K.drew g.ql g.sq lZ (by omega) aw.o.1);have Z:=Qsu (some ⟨w2.heap.size,0,none⟩) (l.length+1) s (us.take N) wr.drew ((d.drew).row N (by omega) (l.length+1) (by omega)) (g.su.take N) (by rw[List.length_take];omega) f;rw[List.length_take,Nat.min_eq_left (by omega),ax,aw.o.2] at Z;have bk:=Hi Z;clear a Y ax E d K L g v Z;go_wp2_with fail;have iN:(0:Int)<=(N:Int):=by omega
   have b8:(N:Int)<=(l.length:Int)+1:=by omega
   go_region_held3 (fun _=>True) (trivial) (first
    |(
     go_at_call 187;go_fit bj.o;rintro e w6 ⟨⟨r,rfl,hu⟩,hw⟩;subst hw;have HU:=Hi hu
     clear hu)
    |(
     go_at_call 220;go_fit bk.o;rintro e w7 ⟨⟨C7,lr,rfl,ay⟩,az⟩;obtain⟨bl,a0⟩:=Ia ay az
     clear ay az))
   go_wp2;go_ret2;exact⟨⟨_,_,r,_,_,C7,lr,rfl,HU.o.below a0.o,bl.o,HB.o.size⟩,HB.o.drew.trans (a0.o.mono HB.o.size)⟩
  .
   obtain⟨j,rfl⟩:∃j,k=j+1:=⟨k - 1,by omega⟩;obtain⟨z,hz⟩:=nm (qs.getD j 0);have a3:j<M:=by omega
   have bm:j+N<=l.length:=by have:=C.o;omega
   have E:us.length=l.length+1:=by rw[g.ul];exact C.o
   have hS:=Qtp w2.heap.size j n (l.length+1 - j) N p us (some ⟨S.heap.size,0,none⟩) (N+1) md D wr d g.su L bc.o (by have:=HM.o;have:=HN.o;omega) HP.o.symm (fun b' o' h=>by
    obtain⟨rfl,rfl⟩:S.heap.size=b'/\0=o':=by simpa using h
    omega) (by omega) (by have:=g.zero (by omega) au.o;rw[show j+N+1=j+1+N by omega];exact this) (g.win a3 bg) (by omega)
   obtain⟨HS,bn,HZ⟩:=Ib hS g.ql hz;have ei:((j+1:Nat):Int) - 1=(j:Int):=by omega
   rw[ei];clear ei d K L g v hz hS;go_wp2_with fail;rw[show j+N+1 - j=N+1 by omega];go_fit HS.o;rintro e w6 ⟨q,bo,rfl,hq,c,Q,a⟩;have u:=bh.o.onlyG c.only (by omega);have g1:=u.free j;have g2:=u.cell j (by have:=bn.o;omega);rw[HZ.o] at g2;obtain⟨bp,a4,aa⟩:=Ib (HI.o.next a3 c.len c.small hq Q a) u c;clear u c Q a HS;go_wp2;go_roundw
   case rel=>
    have bq:=HB.o.size;refine⟨j,bo,qs.set j q,by omega,by go_num,aa.o.blk.other (by omega) _ _,a4.o.set j q,?_,bp.o,(HB.o.trans (aa.o.only.below (by omega) bq)).setCell (by show w.heap.size<=w5.heap.size;omega) _⟩;have br:=bi.o.onlyG aa.o.only (fun b' o' h=>by
     obtain⟨rfl,rfl⟩:S.heap.size=b'/\0=o':=by simpa using h
     omega)
    exact br.onlyG ((Only.refl w5.heap.size w6).setCell _ _) (fun b' o' h=>by
     obtain⟨rfl,rfl⟩:S.heap.size=b'/\0=o':=by simpa using h
     omega)
   case measure=>simp[intOf]
theorem Qst(a b:Vx)(c1 c2 n:Nat)(l m:Vy)(x y:Nat)(w:Vz)(f:U64 w a c1 l x)(h:U64 w b c2 m y)(c:y<=x)(i:m.length=n+2)(d:l.length<1099511627770):
 Calls prog 180 #[.slice a l.length c1,.slice b m.length c2] w (QR w (x / y) (x % y)):=by
 refine(Qkj a b c1 c2 n l m x y w f h c i d).mono ?_;rintro e w' ⟨⟨j,k,o,g,p,C,q,rfl,r,s,_⟩,t⟩;exact⟨⟨j,k,o,_,p,q,rfl,r,s.u64⟩,t⟩
theorem Qkn(a b:Vx)(c1 c2:Nat)(l m:Vy)(x y:Nat)(w:Vz)(d:U64 w a c1 l x)(c:U64 w b c2 m y)(i:0<y)(e:l.length<1099511627770):
 Calls prog 180 #[.slice a l.length c1,.slice b m.length c2] w (QR w (x / y) (x % y)):=by
 by_cases f:x<y
 . exact Qsm a b c1 c2 l m x y w d c f
 .
  have j:m.length≠0:=fun h=>by have:=(c.num.len_zero (by decide)).2 h;omega
  by_cases g:m.length=1
  . exact Qso a b c1 c2 l m x y w d c (by omega) i g
  . exact Qst a b c1 c2 (m.length - 2) l m x y w d c (by omega) (by omega) e
def Nat64(w:Vz)(n:Nat)(e:Ending)(w':Vz):Prop:=(∃a cap l,e=.returned (.slice a (List.length l) cap)/\U64 w' a cap l n)/\Below w.heap.size w w'
theorem Qs5(b c:Vx)(c1 c2:Nat)(l m:Vy)(x y:Nat)(w:Vz)(d:U64 w b c1 l x)(f:U64 w c c2 m y)(p:0<y)(g:l.length<1099511627770):
 Calls prog 126 #[.slice b l.length c1,.slice c m.length c2] w (Nat64 w (x / y)):=by
 obtain⟨a,h,q⟩:=Ib (Qda c c2 m y w f) (Qkn b c c1 c2 l m x y w d f p g) d;clear d f;by_cases i:y=1
 .
  rw[show decide (y=1)=true by simpa using i] at a;go_enter func126,ntmps126;go_wp2_with fail;go_fit a.o;rintro e r ⟨rfl,j⟩;subst j;clear a h;go_wp2;go_ret;exact⟨⟨b,c1,l,rfl,by rw[i,Nat.div_one];exact q.o⟩,Below.refl _ _⟩
 .
  rw[show decide (y=1)=false by simpa using i] at a;go_enter func126,ntmps126;go_wp2_with fail;go_fit a.o;rintro e r ⟨rfl,j⟩;subst j;go_wp2_with fail;go_fit h.o;rintro e B ⟨⟨s,t,u,C,D,E,rfl,k,v⟩,n⟩;obtain⟨z,A⟩:=Ia k n;clear k v n a h;go_wp2;go_ret;exact⟨⟨s,t,u,rfl,z.o⟩,A.o⟩
theorem Qs6(x y:Nat)(w:Vz)(j:x<18446744073709551616)(k:y<18446744073709551616):
 Calls prog 182 #[.int .u64 x,.int .u64 y] w fun e w'=>e=.returned (.int .u64 ((Nat.gcd x y:Nat):Int))/\Below w.heap.size w w':=by
 obtain⟨G,hG⟩:=nm (Nat.gcd x y);rw[hG];have l:=Hi hG;clear hG;go_enter func182,ntmps182;go_wp2;go_loopw [0,1] (fun m g wr=>∃a b:Nat,m=.int .u64 a/\g=.int .u64 b/\a<18446744073709551616/\b<18446744073709551616/\Nat.gcd a b=G/\Below w.heap.size w wr) (fun _ g _=>(intOf g).toNat)
 case atStart=>exact⟨x,y,rfl,rfl,j,k,l.o,Below.refl _ _⟩
 case round=>
  obtain⟨a,b,rfl,rfl,t,n,h,c⟩:=hrel;obtain⟨d,i⟩:=Ia h c;clear h c;by_cases p:b=0
  .
   subst p;go_wp2;go_ret;exact⟨by rw[<-d.o,Nat.gcd_zero_right];rfl,i.o⟩
  .
   obtain⟨r,f⟩:=nm (a % b);have q:r<b:=by rw[<-f];exact Nat.mod_lt _ (by omega)
   have d1:(a:Int) % (b:Int)=(r:Int):=by rw[<-f];rfl
   have d2:Int.tmod (a:Int) (b:Int)=(r:Int):=by rw[<-f];rfl
   have u:((b:Int) != 0)=true:=by rw[bne_iff_ne];omega
   have v:((b:Int) == 0)=false:=by rw[beq_eq_false_iff_ne];omega
   have s:=Hi f;clear f;go_wp2_with fail;go_region
   all_goals
    go_wp2;go_roundw
    case rel=>exact⟨b,r,rfl,rfl,n,by omega,by rw[<-d.o,<-s.o,Nat.gcd_comm a b,Nat.gcd_rec b a,Nat.gcd_comm],i.o.drew⟩
    case measure=>simp[intOf];omega
theorem Qs7(a:Vx)(f d:Nat)(l:Vy)(x:Nat)(w:Vz)(h:U64 w a f l x)(t:0<d)(J:d<18446744073709551616):
 Calls prog 183 #[.slice a l.length f,.int .u64 d] w fun e w'=>e=.returned (.int .u64 ((x % d:Nat):Int))/\Below w.heap.size w w':=by
 have U:=h.short;obtain⟨R,u⟩:=nm (x % d);rw[u];obtain⟨K,H⟩:=Ia u h;clear u h;go_enter func183,ntmps183;go_wp2;go_loopw [5,6] (fun r i wr=>∃(k c:Nat),k<=l.length/\c<d/\r=.int .u64 c/\i=.int .i64 ((k:Int) - 1)/\val 18446744073709551616 (l.drop k) % d=c/\Below w.heap.size w wr) (fun _ i _=>(intOf i+1).toNat)
 case atStart=>exact⟨l.length,0,Nat.le_refl _,t,rfl,rfl,by rw[List.drop_of_length_le lZ,Qcx,Nat.zero_mod],Below.refl _ _⟩
 case round=>
  obtain⟨k,r,hk,L,rfl,rfl,D,E⟩:=hrel;obtain⟨F,v⟩:=Ia D E;clear D E;by_cases M:k=0
  .
   subst M;go_wp2;go_ret;exact⟨by rw[<-K.o,<-H.o.num.eq];have:=F.o;rw[List.drop_zero] at this;rw[this];rfl,v.o⟩
  .
   obtain⟨j,rfl⟩:∃j,k=j+1:=⟨k - 1,by omega⟩;obtain⟨b,N,rfl,P,y⟩:=(H.o.row.below v.o).cell j (by omega);obtain⟨z,s⟩:=nm (l.getD j 0);rw[s] at y;have A:z<18446744073709551616:=by rw[<-s];exact H.o.num.small.getD (by omega) j
   obtain⟨q,c,V,g,B,m⟩:=div64 r z d L A J;have n:=Hi m;have Q:O (val 18446744073709551616 (l.drop j) % d=c):=Hi (by
    rw[Qao _ l j (by omega),s];have G:=Nat.div_add_mod (val 18446744073709551616 (l.drop (j+1))) d;rw[F.o] at G
    rw[<-G,Nat.mul_add,show z+(18446744073709551616*(d*(val 18446744073709551616 (l.drop (j+1)) / d))+18446744073709551616*r)=d*(18446744073709551616*(val 18446744073709551616 (l.drop (j+1)) / d))+(d*q+c) by rw[Nat.mul_left_comm];omega,Nat.mul_add_mod,Nat.mul_add_mod,Nat.mod_eq_of_lt g])
   have I:((j+1:Nat):Int) - 1=(j:Int):=by omega
   rw[I];clear I m B s;go_wp2_with fail;go_fit (n.o _);rintro e S ⟨rfl,T,p⟩;have C:O (Bl w S):=Hi (by rw[p];exact Qgp v.o T);clear p n;go_wp2;go_roundw
   case rel=>exact⟨j,c,by omega,g,rfl,by go_num,Q.o,C.o⟩
   case measure=>simp[intOf]
theorem Qdd(x y c:Nat)(p:x<18446744073709551616)(q:y<18446744073709551616)(s:c<18446744073709551616):∃h l:Nat,h<18446744073709551616/\l<18446744073709551616/\l+18446744073709551616*h=x*y+c/\
 ∀w,Calls prog 213 #[.int .u64 x,.int .u64 y,.int .u64 c] w fun e w'=>e=.returned (.tuple #[.int .u64 (h:Int),.int .u64 (l:Int)])/\w'=w:=by
 obtain⟨h,l,u,hl,f,b⟩:=mul64 x y p q;obtain⟨r,c1,g,t,i,j⟩:=Qc8 l c hl s;have d:=Qgn (over:=c) p q;have a:r+18446744073709551616*(h+c1)=x*y+c:=by omega
 have k:h+c1<18446744073709551616:=by omega
 refine⟨h+c1,r,k,g,a,fun w=>?_⟩;have m:=Hi b;clear b f i a d;go_enter func213,ntmps213;go_wp2_with (first|(go_at_call 226;go_fit (m.o _);rintro e v ⟨rfl,n⟩;subst n)|simp only[j]);go_ret2;exact⟨by rw[Int.natCast_add];rfl,rfl⟩
theorem Qko{B k u v d e r i j l a b c f g:Nat}{rs xs m:Vy}(hk:k<rs.length)(n:xs.getD k 0=d)(o:m.getD k 0=e)(p:f+B*a=d*u+i)(q:g+B*b=e*v+j)(s:r+l+g=f+B*c)
 (h:val B (rs.take k)+v*val B (m.take k)+B ^ k*i=u*val B (xs.take k)+B ^ k*(j+l)):
 val B ((rs.set k r).take (k+1))+v*val B (m.take (k+1))+B ^ (k+1)*a=u*val B (xs.take (k+1))+B ^ (k+1)*(b+c):=by
 rw[take_set _ _ _ hk,Qal,List.length_take,Nat.min_eq_left (by omega),Qae,Qae,n,o,Nat.pow_succ,Nat.mul_add v,Nat.mul_add u];have t:B ^ k*(f+B*a)=B ^ k*(d*u+i):=by rw[p]
 have w:B ^ k*(g+B*b)=B ^ k*(e*v+j):=by rw[q]
 have x:B ^ k*(r+l+g)=B ^ k*(f+B*c):=by rw[s]
 rw[Nat.mul_add,Nat.mul_add,<-Nat.mul_assoc] at t w;rw[Nat.mul_add,Nat.mul_add,Nat.mul_add,<-Nat.mul_assoc] at x;rw[Nat.mul_add] at h;rw[Nat.mul_add,Nat.mul_left_comm v,Nat.mul_left_comm u,Nat.mul_comm v e,Nat.mul_comm u d];omega
structure Two (b c:Nat) (w w':Vz):Prop where
 os:w'.os=w.os
 tape:w'.tape=w.tape
 output:w'.output=w.output
 size:w.heap.size<=w'.heap.size
 block:∀k,k<w.heap.size->k≠b->k≠c->w'.heap[k]?=w.heap[k]?
theorem Two.refl(b c:Nat)(w:Vz):Two b c w w:=⟨rfl,rfl,rfl,Nat.le_refl _,fun _ _ _ _=>rfl⟩
theorem Two.swap{b c:Nat}{w w':Vz}(h:Two b c w w'):Two c b w w':=⟨h.os,h.tape,h.output,h.size,fun k hk a d=>h.block k hk d a⟩
theorem Two.set1{b c:Nat}{u w:Vz}(h:Two b c u w)(i:Nat)(v:Value):Two b c u (w.setCell ⟨b,i,none⟩ v):=
 ⟨h.os,h.tape,h.output,by simpa [World.setCell] using h.size,fun k hk a d=>by rw[Below.heap_setCell _ _ _ _ a];exact h.block k hk a d⟩
theorem Two.set2{b c:Nat}{u w:Vz}(h:Two b c u w)(i:Nat)(v:Value):Two b c u (w.setCell ⟨c,i,none⟩ v):=(h.swap.set1 i v).swap
theorem Two.below{b c B:Nat}{w w':Vz}(h:Two b c w w')(a:B<=b)(d:B<=c)(e:B<=w.heap.size):Below B w w':=⟨h.os,h.tape,h.output,h.size,fun k hk=>h.block k (by omega) (by omega) (by omega)⟩
theorem Pre.other{w:Vz}{g a:Nat}{rs:Vy}(h:Pre w g rs)(b:g≠a)(i:Nat)(v:Value):Pre (w.setCell ⟨a,i,none⟩ v) g rs:=by
 obtain⟨C,h,c⟩:=h;refine⟨C,?_,c⟩;unfold SB at h ⊢;rw[Below.heap_setCell _ _ _ _ b];exact h
def Took(n u v:Nat)(V xs ys:Vy):Prop:=∃o p q:Nat,val 18446744073709551616 (V.take n)+v*val 18446744073709551616 (ys.take n)+18446744073709551616 ^ n*o=u*val 18446744073709551616 (xs.take n)+18446744073709551616 ^ n*(p+q)
theorem Took.end{n u v x y z:Nat}{V xs a:Vy}(h:Took n u v V xs a)(e:Small 18446744073709551616 V)(f:n<=V.length)(g:∃t,x=val 18446744073709551616 (xs.take n)+18446744073709551616 ^ n*t)(i:∃t,y=val 18446744073709551616 (a.take n)+18446744073709551616 ^ n*t)(j:u*x=v*y+z)(b:z<18446744073709551616 ^ n):
 val 18446744073709551616 (V.take n)=z:=by
 obtain⟨o,p,q,h⟩:=h;obtain⟨t,rfl⟩:=g;obtain⟨r,rfl⟩:=i;have d:=Qab (B:=18446744073709551616) (by decide) (e.take n);rw[List.length_take,Nat.min_eq_left f] at d;generalize val 18446744073709551616 (V.take n)=A at*;generalize val 18446744073709551616 (xs.take n)=D at*;generalize val 18446744073709551616 (a.take n)=E at*;generalize 18446744073709551616 ^ n=M at*;have k:A+M*(o+u*t)=z+M*(p+q+v*r):=by
  have l:u*(D+M*t)=u*D+M*(u*t):=by rw[Nat.mul_add,Nat.mul_left_comm]
  have m:v*(E+M*r)=v*E+M*(v*r):=by rw[Nat.mul_add,Nat.mul_left_comm]
  rw[l,m] at j;rw[Nat.mul_add,Nat.mul_add M (p+q)];omega
 have c:=congrArg (· % M) k;simp only[Nat.add_mul_mod_self_left] at c;rw[Nat.mod_eq_of_lt d,Nat.mod_eq_of_lt b] at c;exact c
theorem Qkp(j l n cx cy a b c d:Nat)(X Y:Vy)(w:Vz)(hX:Pre w j X)(hY:Pre w l Y)(E:j≠l)(sX:Small 18446744073709551616 X)(sY:Small 18446744073709551616 Y)(nX:n<=X.length)(nY:n<=Y.length)(hn:n<=1099511627776)(bl:n<=cx)(bm:n<=cy)
 (ha:a<18446744073709551616) (hb:b<18446744073709551616) (hc:c<18446744073709551616) (hd:d<18446744073709551616):
 Calls prog 221 #[.slice (some ⟨j,0,none⟩) n cx,.slice (some ⟨l,0,none⟩) n cy,.int .u64 a,.int .u64 b,.int .u64 c,.int .u64 d] w fun e w'=>e=.returned (.tuple #[])/\
  ∃g i,Pre w' j g/\Pre w' l i/\g.length=X.length/\i.length=Y.length/\Small 18446744073709551616 g/\Small 18446744073709551616 i/\Took n a b g X Y/\Took n c d i Y X/\Two j l w w':=by
 obtain⟨av,aw,F,G⟩:=Ic hX hY sX sY;have H:l≠j:=fun h=>E h.symm
 clear hX hY sX sY;go_enter func221,ntmps221;go_wp2;go_loopw [12,13,14,15,16,17,31] (fun ax ay az a0 a1 a2 iv wr=>∃(k y z A B C D:Nat) (g i:Vy),k<=n/\y<18446744073709551616/\z<18446744073709551616/\A<18446744073709551616/\B<18446744073709551616/\C<=1/\D<=1/\
  ax=.int .u64 y/\ay=.int .u64 z/\az=.int .u64 A/\a0=.int .u64 B/\a1=.int .u64 C/\a2=.int .u64 D/\iv=.int .i64 k/\Pre wr j g/\Pre wr l i/\g.length=X.length/\i.length=Y.length/\Small 18446744073709551616 g/\Small 18446744073709551616 i/\
  (∀p,k<=p->g.getD p 0=X.getD p 0)/\(∀p,k<=p->i.getD p 0=Y.getD p 0)/\
  val 18446744073709551616 (g.take k)+b*val 18446744073709551616 (Y.take k)+18446744073709551616 ^ k*y=a*val 18446744073709551616 (X.take k)+18446744073709551616 ^ k*(z+C)/\
  val 18446744073709551616 (i.take k)+d*val 18446744073709551616 (X.take k)+18446744073709551616 ^ k*A=c*val 18446744073709551616 (Y.take k)+18446744073709551616 ^ k*(B+D)/\Two j l w wr) (fun _ _ _ _ _ _ iv _=>n - (intOf iv).toNat)
 case atStart=>exact⟨0,0,0,0,0,0,0,X,Y,by omega,by omega,by omega,by omega,by omega,by omega,by omega,rfl,rfl,rfl,rfl,rfl,rfl,rfl,av.o,aw.o,rfl,rfl,F.o,G.o,fun _ _=>rfl,fun _ _=>rfl,by simp[val],by simp[val],Two.refl _ _ _⟩
 case round=>
  obtain⟨k,y,z,A,B,C,D,g,i,hk,a3,a4,a5,a6,a7,a8,rfl,rfl,rfl,rfl,rfl,rfl,rfl,I,J,lX,lY,tX,tY,rX,rY,eX,eY,K⟩:=hrel;obtain⟨HP,HQ,m,q,L,M,N,O,t⟩:=Ih I J lX lY tX tY rX rY eX;obtain⟨x,P⟩:=Ia eY K;clear tX tY rX rY eX eY K;by_cases bn:k<n
  .
   obtain⟨u,Q⟩:=nm (X.getD k 0);obtain⟨v,R⟩:=nm (Y.getD k 0);have S:u<18446744073709551616:=by rw[<-Q];exact F.o.getD (by omega) k
   have T:v<18446744073709551616:=by rw[<-R];exact G.o.getD (by omega) k
   obtain⟨a9,lA,U,ba,V,W⟩:=Qdd u a y S ha a3;obtain⟨bb,lB,Z,bc,aa,ab⟩:=Qdd v b z T hb a4;obtain⟨bd,lC,ad,be,ae,af⟩:=Qdd v c A T hc a5;obtain⟨bf,lD,ag,bg,ah,ai⟩:=Qdd u d B S hd a6;obtain⟨r,bh,hr,aj,ak,bi⟩:=sub64 lA lB C ba bc a7;obtain⟨s,bj,hs,al,am,bk⟩:=sub64 lC lD D be bg a8;have g1:=I.free k;have g2:=I.cell k (by omega);rw[N.o k lZ,Q] at g2;have g3:=J.free k;have g4:=J.cell k (by omega);rw[O.o k lZ,R] at g4;obtain⟨an,ao,ap,aq,ar,au⟩:=Ie W ab af ai (Qko (by omega) Q R V aa ak t.o) (Qko (by omega) R Q ae ah am x.o);clear Q R W ab af ai V aa ae ah ak am I J lX lY;go_wp2_with fail;go_fit (an.o _);rintro e1 w1 ⟨rfl,f⟩;subst f;go_wp2_with fail;go_fit (ao.o _);rintro e1 w1 ⟨rfl,f⟩;subst f
   go_wp2_with fail;go_fit (ap.o _);rintro e1 w1 ⟨rfl,f⟩;subst f;go_wp2_with fail;go_fit (aq.o _);rintro e1 w1 ⟨rfl,f⟩;subst f;clear an ao ap aq;go_wp2_with (simp only[bi,bk]);go_roundw
   case rel=>
    refine⟨k+1,a9,bb,bd,bf,bh,bj,g.set k r,i.set k s,by omega,U,Z,ad,ag,aj,al,rfl,rfl,rfl,rfl,rfl,rfl,by go_num,(HP.o.set k r (by have:=m.o;omega)).other E _ _,(HQ.o.other H _ _).set k s (by have:=q.o;omega),by rw[List.length_set];exact m.o,by rw[List.length_set];exact q.o,L.o.set k hr,M.o.set k hs,?_,?_,ar.o,au.o,(P.o.set1 _ _).set2 _ _⟩
    .
     intro p hp;rw[getD_set_ne _ _ _ _ (by omega)];exact N.o p (by omega)
    .
     intro p hp;rw[getD_set_ne _ _ _ _ (by omega)];exact O.o p (by omega)
   case measure=>simp[intOf];omega
  .
   have e1:k=n:=by omega
   clear I J lX lY;go_wp2;go_end0;rw[e1] at t x;exact⟨rfl,g,i,HP.o,HQ.o,m.o,q.o,L.o,M.o,⟨y,z,C,t.o⟩,⟨A,B,D,x.o⟩,P.o⟩
structure LInv (a0 b0 st:Nat) (odd:Bool) (xx xy yx yy nX nY a b pa:Nat):Prop where
 ra:if odd then yx*a0=yy*b0+a else yy*b0=yx*a0+a
 rb:if odd then nY*b0=nX*a0+b else nX*a0=nY*b0+b
 ab:b≤a
 d1:if odd then yx*nY=yy*nX+1 else yy*nX=yx*nY+1
 n1:nX≤nY
 n2:1≤nY
 s0:st=0→odd=true∧xy=0∧yx=1∧yy=0∧nX=0
 s1:1≤st→yx≤yy∧1≤yy∧yy≤a∧a+xy+yy≤pa∧1≤nX
 dd:1≤st→if odd then xy*yx=xx*yy+1 else xx*yy=xy*yx+1
 rp:1≤st→if odd then xy*b0=xx*a0+pa else xx*a0=xy*b0+pa
 s2:st=1→xy=0
 s3:2≤st→xx≤xy∧1≤xy∧1≤yx
theorem LInv.start(a b:Nat)(h:b≤a):LInv a b 0 true 0 0 1 0 0 1 a b 0:=
 ⟨by simp,by simp,h,by simp,by omega,by omega,fun _=>⟨rfl,rfl,rfl,rfl,rfl⟩,fun h=>by omega,fun h=>by omega,fun h=>by omega,fun h=>by omega,fun h=>by omega⟩
theorem LInv.whole{d e n:Nat}{c:Bool}{o p f g i j a b q:Nat}(h:LInv d e n c o p f g i j a b q):d=j*a+g*b∧e=i*a+f*b:=by
 have k:=h.ra;have l:=h.rb;have m:=h.d1;cases c
 · simp only[Bool.false_eq_true,if_false] at k l m
   constructor<;>grind
 · simp only[if_true] at k l m
   constructor<;>grind
theorem LInv.next{v w l q r:Nat}{c:Bool}{A B m n g f a b C:Nat}(h:LInv v w l c A B m n g f a b C)(D:f≤b)(E:b+n+f≤a)(I:q*b+r=a)(J:r<b)(o:1≤q):
 LInv v w (min (l+1) 2) (!c) m n g f (m+q*g) (n+q*f) b r a:=by
 have d:=h.ra;have j:=h.rb;have k:=h.d1;have p:=h.n1;have s:=h.n2;have F:=Nat.mul_le_mul_left q p;have G:f≤q*f:=by have:=Nat.mul_le_mul_right f o;omega
 have H:g≤q*g:=by have:=Nat.mul_le_mul_right g o;omega
 have i:l=0∨1≤l:=by omega
 have t:m+q*g≤n+q*f:=by
  rcases i with e|e
  · obtain⟨_,_,x,y,z⟩:=h.s0 e
    rw[x,y,z,Nat.mul_zero];omega
  · have:=(h.s1 e).1;omega
 have u:1≤m+q*g:=by
  rcases i with e|e
  · obtain⟨_,_,x,y,z⟩:=h.s0 e
    omega
  · have:=(h.s1 e).2.2.2.2;omega
 refine⟨?_,?_,by omega,?_,t,by omega,fun e=>by omega,fun _=>⟨p,s,D,by omega,u⟩,fun _=>?_,fun _=>?_,fun e=>?_,fun e=>?_⟩
 ·
  cases c
  · simp only[Bool.not_false,if_true,Bool.false_eq_true,if_false] at j ⊢;exact j
  · simp only[Bool.not_true,Bool.false_eq_true,if_false,if_true] at j ⊢;exact j
 ·
  cases c
  · simp only[Bool.not_false,if_true,Bool.false_eq_true,if_false] at d j ⊢;grind
  · simp only[Bool.not_true,Bool.false_eq_true,if_false,if_true] at d j ⊢;grind
 ·
  cases c
  · simp only[Bool.not_false,if_true,Bool.false_eq_true,if_false] at k ⊢;grind
  · simp only[Bool.not_true,Bool.false_eq_true,if_false,if_true] at k ⊢;grind
 ·
  cases c
  · simp only[Bool.not_false,if_true,Bool.false_eq_true,if_false] at k ⊢;exact k
  · simp only[Bool.not_true,Bool.false_eq_true,if_false,if_true] at k ⊢;exact k
 ·
  cases c
  · simp only[Bool.not_false,if_true,Bool.false_eq_true,if_false] at d ⊢;exact d
  · simp only[Bool.not_true,Bool.false_eq_true,if_false,if_true] at d ⊢;exact d
 ·
  rcases i with d|d
  · exact(h.s0 d).2.2.2.1
  · omega
 · have d:1≤l:=by omega
   exact⟨(h.s1 d).1,(h.s1 d).2.1,(h.s1 d).2.2.2.2⟩
structure Lehm (odd:Bool) (xx xy yx yy x y X Y:Nat):Prop where
 fx:if odd then xy*y=xx*x+X else xx*x=xy*y+X
 fy:if odd then yx*x=yy*y+Y else yy*y=yx*x+Y
 le:Y≤X
 bx:x=yy*X+xy*Y
 by':y=yx*X+xx*Y
 p1:1≤xy
 p2:1≤yx
 p3:1≤yy
theorem Qed{u v z P:Nat}(b:z<P)(a:u≤v):u*z≤v*P:=Nat.mul_le_mul a (Nat.le_of_lt b)
theorem LInv.done{i j t:Nat}{g:Bool}{e d f c B C a b o P k l x y:Nat}(h:LInv i j t g e d f c B C a b o)(D:2≤t)(p:x=i*P+k)(q:y=j*P+l)(m:k<P)(n:l<P):∃X Y,Lehm g e d f c x y X Y:=by
 obtain⟨k1,k2,E,K,L⟩:=h.s1 (by omega);obtain⟨F,u,v⟩:=h.s3 D;have w:=h.ra;have z:=h.rp (by omega);have A:=h.dd (by omega);have M:=Qed m F;have N:=Qed n (Nat.le_refl d);have O:=Qed m k1;have Q:=Qed n (Nat.le_refl c);have R:d*P+c*P+a*P≤o*P:=by rw[←Nat.add_mul,←Nat.add_mul];exact Nat.mul_le_mul_right _ (by omega)
 have S:c*P≤a*P:=Nat.mul_le_mul_right _ E;cases g
 ·
  simp only[Bool.false_eq_true,if_false] at w z A;have G:e*x=d*(j*P)+o*P+e*k:=by rw[p];grind
  have H:d*y=d*(j*P)+d*l:=by rw[q];grind
  have I:c*y=f*(i*P)+a*P+c*l:=by rw[q];grind
  have J:f*x=f*(i*P)+f*k:=by rw[p];grind
  obtain⟨X,r⟩:∃X,e*x=d*y+X:=⟨e*x - d*y,by omega⟩;obtain⟨Y,s⟩:∃Y,c*y=f*x+Y:=⟨c*y - f*x,by omega⟩;refine⟨X,Y,by simpa using r,by simpa using s,by omega,?_,?_,u,v,k2⟩
  · grind
  · grind
 ·
  simp only[if_true] at w z A;have G:d*y=e*(i*P)+o*P+d*l:=by rw[q];grind
  have H:e*x=e*(i*P)+e*k:=by rw[p];grind
  have I:f*x=c*(j*P)+a*P+f*k:=by rw[p];grind
  have J:c*y=c*(j*P)+c*l:=by rw[q];grind
  obtain⟨X,r⟩:∃X,d*y=e*x+X:=⟨d*y - e*x,by omega⟩;obtain⟨Y,s⟩:∃Y,f*x=c*y+Y:=⟨f*x - c*y,by omega⟩;refine⟨X,Y,by simpa using r,by simpa using s,by omega,?_,?_,u,v,k2⟩
  · grind
  · grind
theorem Lehm.gcd{a:Bool}{b c d e x y X Y:Nat}(h:Lehm a b c d e x y X Y):Nat.gcd X Y=Nat.gcd x y:=by
 apply Nat.dvd_antisymm
 ·
  apply Nat.dvd_gcd
  · rw[h.bx]
    exact Nat.dvd_add (Nat.dvd_trans (Nat.gcd_dvd_left X Y) (Nat.dvd_mul_left X e)) (Nat.dvd_trans (Nat.gcd_dvd_right X Y) (Nat.dvd_mul_left Y c))
  · rw[h.by']
    exact Nat.dvd_add (Nat.dvd_trans (Nat.gcd_dvd_left X Y) (Nat.dvd_mul_left X d)) (Nat.dvd_trans (Nat.gcd_dvd_right X Y) (Nat.dvd_mul_left Y b))
 ·
  have j:=Nat.gcd_dvd_left x y;have k:=Nat.gcd_dvd_right x y;have f1:=h.fx;have f2:=h.fy;generalize Nat.gcd x y=g at*;have f:=fun u=>Nat.dvd_trans j (Nat.dvd_mul_left x u)
  have i:=fun u=>Nat.dvd_trans k (Nat.dvd_mul_left y u)
  apply Nat.dvd_gcd
  ·
   cases a
   · simp only[Bool.false_eq_true,if_false] at f1
     exact(Nat.dvd_add_right (i c)).1 (f1 ▸ f b)
   · simp only[if_true] at f1
     exact(Nat.dvd_add_right (f b)).1 (f1 ▸ i c)
  ·
   cases a
   · simp only[Bool.false_eq_true,if_false] at f2
     exact(Nat.dvd_add_right (f d)).1 (f2 ▸ i e)
   · simp only[if_true] at f2
     exact(Nat.dvd_add_right (i e)).1 (f2 ▸ f d)
theorem Lehm.less{a:Bool}{d e f g x y X Y:Nat}(h:Lehm a d e f g x y X Y)(i:0<y):X≤y∧X+Y<x+y:=by
 have j:=h.bx;have c:=h.by';have k:=Nat.mul_le_mul_right X h.p3;have l:=Nat.mul_le_mul_right Y h.p1;have m:=Nat.mul_le_mul_right X h.p2;have n:=h.le;have o:0<X:=by
  rcases Nat.eq_zero_or_pos X with b|b
  ·
   have:Y=0:=by omega
   rw[b,this] at c;simp at c;omega
  · exact b
 constructor<;>omega
theorem Qkl(d e s:Nat)(n:s<64)(f:d*2 ^ s<18446744073709551616)(i:e<18446744073709551616):∃lo g b r:Nat,IntKind.u64.wrap ((d:Int)*2 ^ s)=(lo:Int)/\(e:Int) / 2 ^ (64 - s)=(g:Int)/\bits .or .u64 (lo:Int) (g:Int)=(b:Int)/\b<18446744073709551616/\r<2 ^ (64 - s)/\b*2 ^ (64 - s)+r=e+18446744073709551616*d:=by
 have c:=Qbx (s:=s) (by omega);have j:=Qfy (lo:=e) (s:=s) (by omega) i;have o:=Nat.div_add_mod e (2 ^ (64 - s));have h:2 ^ s*d+e / 2 ^ (64 - s)<18446744073709551616:=by
  have k:d+1<=2 ^ (64 - s):=by
   apply Nat.lt_of_mul_lt_mul_left (a:=2 ^ s);rw[c,Nat.mul_comm];exact f
  have l:=Nat.mul_le_mul_left (2 ^ s) k;rw[c,Nat.mul_add,Nat.mul_one] at l;omega
 refine⟨d*2 ^ s,e / 2 ^ (64 - s),2 ^ s*d+e / 2 ^ (64 - s),e % 2 ^ (64 - s),?_,?_,?_,h,Nat.mod_lt _ (Nat.two_pow_pos _),?_⟩
 . rw[show (d:Int)*2 ^ s=((d*2 ^ s:Nat):Int) by rw[Int.natCast_mul,Int.natCast_pow];rfl,Qcc _ f]
 . rw[Int.natCast_ediv,Int.natCast_pow];rfl
 . exact or64 _ _ d (e / 2 ^ (64 - s)) s (by rw[Nat.mul_comm]) rfl j h
 .
  have m:2 ^ s*d*2 ^ (64 - s)=18446744073709551616*d:=by rw[Nat.mul_right_comm,c]
  rw[Nat.add_mul,m,Nat.mul_comm (e / 2 ^ (64 - s))];omega
theorem Qkm{l:Vy}{x N:Nat}(h:Num 18446744073709551616 l x)(hl:l.length<=N+2):∃a,a<18446744073709551616 ^ N/\x=a+18446744073709551616 ^ N*(l.getD N 0+18446744073709551616*l.getD (N+1) 0):=by
 refine⟨val 18446744073709551616 (l.take N),?_,?_⟩
 . have b:=Qab (B:=18446744073709551616) (by decide) (h.small.take N)
   exact Nat.lt_of_lt_of_le b (Nat.pow_le_pow_right (by decide) (by rw[List.length_take];omega))
 .
  have b:=Qae 18446744073709551616 l (N+1);rw[List.take_of_length_le (by omega),h.eq,Qae,Nat.pow_succ] at b;rw[b,Nat.mul_add,Nat.mul_assoc];omega
structure Highs (x y a b P x' y':Nat):Prop where
 hx:x=a*P+x'
 hy:y=b*P+y'
 hx':x'<P
 hy':y'<P
 ab:b<=a
 ha:a<18446744073709551616
theorem Qs3{x y c d N s d1 d0 e g a b r t:Nat}(h:y<=x)(i:x=c+18446744073709551616 ^ N*(d0+18446744073709551616*d1))(j:y=d+18446744073709551616 ^ N*(g+18446744073709551616*e))(k:c<18446744073709551616 ^ N)(l:d<18446744073709551616 ^ N)
 (m:a*2 ^ (64 - s)+r=d0+18446744073709551616*d1) (n:b*2 ^ (64 - s)+t=g+18446744073709551616*e) (o:r<2 ^ (64 - s)) (q:t<2 ^ (64 - s)) (f:a<18446744073709551616):∃P u v,Highs x y a b P u v:=by
 generalize 18446744073709551616 ^ N=M at*;generalize 2 ^ (64 - s)=p at*;have w:M*(r+1)<=M*p:=Nat.mul_le_mul_left M o;have z:M*(t+1)<=M*p:=Nat.mul_le_mul_left M q;rw[Nat.mul_add,Nat.mul_one] at w z;have e:x=a*(M*p)+(c+M*r):=by rw[i,<-m];grind
 have A:y=b*(M*p)+(d+M*t):=by rw[j,<-n];grind
 refine⟨M*p,c+M*r,d+M*t,e,A,by omega,by omega,?_,f⟩;apply bC;intro C;have B:(a+1)*(M*p)<=b*(M*p):=Nat.mul_le_mul_right _ (by omega);rw[Nat.add_mul,Nat.one_mul] at B;omega
theorem Qs4(N:Nat)(l m:Vy)(x y:Nat)(v:Num 18446744073709551616 l x)(E:Num 18446744073709551616 m y)(F:y<=x)(hl:l.length=N+2)(ad:l.length<=1099511627776):
 ∃a b:Nat,(∃P x' y',Highs x y a b P x' y')/\∀(W G:Vx) (c1 c2:Nat) (w:Vz),U64 w W c1 l x->U64 w G c2 m y->Calls prog 214 #[.slice W l.length c1,.slice G m.length c2] w fun e w'=>e=.returned (.tuple #[.int .u64 (a:Int),.int .u64 (b:Int)])/\Below w.heap.size w w':=by
 have H:m.length<=N+2:=by
  apply bC;intro hc;have:=Qat (B:=18446744073709551616) (by decide) v.small E.trim (by omega);rw[v.eq,E.eq] at this;omega
 have g:m.length<=1099511627776:=by omega
 obtain⟨lx,I,X⟩:=Qkm v (N:=N) (by omega);obtain⟨ly,J,Y⟩:=Qkm E (N:=N) H;obtain⟨d1,j⟩:∃d,l.getD (N+1) 0=d:=⟨_,rfl⟩;obtain⟨d0,n⟩:∃d,l.getD N 0=d:=⟨_,rfl⟩;obtain⟨f1,z⟩:∃d,m.getD (N+1) 0=d:=⟨_,rfl⟩;obtain⟨f0,q⟩:∃d,m.getD N 0=d:=⟨_,rfl⟩;have K:d1<18446744073709551616:=by rw[<-j];exact v.small.getD (by omega) _
 have M:d0<18446744073709551616:=by rw[<-n];exact v.small.getD (by omega) _
 have O:f0<18446744073709551616:=by rw[<-q];exact E.small.getD (by omega) _
 have Q:0<d1:=by
  obtain⟨_,t,V,_,_,h,_⟩:=Qki v (N:=N+1) (by omega);rw[<-j,V];exact h
 rw[j,n] at X;rw[z,q] at Y;have Z:f1<=d1:=by
  apply bC;intro hc;have k1:18446744073709551616 ^ N*(d0+18446744073709551616*d1+1)<=18446744073709551616 ^ N*(f0+18446744073709551616*f1):=Nat.mul_le_mul_left _ (by omega);rw[Nat.mul_add _ _ 1,Nat.mul_one] at k1;omega
 obtain⟨s,u,hs,R,k⟩:=Qfw d1 Q K;have c:=Hi (fun w=>Qfv (d1:Int) w (by omega) (by omega));rw[hs] at c;obtain⟨lo,hi,a,r,u1,u2,u3,aa,hr,S⟩:=Qkl d1 d0 s u k M;obtain⟨ae,af,b,t,v1,v2,v3,ag,V,T⟩:=Qkl f1 f0 s u (Nat.lt_of_le_of_lt (Nat.mul_le_mul_right _ Z) k) O;refine⟨a,b,Qs3 F X Y I J S T hr V aa,?_⟩;intro W G c1 c2 w h1 h2;obtain⟨b1,o1,rfl,ah,U⟩:=h1.row.cell (N+1) (by omega);obtain⟨b2,o2,e2,ai,ab⟩:=h1.row.cell N (by omega);obtain⟨rfl,rfl⟩:b1=b2/\o1=o2:=by simp at e2;exact e2
 clear e2;have f:=Qb3 G c2 m (N+1);have i:=Qb3 G c2 m N;rw[z] at f;rw[q] at i;rw[j] at U;rw[n] at ab;obtain⟨D,f,i⟩:=Ib h2 f i;obtain⟨L,hL⟩:=nm l.length;obtain⟨p,hp⟩:=nm (N+1);rw[hL];rw[hp] at U f;have w1:IntKind.i64.wrap ((L:Int) - 1)=(p:Int):=by rw[Qar _ (by omega) (by omega)];omega
 have w2:IntKind.i64.wrap ((L:Int) - 2)=(N:Int):=by rw[Qar _ (by omega) (by omega)];omega
 have w3:IntKind.i64.wrap (64 - (s:Int))=((64 - s:Nat):Int):=by rw[Qar _ (by omega) (by omega)];omega
 have i1:(p:Int)<(L:Int):=by omega
 have i2:(N:Int)<(L:Int):=by omega
 have A:p<=2199023255552:=by omega
 have C:N<=2199023255552:=by omega
 clear h1 h2 v E X Y I J S T hr V R k j n z q hs F hl H hp;go_enter func214,ntmps214;go_wp2_with fail;go_fit (c.o _);rintro e w2 ⟨rfl,hw⟩;subst hw;clear c;go_wp2_with fail;go_region
 all_goals
  go_wp2_with fail;go_region_held3 (fun _=>True) (trivial) (first
   |(
    go_at_call 224
    first
     |go_fit (f.o _ (D.o.row) g A)
     |go_fit (f.o _ (D.o.drew.row) g A)
     |go_fit (f.o _ (D.o.drew.drew.row) g A)
     |go_fit (i.o _ (D.o.row) g C)
     |go_fit (i.o _ (D.o.drew.row) g C)
     |go_fit (i.o _ (D.o.drew.drew.row) g C)
    rintro e w6 ⟨rfl,hw⟩
    subst hw))
  all_goals
   go_wp2;go_ret2;exact⟨rfl,bR.drew.drew⟩
theorem SB.apart{w:Vz}{b g:Nat}{t:Vr}{C:Vw}(h:SB w b t C)(a:b≠g)(i:Nat)(v:Value):SB (w.setCell ⟨g,i,none⟩ v) b t C:=by
 unfold SB at h ⊢;rw[Below.heap_setCell _ _ _ _ a];exact h
def StepsVal(odd:Bool)(xx xy yx yy:Nat):Value:=.agg #[.int .u64 xx,.int .u64 xy,.int .u64 yx,.int .u64 yy,.bool odd]
structure Steps (x y:Nat) (odd:Bool) (xx xy yx yy:Nat):Prop where
 bxx:xx<18446744073709551616
 bxy:xy<18446744073709551616
 byx:yx<18446744073709551616
 byy:yy<18446744073709551616
 go:0<xy->∃X Y,Lehm odd xx xy yx yy x y X Y
def StepsSaid(x y:Nat)(w:Vz)(e:Ending)(w':Vz):Prop:=(∃odd xx xy yx yy,e=.returned (StepsVal odd xx xy yx yy)/\Steps x y odd xx xy yx yy)/\Below w.heap.size w w'
theorem LInv.small{d k f:Nat}{g:Bool}{l m i c j e a b n:Nat}(h:LInv d k f g l m i c j e a b n)(o:1<=b):j<=d/\e+c<=d/\i<=d+1:=by
 have p:=h.whole;have q:=h.ab;have r:e*1<=e*a:=Nat.mul_le_mul_left _ (by omega);have s:c*1<=c*b:=Nat.mul_le_mul_left _ o;have t:=h.n1;have u:i<=c+1:=by
  rcases(show f=0∨1<=f by omega) with h0|h0
  . have:=h.s0 h0;omega
  . have:=h.s1 h0;omega
 refine⟨by omega,by omega,by have:=h.n2;omega⟩
theorem LInv.step{j o p:Nat}{g:Bool}{t w k f i c a b x:Nat}(h:LInv j o p g t w k f i c a b x)(y:c<=b)(l:b+f+c<=a):∃q r u v d e:Nat,(a:Int) / (b:Int)=(q:Int)/\Int.tdiv (a:Int) (b:Int)=(q:Int)/\(a:Int) % (b:Int)=(r:Int)/\Int.tmod (a:Int) (b:Int)=(r:Int)/\(q:Int)*(i:Int)=(u:Int)/\(q:Int)*(c:Int)=(v:Int)/\(k:Int)+(u:Int)=(d:Int)/\(f:Int)+(v:Int)=(e:Int)/\
 d<=j/\e<=j/\u<=d/\v<=e/\r<b/\q<=a/\LInv j o (min (p+1) 2) (!g) k f i c d e b r a:=by
 have z:=h.n2;have A:a / b*b+a % b=a:=by rw[Nat.mul_comm];exact Nat.div_add_mod a b
 have s:a % b<b:=Nat.mod_lt _ (by omega);have m:1<=a / b:=(Nat.one_le_div_iff (by omega)).2 (by omega);have n:=h.next y l A s m;have B:=n.whole;have C:=n.n1;have D:(f+a / b*c)*1<=(f+a / b*c)*b:=Nat.mul_le_mul_left _ (by omega);refine⟨a / b,a % b,a / b*i,a / b*c,k+a / b*i,f+a / b*c,rfl,rfl,rfl,rfl,(Int.natCast_mul _ _).symm,(Int.natCast_mul _ _).symm,(Int.natCast_add _ _).symm,(Int.natCast_add _ _).symm,by omega,by omega,by omega,by omega,s,Nat.div_le_self _ _,n⟩
theorem Tryz.stepsInfo:(prog.info? 218).map (·.size)=some 5:=by kernel_rfl
theorem LInv.steps{j k d:Nat}{c:Bool}{e f g i l m a b n P o p x y:Nat}(h:LInv j k d c e f g i l m a b n)(H:Highs x y j k P o p)(q:e<18446744073709551616)(r:f<18446744073709551616)(s:g<18446744073709551616)(t:i<18446744073709551616):Steps x y c e f g i:=by
 refine⟨by omega,by omega,by omega,by omega,fun u=>?_⟩;rcases(show d=0∨d=1∨2<=d by omega) with h1|h1|h1
 . have:=h.s0 h1;omega
 . have:=h.s2 h1;omega
 . exact h.done h1 H.hx H.hy H.hx' H.hy'
theorem Qs8(M O:Vx)(c1 c2 N:Nat)(l m:Vy)(x y:Nat)(w:Vz)(I:U64 w M c1 l x)(Q:U64 w O c2 m y)(D:y<=x)(hl:l.length=N+2):
 Calls prog 178 #[.slice M l.length c1,.slice O m.length c2] w (StepsSaid x y w):=by
 obtain⟨J,S,⟨P,x',y',K⟩,hC⟩:=Qs4 N l m x y I.num Q.num D hl I.short;obtain⟨HC,HH⟩:=Ia hC K;have an:=K.ha;have T:=K.ab;obtain⟨H1,H2⟩:=Ia I Q;clear K hC I Q D hl;go_enter func178,ntmps178;go_wp2_with fail;go_fit (HC.o M O c1 c2 _ (H1.o.below (bR.alloc lZ _)) (H2.o.below (bR.alloc lZ _)));rintro e w1 ⟨rfl,B⟩;have HB:=Hi ((bR.alloc lZ _).trans (B.mono (by rw[World.size_alloc];omega)));have d:=SB.below (SB.new w _ _) B (by rw[World.size_alloc];omega);obtain⟨R,E⟩:=nm w.heap.size;obtain⟨g,L⟩:=nm w1.heap.size;have i:R<g:=by rw[<-L,<-E];exact d.lt
 have HS:=Hi d;rw[E] at HB HS;clear B HC d;go_wp2_with fail
 try rw[L]
 try rw[E]
 obtain⟨HG,HR⟩:=Ia L E;clear L E;go_loopw [5,6,8,9] (fun av U V W wr=>∃(X:Nat) (c:Bool) (k n j f F p a b pa:Nat),av=.int .u64 a/\U=.int .u64 b/\V=.int .u64 F/\W=.int .u64 p/\a<=J/\F<18446744073709551616/\p<18446744073709551616/\k<18446744073709551616/\n<18446744073709551616/\j<18446744073709551616/\f<18446744073709551616/\LInv J S X c k n j f F p a b pa/\
  SB wr g 218 #[.int .u64 k,.int .u64 n,.int .u64 j,.int .u64 f,.bool c]/\SB wr R 218 #[.int .u64 0,.int .u64 0,.int .u64 0,.int .u64 0,.bool false]/\Below R w wr) (fun _ U _ _ _=>(intOf U).toNat)
 case atStart=>
  refine⟨0,true,0,0,1,0,0,1,J,S,0,rfl,rfl,rfl,rfl,by omega,by omega,by omega,by omega,by omega,by omega,by omega,LInv.start J S T,?_,HS.o.alloc _,HB.o.alloc (by rw[HG.o];omega) _⟩;rw[<-HG.o];exact SB.new _ _ _
 case round=>
  obtain⟨X,c,k,n,j,f,F,p,a,b,pa,rfl,rfl,rfl,rfl,ao,Y,Z,G,H,s,t,hL,d,h,B⟩:=hrel;obtain⟨C,aa,z,A⟩:=Ic hL d h B;have k0:=d.cell 0;have k1:=d.cell 1;have k2:=d.cell 2;have k3:=d.cell 3;have k4:=d.cell 4;have f0:=d.free 0;have f1:=d.free 1;have f2:=d.free 2;have f3:=d.free 3;have f4:=d.free 4;have r0:=h.cell 0;have r1:=h.cell 1;have r2:=h.cell 2;have r3:=h.cell 3;have r4:=h.cell 4;have q0:=h.free 0;have q1:=h.free 1;have q2:=h.free 2;have q3:=h.free 3;have q4:=h.free 4;simp at k0 k1 k2 k3 k4 r0 r1 r2 r3 r4;have ap:=hL.ab;clear d h B hL;by_cases ad:p<=b
  .
   have ae:=C.o.small (by have:=C.o.n2;omega);obtain⟨ai,aj,ak⟩:=ae;by_cases af:b+f+p<=a
   .
    obtain⟨q,r,u,v,ag,ah,d1,d2,d3,d4,d5,d6,d7,d8,al,am,hu,hv,h,aq,hN⟩:=C.o.step ad af;have HN:=Hi hN;clear hN;have t1:((b:Int) == 0)=false:=by rw[beq_eq_false_iff_ne];have:=C.o.n2;omega
    have t2:decide ((f:Int)+(p:Int)<=(a:Int) - (b:Int))=true:=by simp;omega
    clear r0 r1 r2 r3 r4 q0 q1 q2 q3 q4;go_wp2_with fail;go_region
    all_goals
     go_wp2;refine⟨⟨min (X+1) 2,!c,j,f,F,p,ag,ah,b,r,a,rfl,rfl,rfl,rfl,by omega,by omega,by omega,s,t,Y,Z,HN.o,?_,?_,?_⟩,?_⟩
     . exact SB.drew (((((aa.o.set 0 _).set 2 _).set 1 _).set 3 _).set 4 _)
     . refine SB.drew (SB.apart (SB.apart (SB.apart (SB.apart (SB.apart z.o ?_ 0 _) ?_ 2 _) ?_ 1 _) ?_ 3 _) ?_ 4 _)
       all_goals omega
     . exact(((((A.o.setCell (Nat.le_of_lt i) _).setCell (Nat.le_of_lt i) _).setCell (Nat.le_of_lt i) _).setCell (Nat.le_of_lt i) _).setCell (Nat.le_of_lt i) _).drew
     . simp[intOf];omega
   .
    have t1:((a:Int) - (b:Int)≥(f:Int)+(p:Int))=False:=by simp;omega
    have t2:decide ((f:Int)+(p:Int)<=(a:Int) - (b:Int))=false:=by simp;omega
    go_wp2;refine bodyPost_ret (v:=StepsVal c k n j f) (results_cell_row rfl _ _ R 218 #[.int .u64 k,.int .u64 n,.int .u64 j,.int .u64 f,.bool c] (0,0) _ rfl (((((z.o.set 0 _).set 1 _).set 2 _).set 3 _).set 4 _) underlying218 rfl Tryz.stepsInfo) rfl ?_;exact⟨⟨c,k,n,j,f,rfl,C.o.steps HH.o G H s t⟩,by rw[HR.o];exact((((A.o.setCell lZ _).setCell lZ _).setCell lZ _).setCell lZ _).setCell lZ _⟩
  .
   go_wp2;refine bodyPost_ret (v:=StepsVal c k n j f) (results_cell_row rfl _ _ R 218 #[.int .u64 k,.int .u64 n,.int .u64 j,.int .u64 f,.bool c] (0,0) _ rfl (((((z.o.set 0 _).set 1 _).set 2 _).set 3 _).set 4 _) underlying218 rfl Tryz.stepsInfo) rfl ?_;exact⟨⟨c,k,n,j,f,rfl,C.o.steps HH.o G H s t⟩,by rw[HR.o];exact((((A.o.setCell lZ _).setCell lZ _).setCell lZ _).setCell lZ _).setCell lZ _⟩
theorem Qs9(b:Bool)(c a d f:Nat)(w:Vz):
 Calls prog 179 #[StepsVal b c a d f] w fun e w'=>e=.returned (.bool (decide (a=0)))/\Below w.heap.size w w':=by
 rw[show (decide (a=0))=((a:Int) == 0) by by_cases h:a=0<;>simp[h]];unfold StepsVal;go_enter func179,ntmps179;go_wp2;go_ret;exact⟨rfl,bR.alloc lZ _⟩
theorem Qkq{w:Vz}{g a n:Nat}{C l:Vy}{x:Nat}(h:ON w g a C l x)(b:n<=l.length):∃t,x=val 18446744073709551616 (C.take n)+18446744073709551616 ^ n*t:=by
 refine⟨val 18446744073709551616 (l.drop n),?_⟩;have e:C.take n=l.take n:=by
  have:=congrArg (List.take n) h.fro;rw[List.take_take,Nat.min_eq_left b] at this;exact this
 rw[e,<-Qak _ _ _ b];exact h.num.eq.symm
theorem ON.lt{w:Vz}{g a:Nat}{C l:Vy}{x:Nat}(h:ON w g a C l x):x<18446744073709551616 ^ l.length:=by
 have:=Qab (B:=18446744073709551616) (by decide) h.num.small;rw[h.num.eq] at this;exact this
def Both(w:Vz)(gx gy X Y:Nat)(e:Ending):Prop:=∃ga gb ca cb Ca Cb la lb,e=.returned (.tuple #[.slice (some ⟨ga,0,none⟩) (List.length la) ca,.slice (some ⟨gb,0,none⟩) (List.length lb) cb])/\ON w ga ca Ca la X/\ON w gb cb Cb lb Y/\((ga=gx/\gb=gy)∨(ga=gy/\gb=gx))
theorem Qta(c:Bool)(H I J K:Nat)(j k v A:Nat)(Cx Cy l m:Vy)(x y X Y:Nat)(w:Vz)(d:ON w j v Cx l x)(g:ON w k A Cy m y)(af:j≠k)(ap:y<=x)(z:Steps x y c H I J K)(hL:Lehm c H I J K x y X Y)(hy:0<y)(B:Nat)(ag:B<=j)(ah:B<=k):
 Calls prog 181 #[StepsVal c H I J K,.slice (some ⟨j,0,none⟩) l.length v,.slice (some ⟨k,0,none⟩) m.length A] w fun e w'=>Both w' j k X Y e/\Below B w w':=by
 have hl:=hL.less hy;have aq:=g.num.length_le_of_lt (by decide) (Nat.lt_of_le_of_lt ap d.lt);have L:=d.fit;have M:=g.fit;have N:=d.le;have P:=g.le;have Q:=d.len;have R:=g.len;have C:=Nat.lt_of_le_of_lt hl.1 g.lt;have S:=Nat.lt_of_le_of_lt (by have:=hL.le;omega) C;have tx:=Qkq d aq;have ty:=Qkq g lZ;have fx:=hL.fx;have fy:=hL.fy;have i:=Hi (⟨C,S,tx,ty⟩:X<18446744073709551616 ^ m.length/\Y<18446744073709551616 ^ m.length/\_/\_);obtain⟨wa,n⟩:=nm (w.alloc (.cells #[Value.int .u64 H,.int .u64 I,.int .u64 J,.int .u64 K,.bool c] 218));obtain⟨gs,hg⟩:=nm w.heap.size;have f:Below w.heap.size w wa:=by rw[<-n];exact(Below.refl _ _).alloc lZ _
 have a:SB wa gs 218 #[Value.int .u64 H,.int .u64 I,.int .u64 J,.int .u64 K,.bool c]:=by rw[<-n,<-hg];exact SB.new _ _ _
 have p1:=d.pre.below f d.pre.lt;have p2:=g.pre.below f g.pre.lt;have HB:O (Below B w wa):=Hi (f.mono (by have:=d.pre.lt;omega));have ai:O (B<=wa.heap.size):=Hi (by have:=d.pre.lt;have:=f.size;omega);have k0:=a.cell 0;have k1:=a.cell 1;have k2:=a.cell 2;have k3:=a.cell 3;have k4:=a.cell 4;simp at k0 k1 k2 k3 k4;obtain⟨HW,HG,aj,ak,D,E,ar,au⟩:=Ig n hg Q R N P L M;have al:m.length<=v:=by omega
 have am:m.length<=A:=by omega
 obtain⟨an,ao⟩:=Ia al am;have im:(m.length:Int)<=(v:Int):=by omega
 have av:(0:Int)<=(m.length:Int):=by omega
 unfold StepsVal;cases c
 .
  simp only[Bool.false_eq_true,if_false] at fx fy;obtain⟨p,T,U⟩:=Ib (Qkp j k m.length v A H I K J Cx Cy wa p1 p2 af d.small g.small (by omega) (by omega) (by omega) (by omega) (by omega) z.bxx z.bxy z.byy z.byx) fx fy;clear d g z hL hl C S tx ty fx fy p1 p2 f a n hg Q R N P L M;go_enter func181,ntmps181;go_wp2_with fail;rw[HW.o,HG.o];go_wp2_with fail;go_fit p.o;rintro e w2 ⟨rfl,X2,Y2,q,r,F,G,V,W,oX,oY,s⟩;obtain⟨Z,aa⟩:=Ia (Qdc j m.length v X X2 w2 q V (by rw[F];exact aj.o) (by rw[F];have:=D.o;omega) an.o (oX.end V (by rw[F];have:=D.o;omega) i.o.2.2.1 i.o.2.2.2 T.o i.o.1)) (Qdc k m.length A Y Y2 w2 r W (by rw[G];exact ak.o) (by rw[G];have:=E.o;omega) ao.o (oY.end W (by rw[G];have:=E.o;omega) i.o.2.2.2 i.o.2.2.1 U.o i.o.2.1))
  have ab:=Hi (HB.o.trans (s.below ag ah ai.o));clear q r F G V W oX oY s p k0 k1 k2 k3 k4;go_wp2_with fail;go_fit Z.o;rintro e w3 ⟨⟨r1,rfl,t,_⟩,b⟩;subst b;have ad:=Hi t;clear t;go_wp2_with fail;go_fit aa.o;rintro e w3 ⟨⟨r2,rfl,u,_⟩,b⟩;subst b;have ae:=Hi u;clear u;go_wp2;go_ret2;exact⟨⟨j,k,v,A,X2,Y2,r1,r2,rfl,ad.o,ae.o,.inl ⟨rfl,rfl⟩⟩,ab.o⟩
 .
  simp only[if_true] at fx fy;obtain⟨p,T,U⟩:=Ib (Qkp k j m.length A v I H J K Cy Cx wa p2 p1 (fun h=>af h.symm) g.small d.small (by omega) (by omega) (by omega) (by omega) (by omega) z.bxy z.bxx z.byx z.byy) fx fy;clear d g z hL hl C S tx ty fx fy p1 p2 f a n hg Q R N P L M;go_enter func181,ntmps181;go_wp2_with fail;rw[HW.o,HG.o];go_wp2_with fail;go_fit p.o;rintro e w2 ⟨rfl,X2,Y2,q,r,F,G,V,W,oX,oY,s⟩;obtain⟨Z,aa⟩:=Ia (Qdc k m.length A X X2 w2 q V (by rw[F];exact ak.o) (by rw[F];have:=E.o;omega) ao.o (oX.end V (by rw[F];have:=E.o;omega) i.o.2.2.2 i.o.2.2.1 T.o i.o.1)) (Qdc j m.length v Y Y2 w2 r W (by rw[G];exact aj.o) (by rw[G];have:=D.o;omega) an.o (oY.end W (by rw[G];have:=D.o;omega) i.o.2.2.1 i.o.2.2.2 U.o i.o.2.1))
  have ab:=Hi (HB.o.trans (s.below ah ag ai.o));clear q r F G V W oX oY s p k0 k1 k2 k3 k4;go_wp2_with fail;go_fit Z.o;rintro e w3 ⟨⟨r1,rfl,t,_⟩,b⟩;subst b;have ad:=Hi t;clear t;go_wp2_with fail;go_fit aa.o;rintro e w3 ⟨⟨r2,rfl,u,_⟩,b⟩;subst b;have ae:=Hi u;clear u;go_wp2;go_ret2;exact⟨⟨k,j,A,v,X2,Y2,r1,r2,rfl,ad.o,ae.o,.inr ⟨rfl,rfl⟩⟩,ab.o⟩
end Go.Proofs.YtkkadnoecklepaaGreatDoor
