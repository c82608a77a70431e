import Derived.Test.YtkkadnoecklepaaGreatDoorG05Dv
import Derived.Lib.SliceRun
import Derived.Deep.DeepFit
namespace Go.Proofs.YtkkadnoecklepaaGreatDoor
open Go.RowKit
open Go.Proofs.Tryz
set_option linter.unusedSimpArgs false
set_option linter.unusedVariables false
set_option maxHeartbeats 8000000
set_option maxRecDepth 1000000
theorem Qfc(x:Int)(w:Vz)(a:0<=x)(b:x<=18446744073709551615):
 Calls prog 217 #[.int .u64 x] w fun e c=>e=.returned (.int .i64 (64 - (Lib.bitLen x.toNat:Int)))/\c=w:=Any.bits_LeadingZeros64 Tryz.lays134 x w a b
theorem Qnj(lo y:Nat)(w:Vz)(hl:lo<18446744073709551616)(h:y<18446744073709551616)(i:0<y):
 Calls prog 222 #[.int .u64 0,.int .u64 lo,.int .u64 y] w fun e c=>e=.returned (.tuple #[.int .u64 ((lo / y:Nat):Int),.int .u64 ((lo % y:Nat):Int)])/\∃n,c=w.drewN n:=by
 have j:((y:Int) == 0)=false:=by rw[beq_eq_false_iff_ne];omega
 have k:¬((y:Int)<=0):=by omega
 obtain⟨Q,a⟩:=nm (lo / y);obtain⟨R,b⟩:=nm (lo % y);have d:Q<18446744073709551616:=by rw[<-a];exact Nat.lt_of_le_of_lt (Nat.div_le_self _ _) hl
 have d1:(lo:Int) / (y:Int)=(Q:Int):=by rw[<-a];rfl
 have d2:(lo:Int) % (y:Int)=(R:Int):=by rw[<-b];rfl
 have f:Int.tdiv (lo:Int) (y:Int)=(Q:Int):=by rw[<-a];rfl
 have g:Int.tmod (lo:Int) (y:Int)=(R:Int):=by rw[<-b];rfl
 rw[a,b];clear a b;go_enter func222,ntmps222;go_wp2;go_quiet (fail);go_wp2;go_ret2;exact⟨rfl,_,rfl⟩
theorem Qfd(y:Nat)(b:0<y)(c:y<18446744073709551616):∃s:Nat,s<64/\64 - (Lib.bitLen (y:Int).toNat:Int)=s/\9223372036854775808<=y*2 ^ s/\y*2 ^ s<18446744073709551616:=by
 rw[Int.toNat_natCast];have h:∀(k:Nat),k<=64->∀z,2 ^ (64 - k)<=z->z<18446744073709551616->True:=fun _ _ _ _ _=>trivial
 have d:=Qe8 y;have a:=Qhr (n:=y) (k:=nb y - 1) (by have:=Qdh b;omega);have i:nb y<=64:=nb_le c;have f:=Qdh b;have e:Lib.bitLen y=nb y:=by
  have g:=Lib.bitLen_shift (nb y - 1) y a c;have j:y / 2 ^ (nb y - 1)=1:=by
   apply Nat.le_antisymm
   .
    have:y / 2 ^ (nb y - 1)<2:=by
     rw[Nat.div_lt_iff_lt_mul (Nat.two_pow_pos _),<-Nat.pow_succ',show (nb y - 1).succ=nb y by omega];exact d
    omega
   . exact(Nat.one_le_div_iff (Nat.two_pow_pos _)).2 a
  rw[j] at g;have l:Lib.bitLen 1=1:=by decide
  rw[g,l];omega
 refine⟨64 - nb y,by omega,by rw[e];omega,?_,?_⟩
 .
  have:2 ^ (nb y - 1)*2 ^ (64 - nb y)<=y*2 ^ (64 - nb y):=Nat.mul_le_mul_right _ a;rw[<-Nat.pow_add,show nb y - 1+(64 - nb y)=63 by omega] at this;exact this
 .
  have:y*2 ^ (64 - nb y)<2 ^ nb y*2 ^ (64 - nb y):=Nat.mul_lt_mul_of_pos_right d (Nat.two_pow_pos _);rw[<-Nat.pow_add,show nb y+(64 - nb y)=64 by omega] at this;exact this
theorem Qfe(u a:Nat)(d:2147483648<=a)(c:a<4294967296)(e:u<18446744073709551616):∃q p r:Nat,u / a=q/\q*a=p/\p+r=u/\r<a/\q<8589934592/\Int.tdiv (u:Int) (a:Int)=(q:Int)/\(u:Int) / (a:Int)=(q:Int)/\(q:Int)*(a:Int)=(p:Int)/\(u:Int) - (p:Int)=(r:Int):=by
 have b:u / a*a+u % a=u:=by rw[Nat.mul_comm];exact Nat.div_add_mod u a
 refine⟨u / a,u / a*a,u % a,rfl,rfl,b,Nat.mod_lt _ (by omega),?_,rfl,rfl,rfl,?_⟩
 . rw[Nat.div_lt_iff_lt_mul (by omega)];omega
 . have:((u / a*a:Nat):Int)+((u % a:Nat):Int)=(u:Int):=by rw[<-Int.natCast_add,b]
   omega
theorem Qaw(u a q Y:Nat)(g:Y<18446744073709551616)(b:0<Y)(i:a<4294967296)(e:(4294967296*u+a) / Y=q):
 ∃c P b1 v:Nat,c+a<18446744073709551616/\b1<18446744073709551616/\v<Y/\v+q*Y=4294967296*u+a/\(IntKind.u64.wrap ((u:Int)*4294967296)=(c:Int))/\((q:Int)*(Y:Int)=(P:Int))/\(IntKind.u64.wrap (P:Int)=(b1:Int))/\IntKind.u64.wrap ((c:Int)+(a:Int) - (b1:Int))=(v:Int):=by
 have f:(4294967296*u+a) % Y+q*Y=4294967296*u+a:=by
  have h:=Nat.mod_add_div (4294967296*u+a) Y;rw[e,Nat.mul_comm Y q] at h;exact h
 have d:(4294967296*u+a) % Y<Y:=Nat.mod_lt _ b;refine⟨u*4294967296 % 18446744073709551616,q*Y,q*Y % 18446744073709551616,(4294967296*u+a) % Y,by omega,by omega,d,f,?_,rfl,?_,?_⟩
 . rw[Qar];omega
 . rw[Qar];rfl
 .
  rw[Qar];generalize q*Y=P at*;generalize (4294967296*u+a) % Y=v at*;omega
theorem Qa6{b lo y s u H i a c d Y Q e v g:Nat}(j:y*2 ^ s=Y)(k:b*2 ^ s=H)(m:H+i=u)(f:lo*2 ^ s=18446744073709551616*i+a)(l:a=4294967296*c+d)(n:v+Q*Y=4294967296*u+c)(o:g+e*Y=4294967296*v+d)(hv2:g<Y):
 (18446744073709551616*b+lo) / y=Q*4294967296+e/\(18446744073709551616*b+lo) % y=g / 2 ^ s:=by
 have h:=Qfw (X:=(18446744073709551616*b+lo)*2 ^ s) (V:=Y) (x:=18446744073709551616*b+lo) (y:=y) (p:=2 ^ s) (Q:=Q*4294967296+e) (R:=g) (Nat.two_pow_pos s) rfl j (by
  rw[Nat.add_mul,Nat.mul_assoc,k,f,Nat.mul_add,Nat.mul_comm Y (Q*4294967296),Nat.mul_comm Y e,Nat.mul_assoc Q,Nat.mul_comm 4294967296 Y,<-Nat.mul_assoc];generalize Q*Y=A at*;generalize e*Y=B at*
  omega) hv2
 exact⟨h.1.symm,h.2.symm⟩
theorem Qnk(hi lo y QQ RR:Nat)(w:Vz)(bs:(18446744073709551616*hi+lo) / y=QQ)(bt:(18446744073709551616*hi+lo) % y=RR)(hh:0<hi)(bu:hi<y)(hl:lo<18446744073709551616)(hy:y<18446744073709551616):
 Calls prog 222 #[.int .u64 hi,.int .u64 lo,.int .u64 y] w fun e w'=>e=.returned (.tuple #[.int .u64 (QQ:Int),.int .u64 (RR:Int)])/\∃n,w'=w.drewN n:=by
 obtain⟨an,ao⟩:=Ia bs bt;clear bs bt;have q0:((y:Int) == 0)=false:=by rw[beq_eq_false_iff_ne];omega
 have q1:¬((y:Int)<=(hi:Int)):=by omega
 have q2:((hi:Int) == 0)=false:=by rw[beq_eq_false_iff_ne];omega
 obtain⟨s,cd,hs,b4,S⟩:=Qfd y (by omega) hy;have HL:=Hi (Qfc y w (by omega) (by omega));rw[hs] at HL;obtain⟨Y,a4⟩:=nm (y*2 ^ s);rw[a4] at b4 S;obtain⟨H,av⟩:=nm (hi*2 ^ s);have ce:H<Y:=by rw[<-av,<-a4];exact Nat.mul_lt_mul_of_pos_right bu (Nat.two_pow_pos _)
 obtain⟨l2,a3⟩:=nm (lo / 2 ^ (64 - s));have bv:l2<2 ^ s:=by rw[<-a3];exact Qff (by omega) hl
 obtain⟨ab,ap⟩:∃z,lo*2 ^ s % 18446744073709551616=z:=⟨_,rfl⟩;have bf:ab<18446744073709551616:=by rw[<-ap];exact Nat.mod_lt _ (by decide)
 have a5:=low64 (lo:=lo) (s:=s) (by omega);rw[a3,ap] at a5;have A:H+l2<Y:=by
  have:(hi+1)*2 ^ s<=y*2 ^ s:=Nat.mul_le_mul_right _ bu;rw[Nat.add_mul,av,a4,Nat.one_mul] at this;omega
 have r1:IntKind.u64.wrap ((y:Int)*2 ^ s)=(Y:Int):=by
  rw[show (y:Int)*2 ^ s=((y*2 ^ s:Nat):Int) by rw[Int.natCast_mul,Int.natCast_pow];rfl,a4];exact Qb3 Y S
 have r4:IntKind.u64.wrap ((hi:Int)*2 ^ s)=(H:Int):=by
  rw[show (hi:Int)*2 ^ s=((hi*2 ^ s:Nat):Int) by rw[Int.natCast_mul,Int.natCast_pow];rfl,av];exact Qb3 H (by omega)
 have r5:(lo:Int) / 2 ^ (64 - s)=(l2:Int):=by
  rw[<-a3,Int.natCast_ediv,Int.natCast_pow];rfl
 have r7:IntKind.u64.wrap ((lo:Int)*2 ^ s)=(ab:Int):=by
  rw[show (lo:Int)*2 ^ s=((lo*2 ^ s:Nat):Int) by rw[Int.natCast_mul,Int.natCast_pow];rfl,Qar,<-ap];rfl
 obtain⟨u,hu⟩:=nm (H+l2);have r6:bits .or .u64 (H:Int) (l2:Int)=(u:Int):=by
  rw[or64 (H:Int) (l2:Int) hi l2 s (by rw[<-av,Nat.mul_comm]) rfl bv (by rw[Nat.mul_comm,av];omega),Nat.mul_comm,av,hu]
 rw[hu] at A;obtain⟨a,bw⟩:∃z,Y / 4294967296=z:=⟨_,rfl⟩;obtain⟨ag,bg⟩:∃z,Y % 4294967296=z:=⟨_,rfl⟩;have bl:Y=4294967296*a+ag:=by omega
 have aa:2147483648<=a/\a<4294967296:=by omega
 have I:ag<4294967296:=by omega
 have r2:(Y:Int) / 4294967296=(a:Int):=by omega
 have D:bits .and .u64 (Y:Int) 4294967295=(ag:Int):=by rw[Mul64.maskN Y S,bg]
 obtain⟨G,bx⟩:∃z,ab / 4294967296=z:=⟨_,rfl⟩;obtain⟨f,bh⟩:∃z,ab % 4294967296=z:=⟨_,rfl⟩;have l:G<4294967296:=by omega
 have d:f<4294967296:=by omega
 have r8:(ab:Int) / 4294967296=(G:Int):=by omega
 have r9:bits .and .u64 (ab:Int) 4294967295=(f:Int):=by rw[Mul64.maskN ab bf,bh]
 have m:((a:Int) == 0)=false:=by rw[beq_eq_false_iff_ne];omega
 obtain⟨q,hq⟩:=nm (u / a);obtain⟨p,hp⟩:=nm (q*a);obtain⟨r,hr⟩:=nm (u % a);have bz:p+r=u:=by rw[<-hp,<-hq,<-hr,Nat.mul_comm];exact Nat.div_add_mod u a
 have b0:r<a:=by rw[<-hr];exact Nat.mod_lt _ (by omega)
 have b5:Int.tdiv (u:Int) (a:Int)=(q:Int):=by rw[<-hq];rfl
 have b2:(u:Int) / (a:Int)=(q:Int):=by rw[<-hq];rfl
 have b6:(q:Int)*(a:Int)=(p:Int):=by rw[<-hp];rfl
 have bm:q<8589934592:=by
  rw[<-hq,Nat.div_lt_iff_lt_mul (by omega)];omega
 obtain⟨E,aq,X,ar,au,HU,b7,HP⟩:=Ig bl (show ab=4294967296*G+f by omega) a5 a4 av hu bz hp;have b8:O ((4294967296*u+G) / Y<=q):=Hi (by rw[<-hq];exact Qdm bl l (by omega));have b9:(u:Int) - (p:Int)=(r:Int):=by omega
 clear a4 av a3 ap bv hu hq hr hp bl bw bg bx bh a5 bz hs;go_enter func222,ntmps222;go_wp2_with fail;refine HL.o.mono ?_;rintro e w ⟨rfl,hw⟩;subst hw;clear HL;go_wp2_with fail;have x:0<Y:=by omega
 go_loop [15,16] (fun qv rv=>∃q r:Nat,qv=.int .u64 q/\rv=.int .u64 r/\q*a+r=u/\(4294967296*u+G) / Y<=q/\r<4294967296/\q<8589934592) (fun qv _=>(intOf qv).toNat)
 case atStart=>exact⟨q,r,rfl,rfl,by rw[HP.o];exact b7.o,b8.o,by omega,bm⟩
 case round=>
  clear bm b0 b5 b2 b6 b9;obtain⟨q,r,rfl,rfl,ah,hQ,b0,bm⟩:=hrel;obtain⟨bn,HQ⟩:=Ia ah hQ;clear ah hQ;by_cases hA:4294967296<=q
  .
   have bo:O ((4294967296*u+G) / Y<q):=Hi (Nat.lt_of_lt_of_le (Qaf A l) hA);have ca:(4294967296:Int)<=(q:Int):=by omega
   have bp:1<=q:=by omega
   clear hA;obtain⟨T,k⟩:∃T,q=T+1:=⟨q - 1,by omega⟩;have cb:(q:Int) - 1=(T:Int):=by omega
   have b3:T<8589934592:=by omega
   have bq:=Hi k;have ai:O (T*a+(r+a)=u):=Hi (by have:=bn.o;rw[k,Nat.succ_mul] at this;omega);have a6:O ((4294967296*u+G) / Y<=T):=Hi (Nat.le_of_lt_succ (by have:=bo.o;omega));clear k bp;by_cases hC:4294967296<=r+a
   .
    have U:=Qbg E.o I A ai.o hC (by omega);have Z:O ((4294967296*u+G) / Y=T):=Hi (Qay x ((Qax (n1:=G) E.o ai.o).1 (by omega)) a6.o);have V:(4294967296:Int)<=(r:Int)+(a:Int):=by omega
    clear hC U;obtain⟨a1,P,b1,v,aj,ak,F,j,z1,z2,z3,z4⟩:=Qaw u G T Y S x l Z.o;obtain⟨a7,p2,a8,aw,ax,ad,ay,ae,x1,x2,x3,x4⟩:=Qfe v a aa.1 aa.2 (by omega);obtain⟨al,a9,ba,az⟩:=Ic j aw ax ad;clear j r1 r2 D r4 r5 r6 r7 r8 r9 aw ax ad;go_wp2_with fail;clear z1 z2 z3 z4;go_loop [18,16] (fun qv rv=>∃q r:Nat,qv=.int .u64 q/\rv=.int .u64 r/\q*a+r=v/\(4294967296*v+f) / Y<=q/\r<4294967296/\q<8589934592) (fun qv _=>(intOf qv).toNat)
    case atStart=>exact⟨a7,a8,rfl,rfl,by rw[ba.o];exact az.o,by rw[<-a9.o];exact Qdm E.o d (by omega),by omega,ae⟩
    case round=>
     clear x1 x2 x3 x4 ay ae;obtain⟨m,D,rfl,rfl,ah,hQ,bi,bj⟩:=hrel;obtain⟨J,bb⟩:=Ia ah hQ;clear ah hQ;by_cases hA:4294967296<=m
     .
      have K:O ((4294967296*v+f) / Y<m):=Hi (Nat.lt_of_lt_of_le (Qaf F d) hA);have bc:(4294967296:Int)<=(m:Int):=by omega
      have L:1<=m:=by omega
      clear hA;obtain⟨b,k⟩:∃b,m=b+1:=⟨m - 1,by omega⟩;have a0:(m:Int) - 1=(b:Int):=by omega
      have am:b<8589934592:=by omega
      have M:=Hi k;have g:O (b*a+(D+a)=v):=Hi (by have:=J.o;rw[k,Nat.succ_mul] at this;omega);have B:O ((4294967296*v+f) / Y<=b):=Hi (Nat.le_of_lt_succ (by have:=K.o;omega));clear k L;by_cases hC:4294967296<=D+a
      .
       have U:=Qbg E.o I F g.o hC (by omega);have i:O ((4294967296*v+f) / Y=b):=Hi (Qay x ((Qax (n1:=f) E.o g.o).1 (by omega)) B.o);have V:(4294967296:Int)<=(D:Int)+(a:Int):=by omega
       clear hC U;obtain⟨a1,P,b1,v2,aj,ak,C,j,y1,y2,y3,y4⟩:=Qaw v f b Y S x d i.o;have a2:T<4294967296:=by rw[<-Z.o];exact Qaf A l
       have af:b<4294967296:=by rw[<-i.o];exact Qaf F d
       obtain⟨R,N⟩:=nm (v2 / 2 ^ s);have rR:(v2:Int) / 2 ^ s=(R:Int):=by rw[<-N,Int.natCast_ediv,Int.natCast_pow];rfl
       have c:=Hi (Qa6 ar.o au.o HU.o X.o aq.o al.o j C);rw[N] at c;clear j N;go_wp2_with fail;go_ret2;have e1:(QQ:Int)=(T:Int)*4294967296+(b:Int):=by have:=c.o.1;rw[an.o] at this;omega
       have e2:(RR:Int)=(R:Int):=by have:=c.o.2;rw[ao.o] at this;omega
       exact⟨by rw[e1,e2];rfl,0,rfl⟩
      .
       have V:¬((4294967296:Int)<=(D:Int)+(a:Int)):=by omega
       have W:D+a<4294967296:=by omega
       clear hC;go_wp2_with fail;go_round
       case rel=>exact⟨b,D+a,by go_num,by go_num,g.o,B.o,W,by omega⟩
       case measure=>have:=M.o;simp[intOf];omega
     .
      obtain⟨t2,ht⟩:∃t,m*ag=t:=⟨_,rfl⟩;have bk:t2<=4294967295*4294967295:=by rw[<-ht];exact Nat.mul_le_mul (by omega) (by omega)
      have bd:(m:Int)*(ag:Int)=(t2:Int):=by rw[<-ht];rfl
      have Q:=Hi (Qax (n1:=f) E.o J.o);rw[ht] at Q;have bc:¬((4294967296:Int)<=(m:Int)):=by omega
      clear ht hA;by_cases hB:t2<=4294967296*D+f
      .
       have i:=Hi (Qay x (Q.o.1 hB) bb.o);have be:¬(4294967296*(D:Int)+(f:Int)<(t2:Int)):=by omega
       clear hB;obtain⟨a1,P,b1,v2,aj,ak,C,j,y1,y2,y3,y4⟩:=Qaw v f m Y S x d i.o;have a2:T<4294967296:=by rw[<-Z.o];exact Qaf A l
       have af:m<4294967296:=by rw[<-i.o];exact Qaf F d
       obtain⟨R,N⟩:=nm (v2 / 2 ^ s);have rR:(v2:Int) / 2 ^ s=(R:Int):=by rw[<-N,Int.natCast_ediv,Int.natCast_pow];rfl
       have c:=Hi (Qa6 ar.o au.o HU.o X.o aq.o al.o j C);rw[N] at c;clear j N;go_wp2_with fail;go_ret2;have e1:(QQ:Int)=(T:Int)*4294967296+(m:Int):=by have:=c.o.1;rw[an.o] at this;omega
       have e2:(RR:Int)=(R:Int):=by have:=c.o.2;rw[ao.o] at this;omega
       exact⟨by rw[e1,e2];rfl,0,rfl⟩
      .
       have K:=Hi (Qdn x (fun h=>hB (Q.o.2 h)));have be:4294967296*(D:Int)+(f:Int)<(t2:Int):=by omega
       have L:1<=m:=by
        rcases Nat.eq_zero_or_pos m with h|h
        .
         exfalso
         subst h;have:=bd;simp at this;omega
        . exact h
       clear hB;obtain⟨b,k⟩:∃b,m=b+1:=⟨m - 1,by omega⟩;have a0:(m:Int) - 1=(b:Int):=by omega
       have am:b<8589934592:=by omega
       have M:=Hi k;have g:O (b*a+(D+a)=v):=Hi (by have:=J.o;rw[k,Nat.succ_mul] at this;omega);have B:O ((4294967296*v+f) / Y<=b):=Hi (Nat.le_of_lt_succ (by have:=K.o;omega));clear k L;by_cases hC:4294967296<=D+a
       .
        have U:=Qbg E.o I F g.o hC (by omega);have i:O ((4294967296*v+f) / Y=b):=Hi (Qay x ((Qax (n1:=f) E.o g.o).1 (by omega)) B.o);have V:(4294967296:Int)<=(D:Int)+(a:Int):=by omega
        clear hC U;obtain⟨a1,P,b1,v2,aj,ak,C,j,y1,y2,y3,y4⟩:=Qaw v f b Y S x d i.o;have a2:T<4294967296:=by rw[<-Z.o];exact Qaf A l
        have af:b<4294967296:=by rw[<-i.o];exact Qaf F d
        obtain⟨R,N⟩:=nm (v2 / 2 ^ s);have rR:(v2:Int) / 2 ^ s=(R:Int):=by rw[<-N,Int.natCast_ediv,Int.natCast_pow];rfl
        have c:=Hi (Qa6 ar.o au.o HU.o X.o aq.o al.o j C);rw[N] at c;clear j N;go_wp2_with fail;go_ret2;have e1:(QQ:Int)=(T:Int)*4294967296+(b:Int):=by have:=c.o.1;rw[an.o] at this;omega
        have e2:(RR:Int)=(R:Int):=by have:=c.o.2;rw[ao.o] at this;omega
        exact⟨by rw[e1,e2];rfl,0,rfl⟩
       .
        have V:¬((4294967296:Int)<=(D:Int)+(a:Int)):=by omega
        have W:D+a<4294967296:=by omega
        clear hC;go_wp2_with fail;go_round
        case rel=>exact⟨b,D+a,by go_num,by go_num,g.o,B.o,W,by omega⟩
        case measure=>have:=M.o;simp[intOf];omega
   .
    have V:¬((4294967296:Int)<=(r:Int)+(a:Int)):=by omega
    have W:r+a<4294967296:=by omega
    clear hC;go_wp2_with fail;go_round
    case rel=>exact⟨T,r+a,by go_num,by go_num,ai.o,a6.o,W,by omega⟩
    case measure=>have:=bq.o;simp[intOf];omega
  .
   obtain⟨t,ht⟩:=nm (q*ag);have cf:t<=4294967295*4294967295:=by rw[<-ht];exact Nat.mul_le_mul (by omega) (by omega)
   have rt:(q:Int)*(ag:Int)=(t:Int):=by rw[<-ht];rfl
   have br:=Hi (Qax (n1:=G) E.o bn.o);rw[ht] at br;have ca:¬((4294967296:Int)<=(q:Int)):=by omega
   clear ht hA;by_cases hB:t<=4294967296*r+G
   .
    have Z:=Hi (Qay x (br.o.1 hB) HQ.o);have cc:¬(4294967296*(r:Int)+(G:Int)<(t:Int)):=by omega
    clear hB;obtain⟨a1,P,b1,v,aj,ak,F,j,z1,z2,z3,z4⟩:=Qaw u G q Y S x l Z.o;obtain⟨a7,p2,a8,aw,ax,ad,ay,ae,x1,x2,x3,x4⟩:=Qfe v a aa.1 aa.2 (by omega);obtain⟨al,a9,ba,az⟩:=Ic j aw ax ad;clear j r1 r2 D r4 r5 r6 r7 r8 r9 aw ax ad;go_wp2_with fail;clear z1 z2 z3 z4;go_loop [18,16] (fun qv rv=>∃q r:Nat,qv=.int .u64 q/\rv=.int .u64 r/\q*a+r=v/\(4294967296*v+f) / Y<=q/\r<4294967296/\q<8589934592) (fun qv _=>(intOf qv).toNat)
    case atStart=>exact⟨a7,a8,rfl,rfl,by rw[ba.o];exact az.o,by rw[<-a9.o];exact Qdm E.o d (by omega),by omega,ae⟩
    case round=>
     clear x1 x2 x3 x4 ay ae;obtain⟨m,D,rfl,rfl,ah,hQ,bi,bj⟩:=hrel;obtain⟨J,bb⟩:=Ia ah hQ;clear ah hQ;by_cases hA:4294967296<=m
     .
      have K:O ((4294967296*v+f) / Y<m):=Hi (Nat.lt_of_lt_of_le (Qaf F d) hA);have bc:(4294967296:Int)<=(m:Int):=by omega
      have L:1<=m:=by omega
      clear hA;obtain⟨b,k⟩:∃b,m=b+1:=⟨m - 1,by omega⟩;have a0:(m:Int) - 1=(b:Int):=by omega
      have am:b<8589934592:=by omega
      have M:=Hi k;have g:O (b*a+(D+a)=v):=Hi (by have:=J.o;rw[k,Nat.succ_mul] at this;omega);have B:O ((4294967296*v+f) / Y<=b):=Hi (Nat.le_of_lt_succ (by have:=K.o;omega));clear k L;by_cases hC:4294967296<=D+a
      .
       have U:=Qbg E.o I F g.o hC (by omega);have i:O ((4294967296*v+f) / Y=b):=Hi (Qay x ((Qax (n1:=f) E.o g.o).1 (by omega)) B.o);have V:(4294967296:Int)<=(D:Int)+(a:Int):=by omega
       clear hC U;obtain⟨a1,P,b1,v2,aj,ak,C,j,y1,y2,y3,y4⟩:=Qaw v f b Y S x d i.o;have a2:q<4294967296:=by rw[<-Z.o];exact Qaf A l
       have af:b<4294967296:=by rw[<-i.o];exact Qaf F d
       obtain⟨R,N⟩:=nm (v2 / 2 ^ s);have rR:(v2:Int) / 2 ^ s=(R:Int):=by rw[<-N,Int.natCast_ediv,Int.natCast_pow];rfl
       have c:=Hi (Qa6 ar.o au.o HU.o X.o aq.o al.o j C);rw[N] at c;clear j N;go_wp2_with fail;go_ret2;have e1:(QQ:Int)=(q:Int)*4294967296+(b:Int):=by have:=c.o.1;rw[an.o] at this;omega
       have e2:(RR:Int)=(R:Int):=by have:=c.o.2;rw[ao.o] at this;omega
       exact⟨by rw[e1,e2];rfl,0,rfl⟩
      .
       have V:¬((4294967296:Int)<=(D:Int)+(a:Int)):=by omega
       have W:D+a<4294967296:=by omega
       clear hC;go_wp2_with fail;go_round
       case rel=>exact⟨b,D+a,by go_num,by go_num,g.o,B.o,W,by omega⟩
       case measure=>have:=M.o;simp[intOf];omega
     .
      obtain⟨t2,ht⟩:∃t,m*ag=t:=⟨_,rfl⟩;have bk:t2<=4294967295*4294967295:=by rw[<-ht];exact Nat.mul_le_mul (by omega) (by omega)
      have bd:(m:Int)*(ag:Int)=(t2:Int):=by rw[<-ht];rfl
      have Q:=Hi (Qax (n1:=f) E.o J.o);rw[ht] at Q;have bc:¬((4294967296:Int)<=(m:Int)):=by omega
      clear ht hA;by_cases hB:t2<=4294967296*D+f
      .
       have i:=Hi (Qay x (Q.o.1 hB) bb.o);have be:¬(4294967296*(D:Int)+(f:Int)<(t2:Int)):=by omega
       clear hB;obtain⟨a1,P,b1,v2,aj,ak,C,j,y1,y2,y3,y4⟩:=Qaw v f m Y S x d i.o;have a2:q<4294967296:=by rw[<-Z.o];exact Qaf A l
       have af:m<4294967296:=by rw[<-i.o];exact Qaf F d
       obtain⟨R,N⟩:=nm (v2 / 2 ^ s);have rR:(v2:Int) / 2 ^ s=(R:Int):=by rw[<-N,Int.natCast_ediv,Int.natCast_pow];rfl
       have c:=Hi (Qa6 ar.o au.o HU.o X.o aq.o al.o j C);rw[N] at c;clear j N;go_wp2_with fail;go_ret2;have e1:(QQ:Int)=(q:Int)*4294967296+(m:Int):=by have:=c.o.1;rw[an.o] at this;omega
       have e2:(RR:Int)=(R:Int):=by have:=c.o.2;rw[ao.o] at this;omega
       exact⟨by rw[e1,e2];rfl,0,rfl⟩
      .
       have K:=Hi (Qdn x (fun h=>hB (Q.o.2 h)));have be:4294967296*(D:Int)+(f:Int)<(t2:Int):=by omega
       have L:1<=m:=by
        rcases Nat.eq_zero_or_pos m with h|h
        .
         exfalso
         subst h;have:=bd;simp at this;omega
        . exact h
       clear hB;obtain⟨b,k⟩:∃b,m=b+1:=⟨m - 1,by omega⟩;have a0:(m:Int) - 1=(b:Int):=by omega
       have am:b<8589934592:=by omega
       have M:=Hi k;have g:O (b*a+(D+a)=v):=Hi (by have:=J.o;rw[k,Nat.succ_mul] at this;omega);have B:O ((4294967296*v+f) / Y<=b):=Hi (Nat.le_of_lt_succ (by have:=K.o;omega));clear k L;by_cases hC:4294967296<=D+a
       .
        have U:=Qbg E.o I F g.o hC (by omega);have i:O ((4294967296*v+f) / Y=b):=Hi (Qay x ((Qax (n1:=f) E.o g.o).1 (by omega)) B.o);have V:(4294967296:Int)<=(D:Int)+(a:Int):=by omega
        clear hC U;obtain⟨a1,P,b1,v2,aj,ak,C,j,y1,y2,y3,y4⟩:=Qaw v f b Y S x d i.o;have a2:q<4294967296:=by rw[<-Z.o];exact Qaf A l
        have af:b<4294967296:=by rw[<-i.o];exact Qaf F d
        obtain⟨R,N⟩:=nm (v2 / 2 ^ s);have rR:(v2:Int) / 2 ^ s=(R:Int):=by rw[<-N,Int.natCast_ediv,Int.natCast_pow];rfl
        have c:=Hi (Qa6 ar.o au.o HU.o X.o aq.o al.o j C);rw[N] at c;clear j N;go_wp2_with fail;go_ret2;have e1:(QQ:Int)=(q:Int)*4294967296+(b:Int):=by have:=c.o.1;rw[an.o] at this;omega
        have e2:(RR:Int)=(R:Int):=by have:=c.o.2;rw[ao.o] at this;omega
        exact⟨by rw[e1,e2];rfl,0,rfl⟩
       .
        have V:¬((4294967296:Int)<=(D:Int)+(a:Int)):=by omega
        have W:D+a<4294967296:=by omega
        clear hC;go_wp2_with fail;go_round
        case rel=>exact⟨b,D+a,by go_num,by go_num,g.o,B.o,W,by omega⟩
        case measure=>have:=M.o;simp[intOf];omega
   .
    have bo:=Hi (Qdn x (fun h=>hB (br.o.2 h)));have cc:4294967296*(r:Int)+(G:Int)<(t:Int):=by omega
    have bp:1<=q:=by
     rcases Nat.eq_zero_or_pos q with h|h
     .
      exfalso
      subst h;have:=rt;simp at this;omega
     . exact h
    clear hB;obtain⟨T,k⟩:∃T,q=T+1:=⟨q - 1,by omega⟩;have cb:(q:Int) - 1=(T:Int):=by omega
    have b3:T<8589934592:=by omega
    have bq:=Hi k;have ai:O (T*a+(r+a)=u):=Hi (by have:=bn.o;rw[k,Nat.succ_mul] at this;omega);have a6:O ((4294967296*u+G) / Y<=T):=Hi (Nat.le_of_lt_succ (by have:=bo.o;omega));clear k bp;by_cases hC:4294967296<=r+a
    .
     have U:=Qbg E.o I A ai.o hC (by omega);have Z:O ((4294967296*u+G) / Y=T):=Hi (Qay x ((Qax (n1:=G) E.o ai.o).1 (by omega)) a6.o);have V:(4294967296:Int)<=(r:Int)+(a:Int):=by omega
     clear hC U;obtain⟨a1,P,b1,v,aj,ak,F,j,z1,z2,z3,z4⟩:=Qaw u G T Y S x l Z.o;obtain⟨a7,p2,a8,aw,ax,ad,ay,ae,x1,x2,x3,x4⟩:=Qfe v a aa.1 aa.2 (by omega);obtain⟨al,a9,ba,az⟩:=Ic j aw ax ad;clear j r1 r2 D r4 r5 r6 r7 r8 r9 aw ax ad;go_wp2_with fail;clear z1 z2 z3 z4;go_loop [18,16] (fun qv rv=>∃q r:Nat,qv=.int .u64 q/\rv=.int .u64 r/\q*a+r=v/\(4294967296*v+f) / Y<=q/\r<4294967296/\q<8589934592) (fun qv _=>(intOf qv).toNat)
     case atStart=>exact⟨a7,a8,rfl,rfl,by rw[ba.o];exact az.o,by rw[<-a9.o];exact Qdm E.o d (by omega),by omega,ae⟩
     case round=>
      clear x1 x2 x3 x4 ay ae;obtain⟨m,D,rfl,rfl,ah,hQ,bi,bj⟩:=hrel;obtain⟨J,bb⟩:=Ia ah hQ;clear ah hQ;by_cases hA:4294967296<=m
      .
       have K:O ((4294967296*v+f) / Y<m):=Hi (Nat.lt_of_lt_of_le (Qaf F d) hA);have bc:(4294967296:Int)<=(m:Int):=by omega
       have L:1<=m:=by omega
       clear hA;obtain⟨b,k⟩:∃b,m=b+1:=⟨m - 1,by omega⟩;have a0:(m:Int) - 1=(b:Int):=by omega
       have am:b<8589934592:=by omega
       have M:=Hi k;have g:O (b*a+(D+a)=v):=Hi (by have:=J.o;rw[k,Nat.succ_mul] at this;omega);have B:O ((4294967296*v+f) / Y<=b):=Hi (Nat.le_of_lt_succ (by have:=K.o;omega));clear k L;by_cases hC:4294967296<=D+a
       .
        have U:=Qbg E.o I F g.o hC (by omega);have i:O ((4294967296*v+f) / Y=b):=Hi (Qay x ((Qax (n1:=f) E.o g.o).1 (by omega)) B.o);have V:(4294967296:Int)<=(D:Int)+(a:Int):=by omega
        clear hC U;obtain⟨a1,P,b1,v2,aj,ak,C,j,y1,y2,y3,y4⟩:=Qaw v f b Y S x d i.o;have a2:T<4294967296:=by rw[<-Z.o];exact Qaf A l
        have af:b<4294967296:=by rw[<-i.o];exact Qaf F d
        obtain⟨R,N⟩:=nm (v2 / 2 ^ s);have rR:(v2:Int) / 2 ^ s=(R:Int):=by rw[<-N,Int.natCast_ediv,Int.natCast_pow];rfl
        have c:=Hi (Qa6 ar.o au.o HU.o X.o aq.o al.o j C);rw[N] at c;clear j N;go_wp2_with fail;go_ret2;have e1:(QQ:Int)=(T:Int)*4294967296+(b:Int):=by have:=c.o.1;rw[an.o] at this;omega
        have e2:(RR:Int)=(R:Int):=by have:=c.o.2;rw[ao.o] at this;omega
        exact⟨by rw[e1,e2];rfl,0,rfl⟩
       .
        have V:¬((4294967296:Int)<=(D:Int)+(a:Int)):=by omega
        have W:D+a<4294967296:=by omega
        clear hC;go_wp2_with fail;go_round
        case rel=>exact⟨b,D+a,by go_num,by go_num,g.o,B.o,W,by omega⟩
        case measure=>have:=M.o;simp[intOf];omega
      .
       obtain⟨t2,ht⟩:∃t,m*ag=t:=⟨_,rfl⟩;have bk:t2<=4294967295*4294967295:=by rw[<-ht];exact Nat.mul_le_mul (by omega) (by omega)
       have bd:(m:Int)*(ag:Int)=(t2:Int):=by rw[<-ht];rfl
       have Q:=Hi (Qax (n1:=f) E.o J.o);rw[ht] at Q;have bc:¬((4294967296:Int)<=(m:Int)):=by omega
       clear ht hA;by_cases hB:t2<=4294967296*D+f
       .
        have i:=Hi (Qay x (Q.o.1 hB) bb.o);have be:¬(4294967296*(D:Int)+(f:Int)<(t2:Int)):=by omega
        clear hB;obtain⟨a1,P,b1,v2,aj,ak,C,j,y1,y2,y3,y4⟩:=Qaw v f m Y S x d i.o;have a2:T<4294967296:=by rw[<-Z.o];exact Qaf A l
        have af:m<4294967296:=by rw[<-i.o];exact Qaf F d
        obtain⟨R,N⟩:=nm (v2 / 2 ^ s);have rR:(v2:Int) / 2 ^ s=(R:Int):=by rw[<-N,Int.natCast_ediv,Int.natCast_pow];rfl
        have c:=Hi (Qa6 ar.o au.o HU.o X.o aq.o al.o j C);rw[N] at c;clear j N;go_wp2_with fail;go_ret2;have e1:(QQ:Int)=(T:Int)*4294967296+(m:Int):=by have:=c.o.1;rw[an.o] at this;omega
        have e2:(RR:Int)=(R:Int):=by have:=c.o.2;rw[ao.o] at this;omega
        exact⟨by rw[e1,e2];rfl,0,rfl⟩
       .
        have K:=Hi (Qdn x (fun h=>hB (Q.o.2 h)));have be:4294967296*(D:Int)+(f:Int)<(t2:Int):=by omega
        have L:1<=m:=by
         rcases Nat.eq_zero_or_pos m with h|h
         .
          exfalso
          subst h;have:=bd;simp at this;omega
         . exact h
        clear hB;obtain⟨b,k⟩:∃b,m=b+1:=⟨m - 1,by omega⟩;have a0:(m:Int) - 1=(b:Int):=by omega
        have am:b<8589934592:=by omega
        have M:=Hi k;have g:O (b*a+(D+a)=v):=Hi (by have:=J.o;rw[k,Nat.succ_mul] at this;omega);have B:O ((4294967296*v+f) / Y<=b):=Hi (Nat.le_of_lt_succ (by have:=K.o;omega));clear k L;by_cases hC:4294967296<=D+a
        .
         have U:=Qbg E.o I F g.o hC (by omega);have i:O ((4294967296*v+f) / Y=b):=Hi (Qay x ((Qax (n1:=f) E.o g.o).1 (by omega)) B.o);have V:(4294967296:Int)<=(D:Int)+(a:Int):=by omega
         clear hC U;obtain⟨a1,P,b1,v2,aj,ak,C,j,y1,y2,y3,y4⟩:=Qaw v f b Y S x d i.o;have a2:T<4294967296:=by rw[<-Z.o];exact Qaf A l
         have af:b<4294967296:=by rw[<-i.o];exact Qaf F d
         obtain⟨R,N⟩:=nm (v2 / 2 ^ s);have rR:(v2:Int) / 2 ^ s=(R:Int):=by rw[<-N,Int.natCast_ediv,Int.natCast_pow];rfl
         have c:=Hi (Qa6 ar.o au.o HU.o X.o aq.o al.o j C);rw[N] at c;clear j N;go_wp2_with fail;go_ret2;have e1:(QQ:Int)=(T:Int)*4294967296+(b:Int):=by have:=c.o.1;rw[an.o] at this;omega
         have e2:(RR:Int)=(R:Int):=by have:=c.o.2;rw[ao.o] at this;omega
         exact⟨by rw[e1,e2];rfl,0,rfl⟩
        .
         have V:¬((4294967296:Int)<=(D:Int)+(a:Int)):=by omega
         have W:D+a<4294967296:=by omega
         clear hC;go_wp2_with fail;go_round
         case rel=>exact⟨b,D+a,by go_num,by go_num,g.o,B.o,W,by omega⟩
         case measure=>have:=M.o;simp[intOf];omega
    .
     have V:¬((4294967296:Int)<=(r:Int)+(a:Int)):=by omega
     have W:r+a<4294967296:=by omega
     clear hC;go_wp2_with fail;go_round
     case rel=>exact⟨T,r+a,by go_num,by go_num,ai.o,a6.o,W,by omega⟩
     case measure=>have:=bq.o;simp[intOf];omega
theorem div64(a lo y:Nat)(b:a<y)(hl:lo<18446744073709551616)(c:y<18446744073709551616):∃q r:Nat,q<18446744073709551616/\r<y/\y*q+r=18446744073709551616*a+lo/\
 ∀w,Calls prog 222 #[.int .u64 a,.int .u64 lo,.int .u64 y] w fun e d=>e=.returned (.tuple #[.int .u64 (q:Int),.int .u64 (r:Int)])/\∃n,d=w.drewN n:=by
 have f:=Nat.div_add_mod (18446744073709551616*a+lo) y;refine⟨_,_,?_,Nat.mod_lt _ (by omega),f,fun w=>?_⟩
 .
  rw[Nat.div_lt_iff_lt_mul (by omega)];have:=Nat.mul_le_mul_left 18446744073709551616 (show a+1<=y from b);omega
 .
  by_cases g:a=0
  .
   subst g;have:=Qnj lo y w hl c (by omega);rw[Nat.mul_zero,Nat.zero_add];exact this
  . exact Qnk a lo y _ _ w rfl rfl (by omega) b hl c
def Pre(w:Vz)(g:Nat)(rs:Vy):Prop:=∃C,SB w g 190 C/\∀i,i<rs.length->C[i]?=some (.int .u64 ((rs.getD i 0:Nat):Int))
theorem Pre.lt{w:Vz}{g:Nat}{rs:Vy}(h:Pre w g rs):g<w.heap.size:=by obtain⟨C,h,_⟩:=h;exact h.lt
theorem Pre.cell{w:Vz}{g:Nat}{rs:Vy}(h:Pre w g rs)(i:Nat)(a:i<rs.length):w.cell? ⟨g,i,none⟩=some (.int .u64 ((rs.getD i 0:Nat):Int)):=by
 obtain⟨C,h,b⟩:=h;rw[h.cell];exact b i a
theorem Pre.free{w:Vz}{g:Nat}{rs:Vy}(h:Pre w g rs)(i:Nat):w.frozen? ⟨g,i,none⟩=false:=by
 obtain⟨C,h,a⟩:=h;exact h.free i
theorem Pre.set{w:Vz}{g:Nat}{rs:Vy}(h:Pre w g rs)(i x:Nat)(b:i<rs.length):Pre (w.setCell ⟨g,i,none⟩ (.int .u64 (x:Int))) g (rs.set i x):=by
 obtain⟨C,h,c⟩:=h;refine⟨_,h.set i _,fun j d=>?_⟩;rw[List.length_set] at d;have a:i<C.size:=by
  apply bC;intro f;have:=c i b;rw[Array.getElem?_eq_none (by omega)] at this;cases this
 rw[Array.getElem?_setIfInBounds];by_cases e:i=j
 . subst e
   rw[if_pos rfl,if_pos a,Qbf _ _ _ b]
 . rw[if_neg e,c j d,getD_set_ne _ _ _ _ e]
theorem Pre.drewN{w:Vz}{g:Nat}{rs:Vy}(h:Pre w g rs)(n:Nat):Pre (w.drewN n) g rs:=h
theorem Pre.row{w:Vz}{g:Nat}{rs:Vy}(h:Pre w g rs)(a:Nat)(b:rs.length<=a):Row .u64 w (some ⟨g,0,none⟩) a rs:=
 ⟨b,.inr ⟨g,0,rfl,h.lt⟩,fun i c=>⟨g,0,rfl,h.lt,by rw[Nat.zero_add];exact h.cell i c⟩⟩
theorem Pre.below{w a:Vz}{g B:Nat}{rs:Vy}(h:Pre w g rs)(b:Below B w a)(hB:g<B):Pre a g rs:=by
 obtain⟨C,h,c⟩:=h;exact⟨C,h.below b hB,c⟩
theorem Qq8(g G d:Nat)(rs:Vy)(w:Vz)(h:Pre w g rs)(R:Small 18446744073709551616 rs)(hl:rs.length<=1099511627776)(H:0<d)(Z:d<18446744073709551616):
 Calls prog 215 #[.slice (some ⟨g,0,none⟩) rs.length G,.int .u64 d] w fun e S=>∃c r,e=.returned (.int .u64 ((r:Nat):Int))/\r<d/\Pre S g c/\c.length=rs.length/\Small 18446744073709551616 c/\val 18446744073709551616 c*d+r=val 18446744073709551616 rs/\Only g w S:=by
 obtain⟨I,J⟩:=Ia h R;clear h R;go_enter func215,ntmps215;go_wp2;go_loopw [5,6] (fun r i wr=>∃(k s:Nat) (a:Vy),k<=rs.length/\s<d/\r=.int .u64 s/\i=.int .i64 ((k:Int) - 1)/\Pre wr g a/\a.length=rs.length/\Small 18446744073709551616 a/\(∀p,p<k->a.getD p 0=rs.getD p 0)/\
  val 18446744073709551616 (a.drop k)*d+s=val 18446744073709551616 (rs.drop k)/\Only g w wr) (fun _ i _=>(intOf i+1).toNat)
 case atStart=>exact⟨rs.length,0,rs,Nat.le_refl _,H,rfl,rfl,I.o,rfl,J.o,fun _ _=>rfl,by rw[List.drop_of_length_le lZ];simp[val],Only.refl _ _⟩
 case round=>
  obtain⟨k,r,a,hk,T,rfl,rfl,h,l,t,u,U,v⟩:=hrel;obtain⟨V,f,m,x,W,y⟩:=Ie h l t u U v;clear t u U v;by_cases h0:k=0
  .
   subst h0;clear h l;go_wp2;go_ret;exact⟨a,r,rfl,T,V.o,f.o,m.o,by have:=W.o;simpa using this,y.o⟩
  .
   obtain⟨j,rfl⟩:∃j,k=j+1:=⟨k - 1,by omega⟩;obtain⟨z,F⟩:=nm (a.getD j 0);have K:z<18446744073709551616:=by rw[<-F];exact m.o.getD (by omega) j
   have X:=h.free j;have L:=h.cell j (by omega);rw[F] at L;obtain⟨q,s,hq,M,B,C⟩:=div64 r z d T K Z;obtain⟨D,N,HZ⟩:=Ib C B F;have Y:((j+1:Nat):Int) - 1=(j:Int):=by omega
   rw[Y];clear Y C B F h l;go_wp2_with fail;refine(D.o _).mono ?_;rintro e w2 ⟨rfl,n,b⟩;have aa:w2.frozen? ⟨g,j,none⟩=false:=by rw[b];exact X
   have ab:w2.cell? ⟨g,j,none⟩=some (.int .u64 (z:Int)):=by rw[b];exact L
   have P:O (Pre w2 g a):=Hi (by rw[b];exact V.o.drewN n);have E:O (Only g w w2):=Hi (by rw[b];exact y.o.drewN n);clear b X L D;go_wp2;go_roundw
   case rel=>
    have Q:j<a.length:=by rw[f.o];omega
    refine⟨j,s,a.set j q,by omega,M,rfl,by go_num,P.o.set j q Q,by rw[List.length_set];exact f.o,m.o.set j hq,?_,?_,E.o.setCell _ _⟩
    .
     intro p hp;rw[getD_set_ne _ _ _ _ (by omega)];exact x.o p (by omega)
    .
     have e1:rs.getD j 0=z:=by rw[<-x.o j (by omega)];exact HZ.o
     rw[Qap _ _ j (by rw[List.length_set];exact Q),Qbf _ _ _ Q,Qap _ rs j (by have:=f.o;omega),e1,<-W.o];have e2:(a.set j q).drop (j+1)=a.drop (j+1):=by
      rw[List.drop_set,if_pos (by omega)]
     rw[e2];have:=N.o;rw[Nat.add_mul,Nat.mul_assoc,Nat.mul_comm q d,Nat.mul_add];generalize val 18446744073709551616 (a.drop (j+1))*d=A at*;omega
   case measure=>simp[intOf]
theorem Qq9(x:Nat)(w:Vz)(h:x<18446744073709551616):
 Calls prog 216 #[.int .u64 x] w fun e c=>(∃a b r,e=.returned (.slice a r.length b)/\U64 c a b r x)/\Below w.heap.size w c:=by
 by_cases f:x=0
 .
  subst f;go_enter func216,ntmps216;go_wp2;go_ret;exact⟨⟨none,0,[],rfl,U64.nil _⟩,Below.refl _ _⟩
 .
  have q:((x:Int) == 0)=false:=by rw[beq_eq_false_iff_ne];omega
  go_enter func216,ntmps216;go_wp2;go_ret;have hB:Blk .u64 190 (w.alloc (.cells (wordCells .u64 [x]) 190)) w.heap.size [x]:=Blk.new _ _ _ _;refine⟨⟨some ⟨w.heap.size,0,none⟩,1,[x],rfl,hB.row 1 (by simp) 1 (by omega),⟨fun d g=>by simp at g;omega,.inr (by simpa using f),by simp[val]⟩,by simp⟩,bR.alloc lZ _⟩
theorem Qf6(a:Vx)(q:Nat)(l:Vy)(x:Nat)(w:Vz)(h:U64 w a q l x)(hl:0<l.length):
 Calls prog 177 #[.slice a l.length q] w fun e I=>(∃g cap',e=.returned (.slice (some ⟨g,0,none⟩) l.length cap')/\l.length<=cap'/\w.heap.size<=g/\Pre I g l)/\Below w.heap.size w I:=by
 obtain⟨K,B,C,D,hz2⟩:=info_parts Tryz.info64;have V:=h.short;have W:∀(w:Vz) (a:Vx) (n c n' E:Nat),(binOp .eql 105 (.slice a n c) (.slice none n' E)).run prog w=.ok (.bool a.isNone) w:=fun w a n c n' E=>Lib.run_eql_slice_nil w _ _ a n c n' E underlying105
 obtain⟨b,r,rfl,X,_⟩:=h.row.cell 0 hl;have H:=Hi h;clear h;go_enter func177,ntmps177;go_wp2_with (at_builtin;refine wpList_append_own _ rfl _ _ 105 rfl w.heap.size 190 K (.int .u64 0) 1 8 underlying105 B C D hz2 rfl (by decide) _ _ _ rfl (World.ownsRow_made w #[] 0 lZ (Nat.zero_le _) rfl) ⟨b,r,none⟩ l.length q (l.map (fun n:Nat=>Value.int .u64 n)) rfl ?c1 ?c2 ?c3 ?c4 ?c5 ?c6 ?_)
 case c1=>simp
 case c2=>
  intro j u L;obtain⟨v,F⟩:=gZ L;have m:j<l.length:=by simpa using v
  obtain⟨M,y,s,G,N⟩:=H.o.row.cell j m;obtain⟨rfl,rfl⟩:b=M/\r=y:=by simpa using s
  rw[Qao];refine(((Below.refl w.heap.size w).alloc lZ _).cell (p:=⟨b,r+j,none⟩) G).trans ?_;rw[N,<-F];simp[m]
 case c3=>intro u F;obtain⟨n,_,rfl⟩:=List.mem_map.1 F;rfl
 case c4=>unfold maxLen;omega
 case c5=>omega
 case c6=>simp
 intro Y w1 d f z;obtain⟨g,cap',rfl,Z,v⟩:=d.form (by omega);obtain⟨O,P⟩:=Ia d f;clear d f z;go_wp2;go_ret;obtain⟨_,A⟩:=O.o;rcases A with ⟨A,_⟩|⟨g',J,t,A,Q,R,h5,h6,h7,S⟩
 . cases A
 .
  injection A with s e2 T
  injection s with s
  injection s with s
  subst s;subst T;refine⟨⟨g,cap',by simp,by omega,Q,t,R,fun i B=>?_⟩,((Below.refl _ w).alloc lZ _).grown P.o (by simp) (by intro k hk;simp[Value.ownBlock] at hk;omega)⟩;have U:(t.toList.take (l.length*1))[i]?=t[i]?:=by
   rw[List.getElem?_take_of_lt (by omega)];simp
  rw[<-U,S,List.getElem?_map,List.getD_eq_getElem?_getD,gE B];rfl
theorem Qrw(L:Int)(n:Nat)(a:L=n)(b:n<=2199023255552)(w:Vz):
 (Instr.makeSlice 104 (.int .i64 L) (.int .i64 L)).run prog w=.ok (.slice (some ⟨w.heap.size,0,none⟩) n n) (w.alloc (.cells (wordCells .u64 (zeros n)) 190)):=by
 subst a;rw[<-Qd6];exact Go.run_make_row' 104 190 (.int .u64 0) 8 underlying104 Tryz.info64 rfl .i64 .i64 n (by omega) (by omega) w
theorem Qrx(d s z:Nat)(j:s<64)(e:d<18446744073709551616)(f:z<2 ^ s):∃lo b a:Nat,IntKind.u64.wrap ((d:Int)*2 ^ s)=(lo:Int)/\(d:Int) / 2 ^ (64 - s)=(b:Int)/\bits .or .u64 (z:Int) (lo:Int)=(a:Int)/\b<2 ^ s/\a<18446744073709551616/\b<18446744073709551616/\a+18446744073709551616*b=z+d*2 ^ s:=by
 have k:=low64 (lo:=d) (s:=s) (by omega);have g:=Qff (lo:=d) (s:=s) (by omega) e;have c:d*2 ^ s % 18446744073709551616=2 ^ s*(d % 2 ^ (64 - s)):=by
  rw[<-Qbq (s:=s) (by omega),Nat.mul_comm d,Nat.mul_mod_mul_left]
 have h:d % 2 ^ (64 - s)+1<=2 ^ (64 - s):=Nat.mod_lt _ (Nat.two_pow_pos _);have i:=Nat.mul_le_mul_left (2 ^ s) h;rw[Qbq (by omega),Nat.mul_add,Nat.mul_one,<-c] at i;have l:2 ^ s<=9223372036854775808:=Nat.pow_le_pow_right (by decide) (show s<=63 by omega);refine⟨d*2 ^ s % 18446744073709551616,d / 2 ^ (64 - s),d*2 ^ s % 18446744073709551616+z,?_,?_,?_,g,by omega,by omega,by omega⟩
 . rw[show (d:Int)*2 ^ s=((d*2 ^ s:Nat):Int) by rw[Int.natCast_mul,Int.natCast_pow];rfl,Qar];rfl
 . rw[Int.natCast_ediv,Int.natCast_pow];rfl
 . rw[or64' ((d*2 ^ s % 18446744073709551616:Nat):Int) (z:Int) (d % 2 ^ (64 - s)) z s (by rw[c]) rfl f (by rw[<-c];omega),c]
theorem Qry(k d s z a b:Nat)(rs l:Vy)(hk:k+1<rs.length)(c:l.getD k 0=d)(e:rs.getD k 0=z)(f:a+18446744073709551616*b=z+d*2 ^ s)(h:val 18446744073709551616 (rs.take (k+1))=val 18446744073709551616 (l.take k)*2 ^ s):
 val 18446744073709551616 (((rs.set k a).set (k+1) b).take (k+1+1))=val 18446744073709551616 (l.take (k+1))*2 ^ s:=by
 rw[take_set _ _ _ (by simp;omega),Qal,List.length_take,Nat.min_eq_left (by simp;omega),take_set _ _ _ (by omega),Qal,List.length_take,Nat.min_eq_left (by omega)];rw[Qae,e] at h;rw[Qae _ l,c,Nat.add_mul,<-h,Nat.pow_succ,Nat.mul_assoc (18446744073709551616 ^ k) d];have g:18446744073709551616 ^ k*(a+18446744073709551616*b)=18446744073709551616 ^ k*(z+d*2 ^ s):=by rw[f]
 rw[Nat.mul_add,Nat.mul_add,<-Nat.mul_assoc] at g;omega
theorem Qrz(d e s:Nat)(l:s<64)(f:d<18446744073709551616)(m:e<18446744073709551616):∃lo c b:Nat,(d:Int) / 2 ^ s=(lo:Int)/\IntKind.u64.wrap ((e:Int)*2 ^ (64 - s))=(c:Int)/\bits .or .u64 (lo:Int) (c:Int)=(b:Int)/\b<18446744073709551616/\b*2 ^ s+d % 2 ^ s=d+18446744073709551616*(e % 2 ^ s):=by
 have g:=Qbq (s:=s) (by omega);have a:2 ^ (64 - s)*2 ^ s=18446744073709551616:=by rw[Nat.mul_comm];exact g
 have h:e*2 ^ (64 - s) % 18446744073709551616=2 ^ (64 - s)*(e % 2 ^ s):=by
  rw[<-a,Nat.mul_comm e,Nat.mul_mod_mul_left]
 have i:d / 2 ^ s<2 ^ (64 - s):=by
  rw[Nat.div_lt_iff_lt_mul (Nat.two_pow_pos _),a];exact f
 have j:e % 2 ^ s+1<=2 ^ s:=Nat.mod_lt _ (Nat.two_pow_pos _);have k:=Nat.mul_le_mul_left (2 ^ (64 - s)) j;rw[a,Nat.mul_add,Nat.mul_one] at k;refine⟨d / 2 ^ s,e*2 ^ (64 - s) % 18446744073709551616,2 ^ (64 - s)*(e % 2 ^ s)+d / 2 ^ s,?_,?_,?_,by omega,?_⟩
 . rw[Int.natCast_ediv,Int.natCast_pow];rfl
 . rw[show (e:Int)*2 ^ (64 - s)=((e*2 ^ (64 - s):Nat):Int) by rw[Int.natCast_mul,Int.natCast_pow];rfl,Qar];rfl
 . rw[or64' ((e*2 ^ (64 - s) % 18446744073709551616:Nat):Int) ((d / 2 ^ s:Nat):Int) (e % 2 ^ s) (d / 2 ^ s) (64 - s) (by rw[h]) rfl i (by omega)]
 .
  have n:=Nat.div_add_mod d (2 ^ s);rw[Nat.add_mul,Nat.mul_right_comm,a,Nat.mul_comm (d / 2 ^ s)];omega
theorem Qr0(k d e s a m0:Nat)(rs l:Vy)(hk:k<rs.length)(b:l.getD k 0=d)(c:l.getD (k+1) 0=e)(f:a*2 ^ s+d % 2 ^ s=d+18446744073709551616*(e % 2 ^ s))
 (h:val 18446744073709551616 (rs.take k)*2 ^ s+m0=val 18446744073709551616 (l.take k)+18446744073709551616 ^ k*(l.getD k 0 % 2 ^ s)):
 val 18446744073709551616 ((rs.set k a).take (k+1))*2 ^ s+m0=val 18446744073709551616 (l.take (k+1))+18446744073709551616 ^ (k+1)*(l.getD (k+1) 0 % 2 ^ s):=by
 rw[b] at h;rw[take_set _ _ _ hk,Qal,List.length_take,Nat.min_eq_left (by omega),Qae,b,c,Nat.pow_succ,Nat.add_mul];have g:18446744073709551616 ^ k*(a*2 ^ s+d % 2 ^ s)=18446744073709551616 ^ k*(d+18446744073709551616*(e % 2 ^ s)):=by rw[f]
 rw[Nat.mul_add,Nat.mul_add,<-Nat.mul_assoc,<-Nat.mul_assoc] at g;omega
theorem Qj2(a:Vx)(q s:Nat)(l:Vy)(x:Nat)(w:Vz)(h:U64 w a q l x)(hl:l.length<1099511627776)(T:s<64):
 Calls prog 218 #[.slice a l.length q,.int .i64 s] w fun e K=>(∃rs,e=.returned (.slice (some ⟨w.heap.size,0,none⟩) (l.length+1) (l.length+1))/\Blk .u64 190 K w.heap.size rs/\rs.length=l.length+1/\Small 18446744073709551616 rs/\val 18446744073709551616 rs=x*2 ^ s)/\Below w.heap.size w K:=by
 have C:∀w,(Instr.makeSlice 104 (.int .i64 ((l.length:Int)+1)) (.int .i64 ((l.length:Int)+1))).run prog w=.ok (.slice (some ⟨w.heap.size,0,none⟩) (l.length+1) (l.length+1)) (w.alloc (.cells (wordCells .u64 (zeros (l.length+1))) 190)):=
  fun w=>Qrw _ (l.length+1) (by omega) (by omega) w
 have H:=Hi h;clear h;go_enter func218,ntmps218;go_wp2;clear C;go_loopw [14] (fun i wr=>∃(k:Nat) (rs:Vy),k<=l.length/\i=.int .i64 k/\Blk .u64 190 wr w.heap.size rs/\rs.length=l.length+1/\Small 18446744073709551616 rs/\rs.getD k 0<2 ^ s/\(∀j,k<j->rs.getD j 0=0)/\
  val 18446744073709551616 (rs.take (k+1))=val 18446744073709551616 (l.take k)*2 ^ s/\Below w.heap.size w wr) (fun i _=>l.length - (intOf i).toNat)
 case atStart=>exact⟨0,zeros (l.length+1),by omega,rfl,Blk.new _ _ _ _,Qah _,Qaq _ _ (by omega),by rw[Qbx];exact Nat.pow_pos (by omega),fun j _=>Qbx _ j,by rw[Qae,Qbx];simp[val],bR.alloc lZ _⟩
 case round=>
  obtain⟨k,rs,hk,rfl,hB,m,r,c,hz2,L,M⟩:=hrel;obtain⟨N,f,P,t,n⟩:=Id L m hB r M;clear L r M;by_cases D:k<l.length
  .
   obtain⟨b,U,rfl,E,p⟩:=H.o.row.cell k D;obtain⟨d,B⟩:=nm (l.getD k 0);have F:d<18446744073709551616:=by rw[<-B];exact H.o.num.small.getD (by omega) k
   rw[B] at p;have Q:=ce n.o E p;have g1:=hB.free k;have V:=hB.cell k (by omega);have g3:=hB.free (k+1);have W:=hB.cell (k+1) (by omega);rw[hz2 (k+1) (by omega)] at W;obtain⟨z,G⟩:=nm (rs.getD k 0);rw[G] at V c;obtain⟨lo,R,u,u1,u2,u3,v,y,A,g⟩:=Qrx d s z T F c;obtain⟨I,X,J⟩:=Ib (Qry k d s z u R rs l (by omega) B G g N.o) hz2 v;clear B p G hB m c hz2 g v;have i0:(0:Int)<=(k:Int):=by omega
   have i1:(k:Int)<(l.length:Int)+1:=by omega
   go_wp2_with fail;go_region
   all_goals
    go_wp2;go_roundw
    case rel=>
     refine⟨k+1,(rs.set k u).set (k+1) R,by omega,by go_num,((P.o.set k _).drew).set (k+1) _,by rw[List.length_set,List.length_set];exact f.o,(t.o.set k y).set (k+1) A,?_,fun j hj=>?_,I.o,((n.o.setCell lZ _).drew).setCell lZ _⟩
     . rw[Qbf _ _ _ (by rw[List.length_set,f.o];omega)];exact J.o
     . rw[getD_set_ne _ _ _ _ (by omega),getD_set_ne _ _ _ _ (by omega)];exact X.o j (by omega)
    case measure=>simp[intOf];omega
  .
   have Y:k=l.length:=by omega
   have Z:O (val 18446744073709551616 rs=x*2 ^ s):=Hi (by
    have S:=N.o;rw[Y,List.take_length,List.take_of_length_le (by have:=f.o;omega),H.o.num.eq] at S
    exact S)
   clear m hB c hz2;go_wp2;go_ret;exact⟨⟨rs,rfl,P.o,f.o,t.o,Z.o⟩,n.o⟩
theorem Qam(n:Int)(a: -9223372036854775808<=n)(b:n<9223372036854775808):IntKind.i64.wrap n=n:=by
 simp[IntKind.wrap,IntKind.signed,IntKind.bits];omega
structure ON (w:Vz) (g cap:Nat) (C l:Vy) (n:Nat):Prop where
 pre:Pre w g C
 small:Small 18446744073709551616 C
 len:C.length<=1099511627776
 fro:C.take l.length=l
 num:Num 18446744073709551616 l n
 fit:l.length<=cap
theorem Blk.pre{w:Vz}{g:Nat}{C:Vy}(h:Blk .u64 190 w g C):Pre w g C:=
 ⟨wordCells .u64 C,h,fun i a=>by
   have c:=SB.cell (w:=w) (b:=g) (t:=190) (C:=wordCells .u64 C) h i;rw[<-c]
   exact h.cell i a⟩
theorem Pre.rowN{w:Vz}{g:Nat}{C:Vy}(h:Pre w g C)(n:Nat)(b:n<=C.length)(a:Nat)(c:n<=a):Row .u64 w (some ⟨g,0,none⟩) a (C.take n):=by
 have hl:(C.take n).length=n:=by rw[List.length_take];omega
 refine⟨by omega,.inr ⟨g,0,rfl,h.lt⟩,fun i d=>⟨g,0,rfl,h.lt,?_⟩⟩;rw[Nat.zero_add,Qfb _ _ _ (by omega)];exact h.cell i (by omega)
theorem ON.le{w:Vz}{g a n:Nat}{C l:Vy}(h:ON w g a C l n):l.length<=C.length:=by
 have:=congrArg List.length h.fro;rw[List.length_take] at this;omega
theorem ON.u64{w:Vz}{g a n:Nat}{C l:Vy}(h:ON w g a C l n):U64 w (some ⟨g,0,none⟩) a l n:=by
 have b:=h.pre.rowN l.length h.le a h.fit;rw[h.fro] at b;exact⟨b,h.num,Nat.le_trans h.le h.len⟩
theorem ON.below{w b:Vz}{g a n:Nat}{C l:Vy}(h:ON w g a C l n)(c:Bl w b):ON b g a C l n:=⟨h.pre.below c h.pre.lt,h.small,h.len,h.fro,h.num,h.fit⟩
theorem Qc2(g n a x:Nat)(C:Vy)(w:Vz)(h:Pre w g C)(j:Small 18446744073709551616 C)(l:C.length<=1099511627776)(m:n<=C.length)(o:n<=a)(p:val 18446744073709551616 (C.take n)=x):
 Calls prog 187 #[.slice (some ⟨g,0,none⟩) n a] w fun e s=>(∃r,e=.returned (.slice (some ⟨g,0,none⟩) r.length a)/\ON w g a C r x/\r.length<=n)/\s=w:=by
 have t:=h.rowN n m a o;have hl:(C.take n).length=n:=by rw[List.length_take];omega
 have k:=Qf5 (some ⟨g,0,none⟩) a (C.take n) w t (by omega);rw[hl] at k;refine k.mono ?_;rintro e w1 ⟨⟨q,u,rfl,b,c⟩,rfl⟩;have f:q<=n:=by omega
 have i:(C.take n).take q=C.take q:=by rw[List.take_take,Nat.min_eq_left f]
 rw[i] at b c;have d:(C.take q).length=q:=by rw[List.length_take];omega
 exact⟨⟨C.take q,by rw[d],⟨h,j,l,by rw[d],⟨j.take q,c,b.trans p⟩,by omega⟩,by omega⟩,rfl⟩
theorem Qrb(a:Vx)(m s:Nat)(l:Vy)(w:Vz)(h:Row .u64 w a m l)(x:Small 18446744073709551616 l)(hl:l.length<1099511627776)(hs:s<64):
 Calls prog 220 #[.slice a l.length m,.int .i64 s] w fun e F=>(∃rs r,e=.returned (.slice (some ⟨w.heap.size,0,none⟩) r.length l.length)/\ON F w.heap.size l.length rs r (val 18446744073709551616 l / 2 ^ s))/\Below w.heap.size w F:=by
 have J:∀w,(Instr.makeSlice 105 (.int .i64 (l.length:Int)) (.int .i64 (l.length:Int))).run prog w=.ok (.slice (some ⟨w.heap.size,0,none⟩) l.length l.length) (w.alloc (.cells (wordCells .u64 (zeros l.length)) 190)):=
  fun w=>Qcx _ l.length rfl (by omega) w
 obtain⟨H,y⟩:=Ia h x;clear h x;go_enter func220,ntmps220;go_wp2;clear J;go_loopw [12] (fun i wr=>∃(k:Nat) (rs:Vy),k<=l.length/\i=.int .i64 k/\Blk .u64 190 wr w.heap.size rs/\rs.length=l.length/\Small 18446744073709551616 rs/\
  val 18446744073709551616 (rs.take k)*2 ^ s+l.getD 0 0 % 2 ^ s=val 18446744073709551616 (l.take k)+18446744073709551616 ^ k*(l.getD k 0 % 2 ^ s)/\Below w.heap.size w wr) (fun i _=>l.length - (intOf i).toNat)
 case atStart=>exact⟨0,zeros l.length,by omega,rfl,Blk.new _ _ _ _,Qah _,Qaq _ _ (by omega),by simp[val],bR.alloc lZ _⟩
 case round=>
  obtain⟨k,rs,hk,rfl,hB,n,A,P,Q⟩:=hrel;obtain⟨R,c,S,B,f⟩:=Id P n hB A Q;clear P A Q;by_cases K:k<l.length
  .
   obtain⟨b,q,rfl,C,g⟩:=H.o.cell k K;obtain⟨d,G⟩:=nm (l.getD k 0);obtain⟨e,I⟩:=nm (l.getD (k+1) 0);have L:d<18446744073709551616:=by rw[<-G];exact y.o.getD (by omega) k
   have M:e<18446744073709551616:=by rw[<-I];exact y.o.getD (by omega) (k+1)
   rw[G] at g;have T:=ce f.o C g;obtain⟨z,U⟩:=nm (rs.getD k 0);have g1:=hB.free k;have g2:=hB.cell k (by omega);rw[U] at g2;obtain⟨lo,hi,u,u1,u2,u3,D,j⟩:=Qrz d e s hs L M;have N:=Hi (Qr0 k d e s u _ rs l (by omega) G I j R.o);have v:=Qby (some ⟨b,q,none⟩) m l (k+1) wr.drew (H.o.below f.o.drew) (by omega) (by omega);rw[I,show ((k+1:Nat):Int)=(k:Int)+1 by omega] at v;have wk:IntKind.i64.wrap ((k:Int)+1)=(k:Int)+1:=Qam _ (by omega) (by omega);obtain⟨t,V⟩:=nm (64 - s);have ws:IntKind.i64.wrap (64 - (s:Int))=(t:Int):=by rw[Qam _ (by omega) (by omega)];omega
   have W:t<=64:=by omega
   rw[V] at u2;clear V;have HC:=Hi v;clear v;have i0:(0:Int)<=(k:Int):=by omega
   have i1:(k:Int)<(l.length:Int):=by omega
   have aa:=(((f.o.setCell (p:=⟨w.heap.size,k,none⟩) lZ (.int .u64 (u:Int))).drew).cell (p:=⟨b,q+k,none⟩) C).trans g;clear G I g U hB n j;go_wp2_with fail;go_region_held3 (fun F=>F.cell? ⟨b,q+k,none⟩=some (.int .u64 d)) ((simp [*])) (first
    |(
     go_at_call 224;go_fit (HC.o);rintro X w2 ⟨rfl,O⟩
     subst O))
   go_wp2;go_roundw
   case rel=>exact⟨k+1,rs.set k u,by omega,by go_num,(S.o.set k _).drew,by rw[List.length_set];exact c.o,B.o.set k D,N.o,(f.o.setCell lZ _).drew⟩
   case measure=>simp[intOf];omega
  .
   have X:k=l.length:=by omega
   have E:val 18446744073709551616 rs=val 18446744073709551616 l / 2 ^ s:=by
    have Y:=R.o;rw[X,List.take_of_length_le (by have:=c.o;omega),List.take_length,Qbp l l.length lZ,Nat.zero_mod,Nat.mul_zero,Nat.add_zero] at Y;have e3:l.getD 0 0 % 2 ^ s<2 ^ s:=Nat.mod_lt _ (Nat.two_pow_pos _);rw[<-Y,Nat.mul_comm,Nat.mul_add_div (Nat.two_pow_pos _),Nat.div_eq_of_lt e3,Nat.add_zero]
   have HQ:=Hi E;clear n hB E;go_wp2_with fail;refine(Qc2 w.heap.size l.length l.length (val 18446744073709551616 l / 2 ^ s) rs _ S.o.pre B.o (by rw[c.o];omega) (by rw[c.o];exact Nat.le_refl _) lZ (by rw[List.take_of_length_le (by rw[c.o];exact Nat.le_refl _)];exact HQ.o)).mono ?_;rintro e w1 ⟨⟨r,rfl,Z,_⟩,rfl⟩;have HU:=Hi Z;clear Z;go_wp2;go_ret;exact⟨⟨rs,r,rfl,HU.o⟩,f.o⟩
structure Tops (a2 a1 a0 d1 d0 P lw lv W V:Nat):Prop where
 hP:0<P
 hW:W=(a2*18446744073709551616+a1)*(18446744073709551616*P)+a0*P+lw
 hV:V=d1*(18446744073709551616*P)+d0*P+lv
 hlw:lw<P
 hd1:0<d1
 hWV:W<18446744073709551616*V
 b2:a2<18446744073709551616
 b1:a1<18446744073709551616
 b0:a0<18446744073709551616
 c1:d1<18446744073709551616
 c0:d0<18446744073709551616
theorem Tops.pos{a b c d1 d0 P d e W V:Nat}(t:Tops a b c d1 d0 P d e W V):0<V:=by
 have:=t.hWV;rcases Nat.eq_zero_or_pos V with h|h
 . subst h;omega
 . exact h
theorem Tops.all{a b c d1 d0 P d e W V:Nat}(t:Tops a b c d1 d0 P d e W V):W / V<=18446744073709551615:=by
 have h:=t.hWV;have:W / V<18446744073709551616:=by rw[Nat.div_lt_iff_lt_mul t.pos];exact h
 omega
theorem Qri{a b r c t:Nat}(d:b+18446744073709551616*a=t)(hl:b<18446744073709551616)(e:c<18446744073709551616):(a<r∨(a=r/\b<=c))↔t<=r*18446744073709551616+c:=by omega
theorem Qrj(j l v d1 d0 P S T W V:Nat)(w:Vz)(t:Tops j l v d1 d0 P S T W V):
 Calls prog 246 #[.int .u64 j,.int .u64 l,.int .u64 v,.int .u64 d1,.int .u64 d0] w fun e w'=>∃q:Nat,e=.returned (.int .u64 (q:Int))/\q<18446744073709551616/\W / V<=q/\∃n,w'=w.drewN n:=by
 have c:=Hi t;have b2:=t.b2;have b1:=t.b1;have Z:=t.b0;have c1:=t.c1;have c0:=t.c0;clear t;by_cases hA:d1<=j
 .
  go_enter func246,ntmps246;go_wp2;go_ret;exact⟨18446744073709551615,rfl,by omega,c.o.all,0,rfl⟩
 .
  obtain⟨q,r,E,U,x,F⟩:=div64 j l d1 (by omega) b1 c1;have G:=Hi F;have H:O (W / V<=q):=Hi (by
   have h1:=Qi5 18446744073709551616 P (j*18446744073709551616+l) v S d1 d0 T W V c.o.hP (by decide) c.o.hW c.o.hV c.o.hlw Z c.o.hd1;have h2:(j*18446744073709551616+l) / d1=q:=by
    rw[show j*18446744073709551616+l=d1*q+r by omega,Nat.mul_add_div c.o.hd1,Nat.div_eq_of_lt U,Nat.add_zero]
   rw[h2] at h1
   exact h1)
  have g:O (q*d1+r=j*18446744073709551616+l):=Hi (by rw[Nat.mul_comm];omega);clear F x;go_enter func246,ntmps246;go_wp2_with fail;refine(G.o _).mono ?_;rintro e w1 ⟨rfl,n1,ab⟩;go_wp2_with fail;go_loop [11,12] (fun qv rv=>∃q r:Nat,qv=.int .u64 q/\rv=.int .u64 r/\q<18446744073709551616/\r<18446744073709551616/\q*d1+r=j*18446744073709551616+l/\W / V<=q) (fun qv _=>(intOf qv).toNat)
  case atStart=>exact⟨q,r,rfl,rfl,E,by omega,g.o,H.o⟩
  case round=>
   clear E U G H g;obtain⟨q,r,rfl,rfl,E,U,x,I⟩:=hrel;obtain⟨a,A,hh,hl,J,K⟩:=mul64 q d0 E c0;obtain⟨k,L,g,M⟩:=Ic K I x (Qri (r:=r) J hl Z);clear K I x J;by_cases ad:a<r
   .
    have z:(a:Int)<(r:Int):=by omega
    go_wp2_with fail;refine(k.o _).mono ?_;rintro e w2 ⟨rfl,i⟩;go_wp2;go_ret;exact⟨q,rfl,E,L.o,n1,rfl⟩
   by_cases X:a=r
   .
    subst X;have z:¬((a:Int)<(a:Int)):=by omega
    by_cases ae:A<=v
    .
     have N:(A:Int)<=(v:Int):=by omega
     go_wp2_with fail;refine(k.o _).mono ?_;rintro e w2 ⟨rfl,i⟩;go_wp2;go_ret;exact⟨q,rfl,E,L.o,n1,rfl⟩
    .
     have N:¬((A:Int)<=(v:Int)):=by omega
     have B:O (a*18446744073709551616+v<q*d0):=Hi (Nat.lt_of_not_le (fun h=>by have:=M.o.2 h;omega));have m:O (W / V<q):=Hi (Qfu 18446744073709551616 P (j*18446744073709551616+l) v S d1 d0 T W V q a c.o.hP c.o.hW c.o.hV c.o.hlw c.o.pos g.o B.o);obtain⟨d,b⟩:∃d,q=d+1:=⟨q - 1,by have:=Nat.lt_of_le_of_lt (Nat.zero_le _) m.o;omega⟩;have Y:(q:Int) - 1=(d:Int):=by omega
     have f:d<18446744073709551616:=by omega
     have C:=Hi b;have p:O (d*d1+(a+d1)=j*18446744073709551616+l):=Hi (by have:=g.o;rw[b,Nat.succ_mul] at this;omega);have s:O (W / V<=d):=Hi (by have h:=m.o;rw[b] at h;exact Nat.le_of_lt_succ h);clear b;by_cases u:a+d1<18446744073709551616
     .
      have Q:¬((a:Int)+(d1:Int)<(d1:Int)):=by omega
      go_wp2_with fail;refine(k.o _).mono ?_;rintro e w2 ⟨rfl,i⟩;subst i;go_wp2_with fail;go_round
      case rel=>exact⟨d,a+d1,by go_num,by go_num,f,u,p.o,s.o⟩
      case measure=>have:=C.o;simp[intOf];omega
     .
      obtain⟨y,D⟩:∃y,a+d1=y+18446744073709551616:=⟨a+d1 - 18446744073709551616,by omega⟩;have ew:IntKind.u64.wrap ((a:Int)+(d1:Int))=(y:Int):=by rw[Qar];omega
      have R:(y:Int)<(d1:Int):=by omega
      clear D u;go_wp2_with fail;refine(k.o _).mono ?_;rintro e w2 ⟨rfl,i⟩;go_wp2;go_ret;exact⟨d,rfl,f,s.o,n1,rfl⟩
   .
    have z:¬((a:Int)<(r:Int)):=by omega
    have aa:((a:Int) == (r:Int))=false:=by rw[beq_eq_false_iff_ne];omega
    have B:O (r*18446744073709551616+v<q*d0):=Hi (Nat.lt_of_not_le (fun h=>by have:=M.o.2 h;omega));have m:O (W / V<q):=Hi (Qfu 18446744073709551616 P (j*18446744073709551616+l) v S d1 d0 T W V q r c.o.hP c.o.hW c.o.hV c.o.hlw c.o.pos g.o B.o);obtain⟨d,b⟩:∃d,q=d+1:=⟨q - 1,by have:=Nat.lt_of_le_of_lt (Nat.zero_le _) m.o;omega⟩;have Y:(q:Int) - 1=(d:Int):=by omega
    have f:d<18446744073709551616:=by omega
    have C:=Hi b;have p:O (d*d1+(r+d1)=j*18446744073709551616+l):=Hi (by have:=g.o;rw[b,Nat.succ_mul] at this;omega);have s:O (W / V<=d):=Hi (by have h:=m.o;rw[b] at h;exact Nat.le_of_lt_succ h);clear b;by_cases u:r+d1<18446744073709551616
    .
     have Q:¬((r:Int)+(d1:Int)<(d1:Int)):=by omega
     go_wp2_with fail;refine(k.o _).mono ?_;rintro e w2 ⟨rfl,i⟩;subst i;go_wp2_with fail;go_round
     case rel=>exact⟨d,r+d1,by go_num,by go_num,f,u,p.o,s.o⟩
     case measure=>have:=C.o;simp[intOf];omega
    .
     obtain⟨y,D⟩:∃y,r+d1=y+18446744073709551616:=⟨r+d1 - 18446744073709551616,by omega⟩;have ew:IntKind.u64.wrap ((r:Int)+(d1:Int))=(y:Int):=by rw[Qar];omega
     have R:(y:Int)<(d1:Int):=by omega
     clear D u;go_wp2_with fail;refine(k.o _).mono ?_;rintro e w2 ⟨rfl,i⟩;go_wp2;go_ret;exact⟨d,rfl,f,s.o,n1,rfl⟩
theorem Qga{B:Nat}{u w:Vz}(h:Below B u w)(n:Nat):Below B u (w.drewN n):=⟨h.os,h.tape,h.output,h.size,h.block⟩
theorem RowDone.trans{w w1 w2:Vz}{g a n:Nat}{rs b c:Vy}(h:RowDone w w1 g a n rs b)(k:RowDone w1 w2 g a n b c):RowDone w w2 g a n rs c:=
 ⟨k.blk,k.len.trans h.len,k.small,h.only.trans k.only,fun p d=>(k.o p d).trans (h.o p d)⟩
theorem Qr1{B j x:Nat}{us vs:Vy}(hB:0<B)(d:j<=us.length)(hl:vs.length=us.length)(a:∀p,p<j->vs.getD p 0=us.getD p 0)(t:Nat)(h:val B vs+B ^ j*x=val B us+B ^ j*t):val B (vs.drop j)+x=val B (us.drop j)+t:=by
 have e:vs.take j=us.take j:=by
  apply List.ext_getElem
  . simp[hl]
  .
   intro i c b;have f:i<j:=by simp at c;omega
   have:=a i f;rw[List.getD_eq_getElem?_getD,List.getD_eq_getElem?_getD,gE (by simp at c;omega),gE (by simp at b;omega)] at this;simp only[List.getElem_take]
   simpa using this
 rw[Qaj B vs j (by omega),Qaj B us j d,e] at h;have b:B ^ j*(val B (vs.drop j)+x)=B ^ j*(val B (us.drop j)+t):=by rw[Nat.mul_add,Nat.mul_add];omega
 exact Nat.eq_of_mul_eq_mul_left (Nat.pow_pos hB) b
theorem Qr2{B e y b a c X Y:Nat}{us1:Vy}(d:e<us1.length)(f:us1.getD e 0=y)(h:val B us1+X=Y+B ^ e*a)(g:b+a=y+B*c):val B (us1.set e b)+X=Y+B ^ (e+1)*c:=by
 have i:=Qbe B us1 e b d;rw[f] at i;have j:B ^ e*(b+a)=B ^ e*(y+B*c):=by rw[g]
 rw[Nat.mul_add,Nat.mul_add,<-Nat.mul_assoc] at j;rw[Nat.pow_succ];omega
theorem Qr3{B e y b c a ca g i Y j:Nat}{us1 us2:Vy}(k:e<us1.length)(d:e<us2.length)(l:us1.getD e 0=y)(f:us2.getD e 0=y)(h:val B (us1.set e b)+(j+i)=Y+B ^ (e+1)*(g+ca))(q:val B us2+B ^ e*c=val B us1+i)(m:a+B*ca=b+c):val B (us2.set e a)+j=Y+B ^ (e+1)*g:=by
 have n:=Qbe B us1 e b k;have o:=Qbe B us2 e a d;rw[l] at n;rw[f] at o;have p:B ^ e*(a+B*ca)=B ^ e*(b+c):=by rw[m]
 rw[Nat.mul_add,Nat.mul_add,<-Nat.mul_assoc] at p;rw[Nat.pow_succ,Nat.mul_add] at h;rw[Nat.pow_succ];omega
theorem Qr4{r q D L:Nat}(a:0<D)(h:r+q*D=L)(d:L / D<=q):r<D:=by
 have e:q<=L / D:=(Nat.le_div_iff_mul_le a).2 (by omega);have b:=Nat.div_add_mod L D;have f:=Nat.mod_lt L a;have c:L / D=q:=by omega
 rw[c,Nat.mul_comm] at b;omega
theorem Qr5{r q D L T:Nat}(a:0<D)(h:r+q*D=L+T)(b:r<T):L / D<q:=by
 rw[Nat.div_lt_iff_lt_mul a];omega
theorem Qr6(g j n C N p:Nat)(us:Vy)(a2:Vx)(c2:Nat)(m:Vy)(D:Nat)(w:Vz)(hB:Blk .u64 190 w g us)(t:Small 18446744073709551616 us)(E:U64 w a2 c2 m D)(hn:m.length=N)(ab:N=n+2)(ad:p=n+1)(ae:∀b o,a2=some ⟨b,o,none⟩->b≠g)
 (hj:j+N+1<=us.length) (hz:val 18446744073709551616 (us.drop (j+N+1))=0) (hL:val 18446744073709551616 (us.drop j)<18446744073709551616*D) (bd:N+1<=C):
 Calls prog 219 #[.slice (some ⟨g,j,none⟩) (N+1) C,.slice a2 N c2] w fun e V=>∃(q:Nat) (W:Vy),e=.returned (.int .u64 (q:Int))/\q<18446744073709551616/\RowDone w V g j (N+1) us W/\val 18446744073709551616 W+18446744073709551616 ^ j*(q*D)=val 18446744073709551616 us/\val 18446744073709551616 (W.drop j)<D:=by
 have a0:=E.short;rw[hn] at a0;obtain⟨a1,a3,HM,X⟩:=Ic hB t E ae;obtain⟨b,o,rfl,af,a4⟩:=E.row.cell p (by omega);obtain⟨b',o',u,bf,F⟩:=E.row.cell n (by omega);obtain⟨rfl,rfl⟩:b=b'/\o=o':=by simpa using u
 obtain⟨x1,y⟩:∃x,m.getD p 0=x:=⟨_,rfl⟩;obtain⟨x0,G⟩:∃x,m.getD n 0=x:=⟨_,rfl⟩;rw[y] at a4;rw[G] at F;obtain⟨y2,z⟩:∃x,us.getD (j+N) 0=x:=⟨_,rfl⟩;obtain⟨y1,H⟩:∃x,us.getD (j+p) 0=x:=⟨_,rfl⟩;obtain⟨y0,I⟩:∃x,us.getD (j+n) 0=x:=⟨_,rfl⟩;have k2:=hB.cell (j+N) (by omega);have k1:=hB.cell (j+p) (by omega);have k0:=hB.cell (j+n) (by omega);rw[z] at k2;rw[H] at k1;rw[I] at k0;have P:0<x1:=by
  rcases E.num.trim with h|h
  . rw[h] at hn;simp at hn;omega
  . rw[hn,ab,show n+2 - 1=p by omega,y] at h;omega
 have ht:Tops y2 y1 y0 x1 x0 (18446744073709551616 ^ n) (val 18446744073709551616 ((us.drop j).take n)) (val 18446744073709551616 (m.take n)) (val 18446744073709551616 (us.drop j)) D:=by
  refine⟨Nat.pow_pos (by decide),?_,?_,?_,P,hL,?_,?_,?_,?_,?_⟩
  . rw[Qi7 18446744073709551616 us j n (by omega) (by rw[show j+n+3=j+N+1 by omega];exact hz),show j+n+2=j+N by omega,show j+n+1=j+p by omega,z,H,I]
  . rw[<-E.num.eq,Qi8 18446744073709551616 m n (by omega),<-ad,y,G]
  .
   have:=Qab (B:=18446744073709551616) (by decide) ((t.drop j).take n);rw[List.length_take,List.length_drop,Nat.min_eq_left (by omega)] at this;exact this
  . rw[<-z];exact t.getD (by decide) _
  . rw[<-H];exact t.getD (by decide) _
  . rw[<-I];exact t.getD (by decide) _
  . rw[<-y];exact E.num.small.getD (by decide) _
  . rw[<-G];exact E.num.small.getD (by decide) _
 obtain⟨HT,ag,HZ,HN⟩:=Ic ht z hz hn;have ah:=ht.b2;have bg:IntKind.i64.wrap ((N:Int) - 1)=(p:Int):=by rw[Qam _ (by omega) (by omega)];omega
 have bh:IntKind.i64.wrap ((N:Int) - 2)=(n:Int):=by rw[Qam _ (by omega) (by omega)];omega
 have i0:(0:Int)<=(N:Int):=by omega
 have i1:(N:Int)<(N:Int)+1:=by omega
 have i2:(0:Int)<=(p:Int):=by omega
 have i3:(p:Int)<(N:Int)+1:=by omega
 have i4:(p:Int)<(N:Int):=by omega
 have i5:(0:Int)<=(n:Int):=by omega
 have i6:(n:Int)<(N:Int)+1:=by omega
 have i7:(n:Int)<(N:Int):=by omega
 clear hB t E ae ht y G z H I P hz hL u ab ad hn;go_enter func219,ntmps219;go_wp2_with fail;go_region_held3 (fun V=>V.cell? ⟨g,j+N,none⟩=some (.int .u64 y2)/\V.cell? ⟨g,j+p,none⟩=some (.int .u64 y1)/\V.cell? ⟨g,j+n,none⟩=some (.int .u64 y0)/\V.cell? ⟨b,o+p,none⟩=some (.int .u64 x1)/\V.cell? ⟨b,o+n,none⟩=some (.int .u64 x0)) ((simp [*])) (first|(go_at_call 246;go_fit (Qrj y2 y1 y0 x1 x0 _ _ _ _ D _ HT.o);rintro e w1 ⟨q,rfl,hq,ai,n1,a5⟩;subst a5));have F:0<D:=HT.o.pos;have a6:O (Only g w (w.drewN (1+n1))):=Hi ((Only.refl g w).drewN _);have aj:O (Blk .u64 190 (w.drewN (1+n1)) g us):=Hi a1.o;have J:O (U64 (w.drewN (1+n1)) (some ⟨b,o,none⟩) c2 m D):=Hi (HM.o.below (Qga bR _));have K:=Hi ai;clear ai;go_wp2_with fail;generalize w.drewN (1+n1)=W1 at*
 have hC:=Qru g j C us (some ⟨b,o,none⟩) c2 m q W1 aj.o a3.o J.o.row J.o.num.small J.o.short hq (by have:=HN.o;omega) (by have:=HN.o;omega) X.o;rw[HN.o,HM.o.num.eq] at hC;refine hC.mono ?_;rintro e w2 ⟨ak,us1,rfl,a7,a,Q⟩;have d:us1.length=us.length:=a.len;have l:us1.getD (j+N) 0=y2:=by rw[a.o _ (.inr lZ)];exact ag.o
 have kk:=a.blk.cell (j+N) (by omega);rw[l] at kk;obtain⟨k,L,v,u,al,am⟩:=Qjq y2 ak ah a7;obtain⟨HE,HD⟩:=Ia (Qr2 (by omega) l Q al) (show RowDone w w2 g j N us us1 from ⟨a.blk,a.len,a.small,a6.o.trans a.only,a.o⟩);clear hC a Q l al J aj k0 k1 k2 d;go_wp2_with (simp only[am]);clear kk am;go_loopw [6,8,9] (fun qv tv bv wr=>∃(q k L:Nat) (A:Vy),qv=.int .u64 q/\tv=.int .u64 k/\bv=.int .u64 L/\q<18446744073709551616/\k<18446744073709551616/\L<=1/\RowDone w wr g j N us A/\val 18446744073709551616 (A.set (j+N) k)+18446744073709551616 ^ j*(q*D)=val 18446744073709551616 us+18446744073709551616 ^ (j+N+1)*L/\val 18446744073709551616 (us.drop j) / D<=q) (fun qv _ _ _=>(intOf qv).toNat)
 case atStart=>exact⟨q,k,L,us1,rfl,rfl,rfl,hq,v,u,HD.o,HE.o,K.o⟩
 case round=>
  clear hq v u HE HD K;obtain⟨q,k,L,A,rfl,rfl,rfl,hq,v,u,a,hE,Y⟩:=hrel;have d:A.length=us.length:=a.len;have l:A.getD (j+N) 0=y2:=by rw[a.o _ (.inr lZ)];exact ag.o
  obtain⟨R,an,r,HE,K⟩:=Id d l a hE Y;have ao:O (val 18446744073709551616 ((A.set (j+N) k).drop j)+q*D=val 18446744073709551616 (us.drop j)+18446744073709551616 ^ (N+1)*L):=Hi (by
   refine Qr1 (by decide) (by omega) (by rw[List.length_set];exact d) (fun p hp=>by rw[getD_set_ne _ _ _ _ (by omega)];exact a.o p (.inl hp)) _ ?_
   rw[hE,<-Nat.mul_assoc,<-Nat.pow_add,Nat.add_assoc])
  have M:O (val 18446744073709551616 ((A.set (j+N) k).drop j)<18446744073709551616 ^ (N+1)):=Hi (by
   have hs:=(a.small.set (j+N) v).drop j;have ap:=Qab (B:=18446744073709551616) (by decide) (hs.take (N+1));rw[List.length_take,List.length_drop,List.length_set,Nat.min_eq_left (by omega)] at ap;rw[Qaj 18446744073709551616 _ (N+1) (by rw[List.length_drop,List.length_set];omega),List.drop_drop];have a8:val 18446744073709551616 ((A.set (j+N) k).drop (j+(N+1)))=0:=by
    apply Qfx;intro i;rw[Qdy,getD_set_ne _ _ _ _ (by omega),a.o _ (.inr (by omega))];have:=Qfy 18446744073709551616 (by decide) _ HZ.o i;rw[Qdy] at this;rw[show j+(N+1)+i=j+N+1+i by omega];exact this
   rw[a8,Nat.mul_zero,Nat.add_zero]
   exact ap)
  by_cases a9:L=0
  .
   subst a9;have g1:=a.blk.free (j+N);have g2:=a.blk.cell (j+N) (by omega);rw[l] at g2;clear a hE Y d l;go_wp2;go_ret;refine⟨q,A.set (j+N) k,rfl,hq,⟨r.o.blk.set _ _,by rw[List.length_set];exact R.o,r.o.small.set _ v,r.o.only.setCell _ _,fun p hp=>by rw[getD_set_ne _ _ _ _ (by omega)];exact r.o.o p (by omega)⟩,by have:=HE.o;rw[Nat.mul_zero,Nat.add_zero] at this;exact this,?_⟩;have:=ao.o;rw[Nat.mul_zero,Nat.add_zero] at this;exact Qr4 F this K.o
  .
   have af:L=1:=by omega
   subst af;have aq:O (val 18446744073709551616 (us.drop j) / D<q):=Hi (Qr5 F (by have:=ao.o;rw[Nat.mul_one] at this;exact this) M.o);obtain⟨Z,aa⟩:∃Z,q=Z+1:=⟨q - 1,by have:=Nat.lt_of_le_of_lt (Nat.zero_le _) aq.o;omega⟩;have bi:(q:Int) - 1=(Z:Int):=by omega
   have ar:Z<18446744073709551616:=by omega
   have au:=Hi aa;have ba:O (val 18446744073709551616 (us.drop j) / D<=Z):=Hi (by have h:=aq.o;rw[aa] at h;exact Nat.le_of_lt_succ h);have hC:=Qrv g j C A (some ⟨b,o,none⟩) c2 m wr r.o.blk r.o.small (HM.o.row.onlyG r.o.only X.o) HM.o.num.small HM.o.short (by have:=HN.o;omega) (by have:=HN.o;omega) X.o;rw[HN.o,HM.o.num.eq] at hC;have HC:=Hi hC;clear a hE Y d l aa hC;go_wp2_with fail;refine HC.o.mono ?_;rintro e w3 ⟨c,u2,rfl,bj,f,s⟩;obtain⟨S,ca,av,be,aw,bb⟩:=Qcy k c v (by omega);have T:u2.getD (j+N) 0=y2:=by rw[f.o _ (.inr lZ)];exact an.o
   have ax:=Hi (r.o.trans f);have ay:O (val 18446744073709551616 (u2.set (j+N) S)+18446744073709551616 ^ j*(Z*D)=val 18446744073709551616 us+18446744073709551616 ^ (j+N+1)*(1 - ca)):=Hi (by
    have h:=HE.o;rw[au.o,Nat.succ_mul,Nat.mul_add] at h;rw[Nat.one_mul] at s;have bk:=f.len;have bl:=R.o;refine Qr3 (us1:=A) (us2:=u2) (by omega) (by omega) an.o T ?_ s aw;rw[show 1 - ca+ca=1 by omega]
    exact h)
   have bc:(1:Int) - (ca:Int)=((1 - ca:Nat):Int):=by omega
   obtain⟨b2,U⟩:∃b2,1 - ca=b2:=⟨_,rfl⟩;rw[U] at ay bc;have az:b2<=1:=by omega
   clear f s aw T HC U;go_wp2_with (simp only[bb]);go_roundw
   case rel=>exact⟨Z,S,b2,u2,by go_num,rfl,by go_num,ar,av,az,ax.o,ay.o,ba.o⟩
   case measure=>have:=au.o;simp[intOf];omega
end Go.Proofs.YtkkadnoecklepaaGreatDoor
