import Derived.Test.YtppkmifkpjkgpaaGreatDoorC10Dv
namespace Go.Proofs.YtppkmifkpjkgpaaGreatDoor
open Go.RowKit
open Go.Proofs.Tryz
set_option linter.unusedSimpArgs false
set_option linter.unusedVariables false
set_option maxHeartbeats 8000000
set_option maxRecDepth 1000000
theorem Qfh(x:Int)(w:Vz)(a:0<=x)(b:x<=18446744073709551615):
 Calls prog 216 #[.int .u64 x] w fun e w'=>e=.returned (.int .i64 (64 - (Lib.bitLen x.toNat:Int)))/\w'=w:=Any.bits_LeadingZeros64 Tryz.lays134 x w a b
theorem Qn3(lo y:Nat)(w:Vz)(hl:lo<18446744073709551616)(g:y<18446744073709551616)(h:0<y):
 Calls prog 221 #[.int .u64 0,.int .u64 lo,.int .u64 y] w fun e w'=>e=.returned (.tuple #[.int .u64 ((lo / y:Nat):Int),.int .u64 ((lo % y:Nat):Int)])/\∃n,w'=w.drewN n:=by
 have i:((y:Int) == 0)=false:=by rw[beq_eq_false_iff_ne];omega
 have j:¬((y:Int)<=0):=by omega
 obtain⟨Q,a⟩:=nm (lo / y);obtain⟨R,b⟩:=nm (lo % y);have c:Q<18446744073709551616:=by rw[<-a];exact Nat.lt_of_le_of_lt (Nat.div_le_self _ _) hl
 have d1:(lo:Int) / (y:Int)=(Q:Int):=by rw[<-a];rfl
 have d2:(lo:Int) % (y:Int)=(R:Int):=by rw[<-b];rfl
 have d:Int.tdiv (lo:Int) (y:Int)=(Q:Int):=by rw[<-a];rfl
 have f:Int.tmod (lo:Int) (y:Int)=(R:Int):=by rw[<-b];rfl
 rw[a,b];clear a b;go_enter func221,ntmps221;go_wp2;go_quiet (fail);go_wp2;go_ret2;exact⟨rfl,_,rfl⟩
theorem Qfi(y:Nat)(b:0<y)(c:y<18446744073709551616):∃s:Nat,s<64/\64 - (Lib.bitLen (y:Int).toNat:Int)=s/\9223372036854775808<=y*2 ^ s/\y*2 ^ s<18446744073709551616:=by
 rw[Int.toNat_natCast];have h:∀(k:Nat),k<=64->∀z,2 ^ (64 - k)<=z->z<18446744073709551616->True:=fun _ _ _ _ _=>trivial
 have d:=Qfd y;have a:=Qh5 (n:=y) (k:=nb y - 1) (by have:=Qdo b;omega);have i:nb y<=64:=nb_le c;have f:=Qdo b;have e:Lib.bitLen y=nb y:=by
  have g:=Lib.bitLen_shift (nb y - 1) y a c;have j:y / 2 ^ (nb y - 1)=1:=by
   apply Nat.le_antisymm
   .
    have:y / 2 ^ (nb y - 1)<2:=by
     rw[Nat.div_lt_iff_lt_mul (Nat.two_pow_pos _),<-Nat.pow_succ',show (nb y - 1).succ=nb y by omega];exact d
    omega
   . exact(Nat.one_le_div_iff (Nat.two_pow_pos _)).2 a
  rw[j] at g;have l:Lib.bitLen 1=1:=by decide
  rw[g,l];omega
 refine⟨64 - nb y,by omega,by rw[e];omega,?_,?_⟩
 .
  have:2 ^ (nb y - 1)*2 ^ (64 - nb y)<=y*2 ^ (64 - nb y):=Nat.mul_le_mul_right _ a;rw[<-Nat.pow_add,show nb y - 1+(64 - nb y)=63 by omega] at this;exact this
 .
  have:y*2 ^ (64 - nb y)<2 ^ nb y*2 ^ (64 - nb y):=Nat.mul_lt_mul_of_pos_right d (Nat.two_pow_pos _);rw[<-Nat.pow_add,show nb y+(64 - nb y)=64 by omega] at this;exact this
theorem Qfj(u a:Nat)(d:2147483648<=a)(c:a<4294967296)(e:u<18446744073709551616):∃q p r:Nat,u / a=q/\q*a=p/\p+r=u/\r<a/\q<8589934592/\Int.tdiv (u:Int) (a:Int)=(q:Int)/\(u:Int) / (a:Int)=(q:Int)/\(q:Int)*(a:Int)=(p:Int)/\(u:Int) - (p:Int)=(r:Int):=by
 have b:u / a*a+u % a=u:=by rw[Nat.mul_comm];exact Nat.div_add_mod u a
 refine⟨u / a,u / a*a,u % a,rfl,rfl,b,Nat.mod_lt _ (by omega),?_,rfl,rfl,rfl,?_⟩
 . rw[Nat.div_lt_iff_lt_mul (by omega)];omega
 . have:((u / a*a:Nat):Int)+((u % a:Nat):Int)=(u:Int):=by rw[<-Int.natCast_add,b]
   omega
theorem Qaz(u a q Y:Nat)(g:Y<18446744073709551616)(b:0<Y)(i:a<4294967296)(e:(4294967296*u+a) / Y=q):
 ∃c P b1 v:Nat,c+a<18446744073709551616/\b1<18446744073709551616/\v<Y/\v+q*Y=4294967296*u+a/\(IntKind.u64.wrap ((u:Int)*4294967296)=(c:Int))/\((q:Int)*(Y:Int)=(P:Int))/\(IntKind.u64.wrap (P:Int)=(b1:Int))/\IntKind.u64.wrap ((c:Int)+(a:Int) - (b1:Int))=(v:Int):=by
 have f:(4294967296*u+a) % Y+q*Y=4294967296*u+a:=by
  have h:=Nat.mod_add_div (4294967296*u+a) Y;rw[e,Nat.mul_comm Y q] at h;exact h
 have d:(4294967296*u+a) % Y<Y:=Nat.mod_lt _ b;refine⟨u*4294967296 % 18446744073709551616,q*Y,q*Y % 18446744073709551616,(4294967296*u+a) % Y,by omega,by omega,d,f,?_,rfl,?_,?_⟩
 . rw[Qao];omega
 . rw[Qao];rfl
 .
  rw[Qao];generalize q*Y=P at*;generalize (4294967296*u+a) % Y=v at*;omega
theorem Qba{b lo y s u H i a c d Y Q e v g:Nat}(j:y*2 ^ s=Y)(k:b*2 ^ s=H)(m:H+i=u)(f:lo*2 ^ s=18446744073709551616*i+a)(l:a=4294967296*c+d)(n:v+Q*Y=4294967296*u+c)(o:g+e*Y=4294967296*v+d)(hv2:g<Y):
 (18446744073709551616*b+lo) / y=Q*4294967296+e/\(18446744073709551616*b+lo) % y=g / 2 ^ s:=by
 have h:=Qfs (X:=(18446744073709551616*b+lo)*2 ^ s) (V:=Y) (x:=18446744073709551616*b+lo) (y:=y) (p:=2 ^ s) (Q:=Q*4294967296+e) (R:=g) (Nat.two_pow_pos s) rfl j (by
  rw[Nat.add_mul,Nat.mul_assoc,k,f,Nat.mul_add,Nat.mul_comm Y (Q*4294967296),Nat.mul_comm Y e,Nat.mul_assoc Q,Nat.mul_comm 4294967296 Y,<-Nat.mul_assoc];generalize Q*Y=A at*;generalize e*Y=B at*
  omega) hv2
 exact⟨h.1.symm,h.2.symm⟩
theorem Qn4(hi lo y QQ RR:Nat)(w:Vz)(bs:(18446744073709551616*hi+lo) / y=QQ)(bt:(18446744073709551616*hi+lo) % y=RR)(hh:0<hi)(bu:hi<y)(hl:lo<18446744073709551616)(hy:y<18446744073709551616):
 Calls prog 221 #[.int .u64 hi,.int .u64 lo,.int .u64 y] w fun e w'=>e=.returned (.tuple #[.int .u64 (QQ:Int),.int .u64 (RR:Int)])/\∃n,w'=w.drewN n:=by
 obtain⟨an,ao⟩:=Ia bs bt;clear bs bt;have q0:((y:Int) == 0)=false:=by rw[beq_eq_false_iff_ne];omega
 have q1:¬((y:Int)<=(hi:Int)):=by omega
 have q2:((hi:Int) == 0)=false:=by rw[beq_eq_false_iff_ne];omega
 obtain⟨s,cd,hs,b4,S⟩:=Qfi y (by omega) hy;have HL:=Hi (Qfh y w (by omega) (by omega));rw[hs] at HL;obtain⟨Y,a4⟩:=nm (y*2 ^ s);rw[a4] at b4 S;obtain⟨H,av⟩:=nm (hi*2 ^ s);have ce:H<Y:=by rw[<-av,<-a4];exact Nat.mul_lt_mul_of_pos_right bu (Nat.two_pow_pos _)
 obtain⟨l2,a3⟩:=nm (lo / 2 ^ (64 - s));have bv:l2<2 ^ s:=by rw[<-a3];exact Qfk (by omega) hl
 obtain⟨ab,ap⟩:∃z,lo*2 ^ s % 18446744073709551616=z:=⟨_,rfl⟩;have bf:ab<18446744073709551616:=by rw[<-ap];exact Nat.mod_lt _ (by decide)
 have a5:=low64 (lo:=lo) (s:=s) (by omega);rw[a3,ap] at a5;have A:H+l2<Y:=by
  have:(hi+1)*2 ^ s<=y*2 ^ s:=Nat.mul_le_mul_right _ bu;rw[Nat.add_mul,av,a4,Nat.one_mul] at this;omega
 have r1:IntKind.u64.wrap ((y:Int)*2 ^ s)=(Y:Int):=by
  rw[show (y:Int)*2 ^ s=((y*2 ^ s:Nat):Int) by rw[Int.natCast_mul,Int.natCast_pow];rfl,a4];exact Qcb Y S
 have r4:IntKind.u64.wrap ((hi:Int)*2 ^ s)=(H:Int):=by
  rw[show (hi:Int)*2 ^ s=((hi*2 ^ s:Nat):Int) by rw[Int.natCast_mul,Int.natCast_pow];rfl,av];exact Qcb H (by omega)
 have r5:(lo:Int) / 2 ^ (64 - s)=(l2:Int):=by
  rw[<-a3,Int.natCast_ediv,Int.natCast_pow];rfl
 have r7:IntKind.u64.wrap ((lo:Int)*2 ^ s)=(ab:Int):=by
  rw[show (lo:Int)*2 ^ s=((lo*2 ^ s:Nat):Int) by rw[Int.natCast_mul,Int.natCast_pow];rfl,Qao,<-ap];rfl
 obtain⟨u,hu⟩:=nm (H+l2);have r6:bits .or .u64 (H:Int) (l2:Int)=(u:Int):=by
  rw[or64 (H:Int) (l2:Int) hi l2 s (by rw[<-av,Nat.mul_comm]) rfl bv (by rw[Nat.mul_comm,av];omega),Nat.mul_comm,av,hu]
 rw[hu] at A;obtain⟨a,bw⟩:∃z,Y / 4294967296=z:=⟨_,rfl⟩;obtain⟨ag,bg⟩:∃z,Y % 4294967296=z:=⟨_,rfl⟩;have bl:Y=4294967296*a+ag:=by omega
 have aa:2147483648<=a/\a<4294967296:=by omega
 have I:ag<4294967296:=by omega
 have r2:(Y:Int) / 4294967296=(a:Int):=by omega
 have D:bits .and .u64 (Y:Int) 4294967295=(ag:Int):=by rw[Mul64.maskN Y S,bg]
 obtain⟨G,bx⟩:∃z,ab / 4294967296=z:=⟨_,rfl⟩;obtain⟨f,bh⟩:∃z,ab % 4294967296=z:=⟨_,rfl⟩;have l:G<4294967296:=by omega
 have d:f<4294967296:=by omega
 have r8:(ab:Int) / 4294967296=(G:Int):=by omega
 have r9:bits .and .u64 (ab:Int) 4294967295=(f:Int):=by rw[Mul64.maskN ab bf,bh]
 have m:((a:Int) == 0)=false:=by rw[beq_eq_false_iff_ne];omega
 obtain⟨q,hq⟩:=nm (u / a);obtain⟨p,hp⟩:=nm (q*a);obtain⟨r,hr⟩:=nm (u % a);have bz:p+r=u:=by rw[<-hp,<-hq,<-hr,Nat.mul_comm];exact Nat.div_add_mod u a
 have b0:r<a:=by rw[<-hr];exact Nat.mod_lt _ (by omega)
 have b5:Int.tdiv (u:Int) (a:Int)=(q:Int):=by rw[<-hq];rfl
 have b2:(u:Int) / (a:Int)=(q:Int):=by rw[<-hq];rfl
 have b6:(q:Int)*(a:Int)=(p:Int):=by rw[<-hp];rfl
 have bm:q<8589934592:=by
  rw[<-hq,Nat.div_lt_iff_lt_mul (by omega)];omega
 obtain⟨E,aq,X,ar,au,HU,b7,HP⟩:=Ig bl (show ab=4294967296*G+f by omega) a5 a4 av hu bz hp;have b8:O ((4294967296*u+G) / Y<=q):=Hi (by rw[<-hq];exact Qdt bl l (by omega));have b9:(u:Int) - (p:Int)=(r:Int):=by omega
 clear a4 av a3 ap bv hu hq hr hp bl bw bg bx bh a5 bz hs;go_enter func221,ntmps221;go_wp2_with fail;refine HL.o.mono ?_;rintro e w ⟨rfl,hw⟩;subst hw;clear HL;go_wp2_with fail;have x:0<Y:=by omega
 go_loop [15,16] (fun qv rv=>∃q r:Nat,qv=.int .u64 q/\rv=.int .u64 r/\q*a+r=u/\(4294967296*u+G) / Y<=q/\r<4294967296/\q<8589934592) (fun qv _=>(intOf qv).toNat)
 case atStart=>exact⟨q,r,rfl,rfl,by rw[HP.o];exact b7.o,b8.o,by omega,bm⟩
 case round=>
  clear bm b0 b5 b2 b6 b9;obtain⟨q,r,rfl,rfl,ah,hQ,b0,bm⟩:=hrel;obtain⟨bn,HQ⟩:=Ia ah hQ;clear ah hQ;by_cases hA:4294967296<=q
  .
   have bo:O ((4294967296*u+G) / Y<q):=Hi (Nat.lt_of_lt_of_le (Qae A l) hA);have ca:(4294967296:Int)<=(q:Int):=by omega
   have bp:1<=q:=by omega
   clear hA;obtain⟨T,k⟩:∃T,q=T+1:=⟨q - 1,by omega⟩;have cb:(q:Int) - 1=(T:Int):=by omega
   have b3:T<8589934592:=by omega
   have bq:=Hi k;have ai:O (T*a+(r+a)=u):=Hi (by have:=bn.o;rw[k,Nat.succ_mul] at this;omega);have a6:O ((4294967296*u+G) / Y<=T):=Hi (Nat.le_of_lt_succ (by have:=bo.o;omega));clear k bp;by_cases hC:4294967296<=r+a
   .
    have U:=Qbj E.o I A ai.o hC (by omega);have Z:O ((4294967296*u+G) / Y=T):=Hi (Qa1 x ((Qa0 (n1:=G) E.o ai.o).1 (by omega)) a6.o);have V:(4294967296:Int)<=(r:Int)+(a:Int):=by omega
    clear hC U;obtain⟨a1,P,b1,v,aj,ak,F,j,z1,z2,z3,z4⟩:=Qaz u G T Y S x l Z.o;obtain⟨a7,p2,a8,aw,ax,ad,ay,ae,x1,x2,x3,x4⟩:=Qfj v a aa.1 aa.2 (by omega);obtain⟨al,a9,ba,az⟩:=Ic j aw ax ad;clear j r1 r2 D r4 r5 r6 r7 r8 r9 aw ax ad;go_wp2_with fail;clear z1 z2 z3 z4;go_loop [18,16] (fun qv rv=>∃q r:Nat,qv=.int .u64 q/\rv=.int .u64 r/\q*a+r=v/\(4294967296*v+f) / Y<=q/\r<4294967296/\q<8589934592) (fun qv _=>(intOf qv).toNat)
    case atStart=>exact⟨a7,a8,rfl,rfl,by rw[ba.o];exact az.o,by rw[<-a9.o];exact Qdt E.o d (by omega),by omega,ae⟩
    case round=>
     clear x1 x2 x3 x4 ay ae;obtain⟨m,D,rfl,rfl,ah,hQ,bi,bj⟩:=hrel;obtain⟨J,bb⟩:=Ia ah hQ;clear ah hQ;by_cases hA:4294967296<=m
     .
      have K:O ((4294967296*v+f) / Y<m):=Hi (Nat.lt_of_lt_of_le (Qae F d) hA);have bc:(4294967296:Int)<=(m:Int):=by omega
      have L:1<=m:=by omega
      clear hA;obtain⟨b,k⟩:∃b,m=b+1:=⟨m - 1,by omega⟩;have a0:(m:Int) - 1=(b:Int):=by omega
      have am:b<8589934592:=by omega
      have M:=Hi k;have g:O (b*a+(D+a)=v):=Hi (by have:=J.o;rw[k,Nat.succ_mul] at this;omega);have B:O ((4294967296*v+f) / Y<=b):=Hi (Nat.le_of_lt_succ (by have:=K.o;omega));clear k L;by_cases hC:4294967296<=D+a
      .
       have U:=Qbj E.o I F g.o hC (by omega);have i:O ((4294967296*v+f) / Y=b):=Hi (Qa1 x ((Qa0 (n1:=f) E.o g.o).1 (by omega)) B.o);have V:(4294967296:Int)<=(D:Int)+(a:Int):=by omega
       clear hC U;obtain⟨a1,P,b1,v2,aj,ak,C,j,y1,y2,y3,y4⟩:=Qaz v f b Y S x d i.o;have a2:T<4294967296:=by rw[<-Z.o];exact Qae A l
       have af:b<4294967296:=by rw[<-i.o];exact Qae F d
       obtain⟨R,N⟩:=nm (v2 / 2 ^ s);have rR:(v2:Int) / 2 ^ s=(R:Int):=by rw[<-N,Int.natCast_ediv,Int.natCast_pow];rfl
       have c:=Hi (Qba ar.o au.o HU.o X.o aq.o al.o j C);rw[N] at c;clear j N;go_wp2_with fail;go_ret2;have e1:(QQ:Int)=(T:Int)*4294967296+(b:Int):=by have:=c.o.1;rw[an.o] at this;omega
       have e2:(RR:Int)=(R:Int):=by have:=c.o.2;rw[ao.o] at this;omega
       exact⟨by rw[e1,e2];rfl,0,rfl⟩
      .
       have V:¬((4294967296:Int)<=(D:Int)+(a:Int)):=by omega
       have W:D+a<4294967296:=by omega
       clear hC;go_wp2_with fail;go_round
       case rel=>exact⟨b,D+a,by go_num,by go_num,g.o,B.o,W,by omega⟩
       case measure=>have:=M.o;simp[intOf];omega
     .
      obtain⟨t2,ht⟩:∃t,m*ag=t:=⟨_,rfl⟩;have bk:t2<=4294967295*4294967295:=by rw[<-ht];exact Nat.mul_le_mul (by omega) (by omega)
      have bd:(m:Int)*(ag:Int)=(t2:Int):=by rw[<-ht];rfl
      have Q:=Hi (Qa0 (n1:=f) E.o J.o);rw[ht] at Q;have bc:¬((4294967296:Int)<=(m:Int)):=by omega
      clear ht hA;by_cases hB:t2<=4294967296*D+f
      .
       have i:=Hi (Qa1 x (Q.o.1 hB) bb.o);have be:¬(4294967296*(D:Int)+(f:Int)<(t2:Int)):=by omega
       clear hB;obtain⟨a1,P,b1,v2,aj,ak,C,j,y1,y2,y3,y4⟩:=Qaz v f m Y S x d i.o;have a2:T<4294967296:=by rw[<-Z.o];exact Qae A l
       have af:m<4294967296:=by rw[<-i.o];exact Qae F d
       obtain⟨R,N⟩:=nm (v2 / 2 ^ s);have rR:(v2:Int) / 2 ^ s=(R:Int):=by rw[<-N,Int.natCast_ediv,Int.natCast_pow];rfl
       have c:=Hi (Qba ar.o au.o HU.o X.o aq.o al.o j C);rw[N] at c;clear j N;go_wp2_with fail;go_ret2;have e1:(QQ:Int)=(T:Int)*4294967296+(m:Int):=by have:=c.o.1;rw[an.o] at this;omega
       have e2:(RR:Int)=(R:Int):=by have:=c.o.2;rw[ao.o] at this;omega
       exact⟨by rw[e1,e2];rfl,0,rfl⟩
      .
       have K:=Hi (Qdu x (fun h=>hB (Q.o.2 h)));have be:4294967296*(D:Int)+(f:Int)<(t2:Int):=by omega
       have L:1<=m:=by
        rcases Nat.eq_zero_or_pos m with h|h
        .
         exfalso
         subst h;have:=bd;simp at this;omega
        . exact h
       clear hB;obtain⟨b,k⟩:∃b,m=b+1:=⟨m - 1,by omega⟩;have a0:(m:Int) - 1=(b:Int):=by omega
       have am:b<8589934592:=by omega
       have M:=Hi k;have g:O (b*a+(D+a)=v):=Hi (by have:=J.o;rw[k,Nat.succ_mul] at this;omega);have B:O ((4294967296*v+f) / Y<=b):=Hi (Nat.le_of_lt_succ (by have:=K.o;omega));clear k L;by_cases hC:4294967296<=D+a
       .
        have U:=Qbj E.o I F g.o hC (by omega);have i:O ((4294967296*v+f) / Y=b):=Hi (Qa1 x ((Qa0 (n1:=f) E.o g.o).1 (by omega)) B.o);have V:(4294967296:Int)<=(D:Int)+(a:Int):=by omega
        clear hC U;obtain⟨a1,P,b1,v2,aj,ak,C,j,y1,y2,y3,y4⟩:=Qaz v f b Y S x d i.o;have a2:T<4294967296:=by rw[<-Z.o];exact Qae A l
        have af:b<4294967296:=by rw[<-i.o];exact Qae F d
        obtain⟨R,N⟩:=nm (v2 / 2 ^ s);have rR:(v2:Int) / 2 ^ s=(R:Int):=by rw[<-N,Int.natCast_ediv,Int.natCast_pow];rfl
        have c:=Hi (Qba ar.o au.o HU.o X.o aq.o al.o j C);rw[N] at c;clear j N;go_wp2_with fail;go_ret2;have e1:(QQ:Int)=(T:Int)*4294967296+(b:Int):=by have:=c.o.1;rw[an.o] at this;omega
        have e2:(RR:Int)=(R:Int):=by have:=c.o.2;rw[ao.o] at this;omega
        exact⟨by rw[e1,e2];rfl,0,rfl⟩
       .
        have V:¬((4294967296:Int)<=(D:Int)+(a:Int)):=by omega
        have W:D+a<4294967296:=by omega
        clear hC;go_wp2_with fail;go_round
        case rel=>exact⟨b,D+a,by go_num,by go_num,g.o,B.o,W,by omega⟩
        case measure=>have:=M.o;simp[intOf];omega
   .
    have V:¬((4294967296:Int)<=(r:Int)+(a:Int)):=by omega
    have W:r+a<4294967296:=by omega
    clear hC;go_wp2_with fail;go_round
    case rel=>exact⟨T,r+a,by go_num,by go_num,ai.o,a6.o,W,by omega⟩
    case measure=>have:=bq.o;simp[intOf];omega
  .
   obtain⟨t,ht⟩:=nm (q*ag);have cf:t<=4294967295*4294967295:=by rw[<-ht];exact Nat.mul_le_mul (by omega) (by omega)
   have rt:(q:Int)*(ag:Int)=(t:Int):=by rw[<-ht];rfl
   have br:=Hi (Qa0 (n1:=G) E.o bn.o);rw[ht] at br;have ca:¬((4294967296:Int)<=(q:Int)):=by omega
   clear ht hA;by_cases hB:t<=4294967296*r+G
   .
    have Z:=Hi (Qa1 x (br.o.1 hB) HQ.o);have cc:¬(4294967296*(r:Int)+(G:Int)<(t:Int)):=by omega
    clear hB;obtain⟨a1,P,b1,v,aj,ak,F,j,z1,z2,z3,z4⟩:=Qaz u G q Y S x l Z.o;obtain⟨a7,p2,a8,aw,ax,ad,ay,ae,x1,x2,x3,x4⟩:=Qfj v a aa.1 aa.2 (by omega);obtain⟨al,a9,ba,az⟩:=Ic j aw ax ad;clear j r1 r2 D r4 r5 r6 r7 r8 r9 aw ax ad;go_wp2_with fail;clear z1 z2 z3 z4;go_loop [18,16] (fun qv rv=>∃q r:Nat,qv=.int .u64 q/\rv=.int .u64 r/\q*a+r=v/\(4294967296*v+f) / Y<=q/\r<4294967296/\q<8589934592) (fun qv _=>(intOf qv).toNat)
    case atStart=>exact⟨a7,a8,rfl,rfl,by rw[ba.o];exact az.o,by rw[<-a9.o];exact Qdt E.o d (by omega),by omega,ae⟩
    case round=>
     clear x1 x2 x3 x4 ay ae;obtain⟨m,D,rfl,rfl,ah,hQ,bi,bj⟩:=hrel;obtain⟨J,bb⟩:=Ia ah hQ;clear ah hQ;by_cases hA:4294967296<=m
     .
      have K:O ((4294967296*v+f) / Y<m):=Hi (Nat.lt_of_lt_of_le (Qae F d) hA);have bc:(4294967296:Int)<=(m:Int):=by omega
      have L:1<=m:=by omega
      clear hA;obtain⟨b,k⟩:∃b,m=b+1:=⟨m - 1,by omega⟩;have a0:(m:Int) - 1=(b:Int):=by omega
      have am:b<8589934592:=by omega
      have M:=Hi k;have g:O (b*a+(D+a)=v):=Hi (by have:=J.o;rw[k,Nat.succ_mul] at this;omega);have B:O ((4294967296*v+f) / Y<=b):=Hi (Nat.le_of_lt_succ (by have:=K.o;omega));clear k L;by_cases hC:4294967296<=D+a
      .
       have U:=Qbj E.o I F g.o hC (by omega);have i:O ((4294967296*v+f) / Y=b):=Hi (Qa1 x ((Qa0 (n1:=f) E.o g.o).1 (by omega)) B.o);have V:(4294967296:Int)<=(D:Int)+(a:Int):=by omega
       clear hC U;obtain⟨a1,P,b1,v2,aj,ak,C,j,y1,y2,y3,y4⟩:=Qaz v f b Y S x d i.o;have a2:q<4294967296:=by rw[<-Z.o];exact Qae A l
       have af:b<4294967296:=by rw[<-i.o];exact Qae F d
       obtain⟨R,N⟩:=nm (v2 / 2 ^ s);have rR:(v2:Int) / 2 ^ s=(R:Int):=by rw[<-N,Int.natCast_ediv,Int.natCast_pow];rfl
       have c:=Hi (Qba ar.o au.o HU.o X.o aq.o al.o j C);rw[N] at c;clear j N;go_wp2_with fail;go_ret2;have e1:(QQ:Int)=(q:Int)*4294967296+(b:Int):=by have:=c.o.1;rw[an.o] at this;omega
       have e2:(RR:Int)=(R:Int):=by have:=c.o.2;rw[ao.o] at this;omega
       exact⟨by rw[e1,e2];rfl,0,rfl⟩
      .
       have V:¬((4294967296:Int)<=(D:Int)+(a:Int)):=by omega
       have W:D+a<4294967296:=by omega
       clear hC;go_wp2_with fail;go_round
       case rel=>exact⟨b,D+a,by go_num,by go_num,g.o,B.o,W,by omega⟩
       case measure=>have:=M.o;simp[intOf];omega
     .
      obtain⟨t2,ht⟩:∃t,m*ag=t:=⟨_,rfl⟩;have bk:t2<=4294967295*4294967295:=by rw[<-ht];exact Nat.mul_le_mul (by omega) (by omega)
      have bd:(m:Int)*(ag:Int)=(t2:Int):=by rw[<-ht];rfl
      have Q:=Hi (Qa0 (n1:=f) E.o J.o);rw[ht] at Q;have bc:¬((4294967296:Int)<=(m:Int)):=by omega
      clear ht hA;by_cases hB:t2<=4294967296*D+f
      .
       have i:=Hi (Qa1 x (Q.o.1 hB) bb.o);have be:¬(4294967296*(D:Int)+(f:Int)<(t2:Int)):=by omega
       clear hB;obtain⟨a1,P,b1,v2,aj,ak,C,j,y1,y2,y3,y4⟩:=Qaz v f m Y S x d i.o;have a2:q<4294967296:=by rw[<-Z.o];exact Qae A l
       have af:m<4294967296:=by rw[<-i.o];exact Qae F d
       obtain⟨R,N⟩:=nm (v2 / 2 ^ s);have rR:(v2:Int) / 2 ^ s=(R:Int):=by rw[<-N,Int.natCast_ediv,Int.natCast_pow];rfl
       have c:=Hi (Qba ar.o au.o HU.o X.o aq.o al.o j C);rw[N] at c;clear j N;go_wp2_with fail;go_ret2;have e1:(QQ:Int)=(q:Int)*4294967296+(m:Int):=by have:=c.o.1;rw[an.o] at this;omega
       have e2:(RR:Int)=(R:Int):=by have:=c.o.2;rw[ao.o] at this;omega
       exact⟨by rw[e1,e2];rfl,0,rfl⟩
      .
       have K:=Hi (Qdu x (fun h=>hB (Q.o.2 h)));have be:4294967296*(D:Int)+(f:Int)<(t2:Int):=by omega
       have L:1<=m:=by
        rcases Nat.eq_zero_or_pos m with h|h
        .
         exfalso
         subst h;have:=bd;simp at this;omega
        . exact h
       clear hB;obtain⟨b,k⟩:∃b,m=b+1:=⟨m - 1,by omega⟩;have a0:(m:Int) - 1=(b:Int):=by omega
       have am:b<8589934592:=by omega
       have M:=Hi k;have g:O (b*a+(D+a)=v):=Hi (by have:=J.o;rw[k,Nat.succ_mul] at this;omega);have B:O ((4294967296*v+f) / Y<=b):=Hi (Nat.le_of_lt_succ (by have:=K.o;omega));clear k L;by_cases hC:4294967296<=D+a
       .
        have U:=Qbj E.o I F g.o hC (by omega);have i:O ((4294967296*v+f) / Y=b):=Hi (Qa1 x ((Qa0 (n1:=f) E.o g.o).1 (by omega)) B.o);have V:(4294967296:Int)<=(D:Int)+(a:Int):=by omega
        clear hC U;obtain⟨a1,P,b1,v2,aj,ak,C,j,y1,y2,y3,y4⟩:=Qaz v f b Y S x d i.o;have a2:q<4294967296:=by rw[<-Z.o];exact Qae A l
        have af:b<4294967296:=by rw[<-i.o];exact Qae F d
        obtain⟨R,N⟩:=nm (v2 / 2 ^ s);have rR:(v2:Int) / 2 ^ s=(R:Int):=by rw[<-N,Int.natCast_ediv,Int.natCast_pow];rfl
        have c:=Hi (Qba ar.o au.o HU.o X.o aq.o al.o j C);rw[N] at c;clear j N;go_wp2_with fail;go_ret2;have e1:(QQ:Int)=(q:Int)*4294967296+(b:Int):=by have:=c.o.1;rw[an.o] at this;omega
        have e2:(RR:Int)=(R:Int):=by have:=c.o.2;rw[ao.o] at this;omega
        exact⟨by rw[e1,e2];rfl,0,rfl⟩
       .
        have V:¬((4294967296:Int)<=(D:Int)+(a:Int)):=by omega
        have W:D+a<4294967296:=by omega
        clear hC;go_wp2_with fail;go_round
        case rel=>exact⟨b,D+a,by go_num,by go_num,g.o,B.o,W,by omega⟩
        case measure=>have:=M.o;simp[intOf];omega
   .
    have bo:=Hi (Qdu x (fun h=>hB (br.o.2 h)));have cc:4294967296*(r:Int)+(G:Int)<(t:Int):=by omega
    have bp:1<=q:=by
     rcases Nat.eq_zero_or_pos q with h|h
     .
      exfalso
      subst h;have:=rt;simp at this;omega
     . exact h
    clear hB;obtain⟨T,k⟩:∃T,q=T+1:=⟨q - 1,by omega⟩;have cb:(q:Int) - 1=(T:Int):=by omega
    have b3:T<8589934592:=by omega
    have bq:=Hi k;have ai:O (T*a+(r+a)=u):=Hi (by have:=bn.o;rw[k,Nat.succ_mul] at this;omega);have a6:O ((4294967296*u+G) / Y<=T):=Hi (Nat.le_of_lt_succ (by have:=bo.o;omega));clear k bp;by_cases hC:4294967296<=r+a
    .
     have U:=Qbj E.o I A ai.o hC (by omega);have Z:O ((4294967296*u+G) / Y=T):=Hi (Qa1 x ((Qa0 (n1:=G) E.o ai.o).1 (by omega)) a6.o);have V:(4294967296:Int)<=(r:Int)+(a:Int):=by omega
     clear hC U;obtain⟨a1,P,b1,v,aj,ak,F,j,z1,z2,z3,z4⟩:=Qaz u G T Y S x l Z.o;obtain⟨a7,p2,a8,aw,ax,ad,ay,ae,x1,x2,x3,x4⟩:=Qfj v a aa.1 aa.2 (by omega);obtain⟨al,a9,ba,az⟩:=Ic j aw ax ad;clear j r1 r2 D r4 r5 r6 r7 r8 r9 aw ax ad;go_wp2_with fail;clear z1 z2 z3 z4;go_loop [18,16] (fun qv rv=>∃q r:Nat,qv=.int .u64 q/\rv=.int .u64 r/\q*a+r=v/\(4294967296*v+f) / Y<=q/\r<4294967296/\q<8589934592) (fun qv _=>(intOf qv).toNat)
     case atStart=>exact⟨a7,a8,rfl,rfl,by rw[ba.o];exact az.o,by rw[<-a9.o];exact Qdt E.o d (by omega),by omega,ae⟩
     case round=>
      clear x1 x2 x3 x4 ay ae;obtain⟨m,D,rfl,rfl,ah,hQ,bi,bj⟩:=hrel;obtain⟨J,bb⟩:=Ia ah hQ;clear ah hQ;by_cases hA:4294967296<=m
      .
       have K:O ((4294967296*v+f) / Y<m):=Hi (Nat.lt_of_lt_of_le (Qae F d) hA);have bc:(4294967296:Int)<=(m:Int):=by omega
       have L:1<=m:=by omega
       clear hA;obtain⟨b,k⟩:∃b,m=b+1:=⟨m - 1,by omega⟩;have a0:(m:Int) - 1=(b:Int):=by omega
       have am:b<8589934592:=by omega
       have M:=Hi k;have g:O (b*a+(D+a)=v):=Hi (by have:=J.o;rw[k,Nat.succ_mul] at this;omega);have B:O ((4294967296*v+f) / Y<=b):=Hi (Nat.le_of_lt_succ (by have:=K.o;omega));clear k L;by_cases hC:4294967296<=D+a
       .
        have U:=Qbj E.o I F g.o hC (by omega);have i:O ((4294967296*v+f) / Y=b):=Hi (Qa1 x ((Qa0 (n1:=f) E.o g.o).1 (by omega)) B.o);have V:(4294967296:Int)<=(D:Int)+(a:Int):=by omega
        clear hC U;obtain⟨a1,P,b1,v2,aj,ak,C,j,y1,y2,y3,y4⟩:=Qaz v f b Y S x d i.o;have a2:T<4294967296:=by rw[<-Z.o];exact Qae A l
        have af:b<4294967296:=by rw[<-i.o];exact Qae F d
        obtain⟨R,N⟩:=nm (v2 / 2 ^ s);have rR:(v2:Int) / 2 ^ s=(R:Int):=by rw[<-N,Int.natCast_ediv,Int.natCast_pow];rfl
        have c:=Hi (Qba ar.o au.o HU.o X.o aq.o al.o j C);rw[N] at c;clear j N;go_wp2_with fail;go_ret2;have e1:(QQ:Int)=(T:Int)*4294967296+(b:Int):=by have:=c.o.1;rw[an.o] at this;omega
        have e2:(RR:Int)=(R:Int):=by have:=c.o.2;rw[ao.o] at this;omega
        exact⟨by rw[e1,e2];rfl,0,rfl⟩
       .
        have V:¬((4294967296:Int)<=(D:Int)+(a:Int)):=by omega
        have W:D+a<4294967296:=by omega
        clear hC;go_wp2_with fail;go_round
        case rel=>exact⟨b,D+a,by go_num,by go_num,g.o,B.o,W,by omega⟩
        case measure=>have:=M.o;simp[intOf];omega
      .
       obtain⟨t2,ht⟩:∃t,m*ag=t:=⟨_,rfl⟩;have bk:t2<=4294967295*4294967295:=by rw[<-ht];exact Nat.mul_le_mul (by omega) (by omega)
       have bd:(m:Int)*(ag:Int)=(t2:Int):=by rw[<-ht];rfl
       have Q:=Hi (Qa0 (n1:=f) E.o J.o);rw[ht] at Q;have bc:¬((4294967296:Int)<=(m:Int)):=by omega
       clear ht hA;by_cases hB:t2<=4294967296*D+f
       .
        have i:=Hi (Qa1 x (Q.o.1 hB) bb.o);have be:¬(4294967296*(D:Int)+(f:Int)<(t2:Int)):=by omega
        clear hB;obtain⟨a1,P,b1,v2,aj,ak,C,j,y1,y2,y3,y4⟩:=Qaz v f m Y S x d i.o;have a2:T<4294967296:=by rw[<-Z.o];exact Qae A l
        have af:m<4294967296:=by rw[<-i.o];exact Qae F d
        obtain⟨R,N⟩:=nm (v2 / 2 ^ s);have rR:(v2:Int) / 2 ^ s=(R:Int):=by rw[<-N,Int.natCast_ediv,Int.natCast_pow];rfl
        have c:=Hi (Qba ar.o au.o HU.o X.o aq.o al.o j C);rw[N] at c;clear j N;go_wp2_with fail;go_ret2;have e1:(QQ:Int)=(T:Int)*4294967296+(m:Int):=by have:=c.o.1;rw[an.o] at this;omega
        have e2:(RR:Int)=(R:Int):=by have:=c.o.2;rw[ao.o] at this;omega
        exact⟨by rw[e1,e2];rfl,0,rfl⟩
       .
        have K:=Hi (Qdu x (fun h=>hB (Q.o.2 h)));have be:4294967296*(D:Int)+(f:Int)<(t2:Int):=by omega
        have L:1<=m:=by
         rcases Nat.eq_zero_or_pos m with h|h
         .
          exfalso
          subst h;have:=bd;simp at this;omega
         . exact h
        clear hB;obtain⟨b,k⟩:∃b,m=b+1:=⟨m - 1,by omega⟩;have a0:(m:Int) - 1=(b:Int):=by omega
        have am:b<8589934592:=by omega
        have M:=Hi k;have g:O (b*a+(D+a)=v):=Hi (by have:=J.o;rw[k,Nat.succ_mul] at this;omega);have B:O ((4294967296*v+f) / Y<=b):=Hi (Nat.le_of_lt_succ (by have:=K.o;omega));clear k L;by_cases hC:4294967296<=D+a
        .
         have U:=Qbj E.o I F g.o hC (by omega);have i:O ((4294967296*v+f) / Y=b):=Hi (Qa1 x ((Qa0 (n1:=f) E.o g.o).1 (by omega)) B.o);have V:(4294967296:Int)<=(D:Int)+(a:Int):=by omega
         clear hC U;obtain⟨a1,P,b1,v2,aj,ak,C,j,y1,y2,y3,y4⟩:=Qaz v f b Y S x d i.o;have a2:T<4294967296:=by rw[<-Z.o];exact Qae A l
         have af:b<4294967296:=by rw[<-i.o];exact Qae F d
         obtain⟨R,N⟩:=nm (v2 / 2 ^ s);have rR:(v2:Int) / 2 ^ s=(R:Int):=by rw[<-N,Int.natCast_ediv,Int.natCast_pow];rfl
         have c:=Hi (Qba ar.o au.o HU.o X.o aq.o al.o j C);rw[N] at c;clear j N;go_wp2_with fail;go_ret2;have e1:(QQ:Int)=(T:Int)*4294967296+(b:Int):=by have:=c.o.1;rw[an.o] at this;omega
         have e2:(RR:Int)=(R:Int):=by have:=c.o.2;rw[ao.o] at this;omega
         exact⟨by rw[e1,e2];rfl,0,rfl⟩
        .
         have V:¬((4294967296:Int)<=(D:Int)+(a:Int)):=by omega
         have W:D+a<4294967296:=by omega
         clear hC;go_wp2_with fail;go_round
         case rel=>exact⟨b,D+a,by go_num,by go_num,g.o,B.o,W,by omega⟩
         case measure=>have:=M.o;simp[intOf];omega
    .
     have V:¬((4294967296:Int)<=(r:Int)+(a:Int)):=by omega
     have W:r+a<4294967296:=by omega
     clear hC;go_wp2_with fail;go_round
     case rel=>exact⟨T,r+a,by go_num,by go_num,ai.o,a6.o,W,by omega⟩
     case measure=>have:=bq.o;simp[intOf];omega
theorem div64(a lo y:Nat)(b:a<y)(hl:lo<18446744073709551616)(c:y<18446744073709551616):∃q r:Nat,q<18446744073709551616/\r<y/\y*q+r=18446744073709551616*a+lo/\
 ∀w,Calls prog 221 #[.int .u64 a,.int .u64 lo,.int .u64 y] w fun e w'=>e=.returned (.tuple #[.int .u64 (q:Int),.int .u64 (r:Int)])/\∃n,w'=w.drewN n:=by
 have d:=Nat.div_add_mod (18446744073709551616*a+lo) y;refine⟨_,_,?_,Nat.mod_lt _ (by omega),d,fun w=>?_⟩
 .
  rw[Nat.div_lt_iff_lt_mul (by omega)];have:=Nat.mul_le_mul_left 18446744073709551616 (show a+1<=y from b);omega
 .
  by_cases f:a=0
  .
   subst f;have:=Qn3 lo y w hl c (by omega);rw[Nat.mul_zero,Nat.zero_add];exact this
  . exact Qn4 a lo y _ _ w rfl rfl (by omega) b hl c
end Go.Proofs.YtppkmifkpjkgpaaGreatDoor
