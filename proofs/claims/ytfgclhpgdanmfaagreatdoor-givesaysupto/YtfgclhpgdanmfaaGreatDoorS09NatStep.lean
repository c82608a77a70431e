import Derived.Test.YtfgclhpgdanmfaaGreatDoorS08Dv
import Derived.Lib.SliceRun
import Derived.Deep.DeepFit
namespace Go.Proofs.YtfgclhpgdanmfaaGreatDoor
set_option linter.defProp false
open Go.RowKit
open Go.Proofs.Tryz
set_option linter.unusedSimpArgs false
set_option linter.unusedVariables false
set_option maxHeartbeats 8000000
set_option maxRecDepth 1000000
variable{B D L P V W Y a b c cap d d0 d1 e g i j n r y:Nat}{w w':Vz}{C l rs us1:Vy}
def LA(x:Int)(w:Vz)(a:0<=x)(b:x<=18446744073709551615):
 Calls prog 198 #[.int .u64 x] w fun e w'=>e=.returned (.int .i64 (64 - (Lib.bitLen x.toNat:Int)))/\w'=w:=Any.bits_LeadingZeros64 Tryz.Cp x w a b
def XM(lo y:Nat)(w:Vz)(hl:lo<18446744073709551616)(g:y<18446744073709551616)(h:0<y):
 Calls prog 203 #[.int .u64 0,.int .u64 lo,.int .u64 y] w fun e w'=>e=.returned (.tuple #[.int .u64 ((lo / y:Nat):Int),.int .u64 ((lo % y:Nat):Int)])/\∃n,w'=w.drewN n:=by
 have i:((y:Int) == 0)=false:=by rw[aJ];omega
 have j:¬((y:Int)<=0):=oO;obtain⟨Q,a⟩:=nm (lo / y);obtain⟨R,b⟩:=nm (lo % y);have c:Q<18446744073709551616:=by rw[<-a];exact bQ (mR _ _) hl
 have d1:(lo:Int) / (y:Int)=(Q:Int):=by rw[<-a];rfl
 have d2:(lo:Int) % (y:Int)=(R:Int):=by rw[<-b];rfl
 have d:Int.tdiv (lo:Int) (y:Int)=(Q:Int):=by rw[<-a];rfl
 have f:Int.tmod (lo:Int) (y:Int)=(R:Int):=by rw[<-b];rfl
 rw[a,b];clear a b;go_enter func203,ntmps203;go_wp2;go_quiet (fail);go_wp2;go_ret2;exact⟨rfl,_,rfl⟩
def Lz(y:Nat)(b:0<y)(c:y<18446744073709551616):∃s:Nat,s<64/\64 - (Lib.bitLen (y:Int).toNat:Int)=s/\9223372036854775808<=y*2 ^ s/\y*2 ^ s<18446744073709551616:=by
 rw[fC];have h:∀(k:Nat),k<=64->∀z,2 ^ (64 - k)<=z->z<18446744073709551616->True:=fun _ _ _ _ _=>trivial
 have d:=LD y;have a:=PG (n:=y) (k:=nb y - 1) (oB (IJ b));have i:nb y<=64:=nb_le c;have f:=IJ b;have e:Lib.bitLen y=nb y:=by
  have g:=Lib.bitLen_shift (nb y - 1) y a c;have j:y / 2 ^ (nb y - 1)=1:=by
   apply Nat.le_antisymm
   . have:y / 2 ^ (nb y - 1)<2:=by rw[fL (gN _),<-Nat.pow_succ',show (nb y - 1).succ=nb y by omega];exact d
     omega
   . exact(Nat.one_le_div_iff (gN _)).2 a
  rw[j]at g;have l:Lib.bitLen 1=1:=dD;rw[g,l];omega
 refine⟨64 - nb y,oO,by rw[e];omega,?_,?_⟩
 . have:2 ^ (nb y - 1)*2 ^ (64 - nb y)<=y*2 ^ (64 - nb y):=cD _ a;rw[<-eG,show nb y - 1+(64 - nb y)=63 by omega]at this;exact this
 . have:y*2 ^ (64 - nb y)<2 ^ nb y*2 ^ (64 - nb y):=nl d (gN _);rw[<-eG,show nb y+(64 - nb y)=64 by omega]at this;exact this
def XL(u a:Nat)(d:2147483648<=a)(c:a<4294967296)(e:u<18446744073709551616):∃q p r:Nat,u / a=q/\q*a=p/\p+r=u/\r<a/\q<8589934592/\Int.tdiv (u:Int) (a:Int)=(q:Int)/\(u:Int) / (a:Int)=(q:Int)/\(q:Int)*(a:Int)=(p:Int)/\(u:Int) - (p:Int)=(r:Int):=by
 have b:u / a*a+u % a=u:=by rw[bV];exact iS u a
 refine⟨u / a,u / a*a,u % a,rfl,rfl,b,eU _ oO,?_,rfl,rfl,rfl,?_⟩
 . rw[fL oO];omega
 . have:((u / a*a:Nat):Int)+((u % a:Nat):Int)=(u:Int):=by rw[<-mV,b]
   omega
def Px(u a q Y:Nat)(g:Y<18446744073709551616)(b:0<Y)(i:a<4294967296)(e:(4294967296*u+a) / Y=q):
 ∃c P b1 v:Nat,c+a<18446744073709551616/\b1<18446744073709551616/\v<Y/\v+q*Y=4294967296*u+a/\(IntKind.u64.wrap ((u:Int)*4294967296)=(c:Int))/\((q:Int)*(Y:Int)=(P:Int))/\(IntKind.u64.wrap (P:Int)=(b1:Int))/\IntKind.u64.wrap ((c:Int)+(a:Int) - (b1:Int))=(v:Int):=by
 have f:(4294967296*u+a) % Y+q*Y=4294967296*u+a:=by have h:=Nat.mod_add_div (4294967296*u+a) Y;rw[e,bV Y q]at h;exact h
 have d:(4294967296*u+a) % Y<Y:=eU _ b;refine⟨u*4294967296 % 18446744073709551616,q*Y,q*Y % 18446744073709551616,(4294967296*u+a) % Y,oO,oO,d,f,?_,rfl,?_,?_⟩
 . rw[xw];omega
 . rw[xw];rfl
 . rw[xw];generalize q*Y=P at*;generalize (4294967296*u+a) % Y=v at*;omega
def XK{lo s u H Q v:Nat}(j:y*2 ^ s=Y)(k:b*2 ^ s=H)(m:H+i=u)(f:lo*2 ^ s=18446744073709551616*i+a)(l:a=4294967296*c+d)(n:v+Q*Y=4294967296*u+c)(o:g+e*Y=4294967296*v+d)(hv2:g<Y):
 (18446744073709551616*b+lo) / y=Q*4294967296+e/\(18446744073709551616*b+lo) % y=g / 2 ^ s:=by
 have h:=LR (X:=(18446744073709551616*b+lo)*2 ^ s) (V:=Y) (x:=18446744073709551616*b+lo) (y:=y) (p:=2 ^ s) (Q:=Q*4294967296+e) (R:=g) (gN s) rfl j (by
  rw[jB,dQ,k,f,cF,bV Y (Q*4294967296),bV Y e,dQ Q,bV 4294967296 Y,<-dQ];generalize Q*Y=A at*;generalize e*Y=B at*
  omega) hv2
 exact⟨h.1.symm,h.2.symm⟩
def XJ(J lo y QQ RR:Nat)(w:Vz)(ar:(18446744073709551616*J+lo) / y=QQ)(au:(18446744073709551616*J+lo) % y=RR)(hh:0<J)(av:J<y)(hl:lo<18446744073709551616)(hy:y<18446744073709551616):
 Calls prog 203 #[.int .u64 J,.int .u64 lo,.int .u64 y] w fun e w'=>e=.returned (.tuple #[.int .u64 (QQ:Int),.int .u64 (RR:Int)])/\∃n,w'=w.drewN n:=by
 obtain⟨ba,bb⟩:=Ia ar au;clear ar au;have q0:((y:Int) == 0)=false:=by rw[aJ];omega
 have q1:¬((y:Int)<=(J:Int)):=oO;have q2:((J:Int) == 0)=false:=by rw[aJ];omega
 obtain⟨s,bw,hs,bc,M⟩:=Lz y oO hy;have HL:=Hi (LA y w oO oO);rw[hs]at HL;obtain⟨Y,K⟩:=nm (y*2 ^ s);rw[K]at bc M;obtain⟨H,A⟩:=nm (J*2 ^ s);have b3:H<Y:=by rw[<-A,<-K];exact nl av (gN _)
 obtain⟨l2,I⟩:=nm (lo / 2 ^ (64 - s));have aw:l2<2 ^ s:=by rw[<-I];exact Ly oO hl
 obtain⟨c,i⟩:∃z,lo*2 ^ s % 18446744073709551616=z:=⟨_,rfl⟩;have ab:c<18446744073709551616:=by rw[<-i];exact eU _ dD
 have N:=Dl (lo:=lo) (s:=s) oO;rw[I,i]at N;have j:H+l2<Y:=by have:(J+1)*2 ^ s<=y*2 ^ s:=cD _ av;rw[jB,A,K,qa]at this;omega
 have r1:IntKind.u64.wrap ((y:Int)*2 ^ s)=(Y:Int):=by rw[show (y:Int)*2 ^ s=((y*2 ^ s:Nat):Int) by rw[gi,iW];rfl,K];exact FM Y M
 have r4:IntKind.u64.wrap ((J:Int)*2 ^ s)=(H:Int):=by rw[show (J:Int)*2 ^ s=((J*2 ^ s:Nat):Int) by rw[gi,iW];rfl,A];exact FM H oO
 have r5:(lo:Int) / 2 ^ (64 - s)=(l2:Int):=by rw[<-I,pO,iW];rfl
 have r7:IntKind.u64.wrap ((lo:Int)*2 ^ s)=(c:Int):=by rw[show (lo:Int)*2 ^ s=((lo*2 ^ s:Nat):Int) by rw[gi,iW];rfl,xw,<-i];rfl
 obtain⟨u,hu⟩:=nm (H+l2);have r6:bits .or .u64 (H:Int) (l2:Int)=(u:Int):=by rw[yO (H:Int) (l2:Int) J l2 s (by rw[<-A,bV]) rfl aw (by rw[bV,A];omega),bV,A,hu]
 rw[hu]at j;obtain⟨a,ax⟩:∃z,Y / 4294967296=z:=⟨_,rfl⟩;obtain⟨C,ad⟩:∃z,Y % 4294967296=z:=⟨_,rfl⟩;have ai:Y=4294967296*a+C:=oO;have Q:2147483648<=a/\a<4294967296:=oO;have S:C<4294967296:=oO;have r2:(Y:Int) / 4294967296=(a:Int):=oO;have T:bits .and .u64 (Y:Int) 4294967295=(C:Int):=by rw[Mul64.maskN Y M,ad]
 obtain⟨d,ay⟩:∃z,c / 4294967296=z:=⟨_,rfl⟩;obtain⟨f,ae⟩:∃z,c % 4294967296=z:=⟨_,rfl⟩;have k:d<4294967296:=oO;have l:f<4294967296:=oO;have r8:(c:Int) / 4294967296=(d:Int):=oO;have r9:bits .and .u64 (c:Int) 4294967295=(f:Int):=by rw[Mul64.maskN c ab,ae]
 have L:((a:Int) == 0)=false:=by rw[aJ];omega
 obtain⟨q,hq⟩:=nm (u / a);obtain⟨p,hp⟩:=nm (q*a);obtain⟨r,hr⟩:=nm (u % a);have az:p+r=u:=by rw[<-hp,<-hq,<-hr,bV];exact iS u a
 have a0:r<a:=by rw[<-hr];exact eU _ oO
 have bd:Int.tdiv (u:Int) (a:Int)=(q:Int):=by rw[<-hq];rfl
 have a2:(u:Int) / (a:Int)=(q:Int):=by rw[<-hq];rfl
 have be:(q:Int)*(a:Int)=(p:Int):=by rw[<-hp];rfl
 have aj:q<8589934592:=by rw[<-hq,fL oO];omega
 obtain⟨D,bf,a3,bg,bh,HU,bi,HP⟩:=Ig ai (show c=4294967296*d+f by omega) N K A hu az hp;have bj:O ((4294967296*u+d) / Y<=q):=Hi (by rw[<-hq];exact Pv ai k oO);have bk:(u:Int) - (p:Int)=(r:Int):=oO;clear K A I i aw hu hq hr hp ai ax ad ay ae N az hs;go_enter func203,ntmps203;go_wp2_with fail;refine HL.o.mono ?_;rintro e w ⟨rfl,hw⟩;subst hw;clear HL;go_wp2_with fail;have B:0<Y:=oO;go_loop [15,16] (fun qv rv=>∃q r:Nat,qv=.int .u64 q/\rv=.int .u64 r/\q*a+r=u/\(4294967296*u+d) / Y<=q/\r<4294967296/\q<8589934592) (fun qv _=>(intOf qv).toNat)
 case atStart=>exact⟨q,r,rfl,rfl,by rw[HP.o];exact bi.o,bj.o,oO,aj⟩
 case round=>
  clear aj a0 bd a2 be bk;obtain⟨q,r,rfl,rfl,U,hQ,a0,aj⟩:=hrel;obtain⟨a4,HQ⟩:=Ia U hQ;clear U hQ;by_cases hA:4294967296<=q
  case' pos=> have g:=Hi (aF (ID j k) hA);have ak:(4294967296:Int)<=(q:Int):=oO;have V:1<=q:=oO
  case' neg=>
   obtain⟨t,ht⟩:=nm (q*C);have bl:t<=4294967295*4294967295:=by rw[<-ht];exact fO oO oO
   have rt:(q:Int)*(C:Int)=(t:Int):=by rw[<-ht];rfl
   have E:=Hi (IE (n1:=d) D.o a4.o);rw[ht]at E;have ak:¬((4294967296:Int)<=(q:Int)):=oO;clear ht;by_cases hB:t<=4294967296*r+d
   case' pos=> have al:=Hi (IC B (E.o.1 hB) HQ.o);have am:¬(4294967296*(r:Int)+(d:Int)<(t:Int)):=oO;clear hB;obtain⟨qm,rfl⟩:∃x,x=q:=⟨_,rfl⟩
   case' neg=>
    have g:=Hi (Pu B (fun h=>hB (E.o.2 h)));have am:4294967296*(r:Int)+(d:Int)<(t:Int):=oO;have V:1<=q:=by
     rcases eE q with h|h
     . exfalso
       subst h;have:=rt;simp at this;omega
     . exact h
    clear hB
  all_goals clear hA
  all_goals try
   have g:=g;obtain⟨qm,F⟩:∃x,q=x+1:=⟨q - 1,oO⟩;have bm:(q:Int) - 1=(qm:Int):=oO;have bx:qm<8589934592:=oO;have W:=Hi F;have b:O (qm*a+(r+a)=u):=Hi (by have:=a4.o;rw[F,gV]at this;omega);have G:O ((4294967296*u+d) / Y<=qm):=Hi (oV (oB g.o));clear F V;by_cases hC:4294967296<=r+a
   rotate_left
   . have an:¬((4294967296:Int)<=(r:Int)+(a:Int)):=oO;have ao:r+a<4294967296:=oO;clear hC;go_wp2_with fail;go_round
     case rel=>exact⟨qm,r+a,by go_num,by go_num,b.o,G.o,ao,oO⟩
     case measure=>have:=W.o;simp[intOf];omega
   have ap:=Pt D.o S j b.o hC oO;have al:=Hi (IC B ((IE (n1:=d) D.o b.o).1 oO) G.o);have an:(4294967296:Int)<=(r:Int)+(a:Int):=oO;clear hC ap g b G W
  all_goals
   obtain⟨a1,P,b1,v,bn,bo,aq,X,z1,z2,z3,z4⟩:=Px u d qm Y M B k al.o;obtain⟨bp,p2,bq,a5,a6,af,a7,ag,x1,x2,x3,x4⟩:=XL v a Q.1 Q.2 oO;obtain⟨br,bs,bt,a8⟩:=Ic X a5 a6 af;clear X r1 r2 T r4 r5 r6 r7 r8 r9 a5 a6 af;go_wp2_with fail;clear z1 z2 z3 z4;go_loop [18,16] (fun qv rv=>∃q r:Nat,qv=.int .u64 q/\rv=.int .u64 r/\q*a+r=v/\(4294967296*v+f) / Y<=q/\r<4294967296/\q<8589934592) (fun qv _=>(intOf qv).toNat)
   case atStart=>exact⟨bp,bq,rfl,rfl,by rw[bt.o];exact a8.o,by rw[<-bs.o];exact Pv D.o l oO,oO,ag⟩
   case round=>
    clear x1 x2 x3 x4 a7 ag;obtain⟨L,T,rfl,rfl,U,hQ,bz,b0⟩:=hrel;obtain⟨ah,bu⟩:=Ia U hQ;clear U hQ;by_cases hA:4294967296<=L
    case' pos=> have g:=Hi (aF (ID aq l) hA);have ak:(4294967296:Int)<=(L:Int):=oO;have V:1<=L:=oO
    case' neg=>
     obtain⟨t,ht⟩:=nm (L*C);have bl:t<=4294967295*4294967295:=by rw[<-ht];exact fO oO oO
     have rt:(L:Int)*(C:Int)=(t:Int):=by rw[<-ht];rfl
     have E:=Hi (IE (n1:=f) D.o ah.o);rw[ht]at E;have ak:¬((4294967296:Int)<=(L:Int)):=oO;clear ht;by_cases hB:t<=4294967296*T+f
     case' pos=> have Z:=Hi (IC B (E.o.1 hB) bu.o);have am:¬(4294967296*(T:Int)+(f:Int)<(t:Int)):=oO;clear hB;obtain⟨m,rfl⟩:∃x,x=L:=⟨_,rfl⟩
     case' neg=>
      have g:=Hi (Pu B (fun h=>hB (E.o.2 h)));have am:4294967296*(T:Int)+(f:Int)<(t:Int):=oO;have V:1<=L:=by
       rcases eE L with h|h
       . exfalso
         subst h;have:=rt;simp at this;omega
       . exact h
      clear hB
    all_goals clear hA
    all_goals try
     have g:=g;obtain⟨m,F⟩:∃x,L=x+1:=⟨L - 1,oO⟩;have bm:(L:Int) - 1=(m:Int):=oO;have bv:m<8589934592:=oO;have W:=Hi F;have b:O (m*a+(T+a)=v):=Hi (by have:=ah.o;rw[F,gV]at this;omega);have G:O ((4294967296*v+f) / Y<=m):=Hi (oV (oB g.o));clear F V;by_cases hC:4294967296<=T+a
     rotate_left
     . have an:¬((4294967296:Int)<=(T:Int)+(a:Int)):=oO;have ao:T+a<4294967296:=oO;clear hC;go_wp2_with fail;go_round
       case rel=>exact⟨m,T+a,by go_num,by go_num,b.o,G.o,ao,oO⟩
       case measure=>have:=W.o;simp[intOf];omega
     have ap:=Pt D.o S aq b.o hC oO;have Z:=Hi (IC B ((IE (n1:=f) D.o b.o).1 oO) G.o);have an:(4294967296:Int)<=(T:Int)+(a:Int):=oO;clear hC ap g b G W
    all_goals
     obtain⟨a1,P,b1,v2,bn,bo,a9,X,y1,y2,y3,y4⟩:=Px v f m Y M B l Z.o;have b4:qm<4294967296:=by rw[<-al.o];exact ID j k
     have b2:m<4294967296:=by rw[<-Z.o];exact ID aq l
     obtain⟨R,hR⟩:=nm (v2 / 2 ^ s);have rR:(v2:Int) / 2 ^ s=(R:Int):=by rw[<-hR,pO,iW];rfl
     have aa:=Hi (XK bg.o bh.o HU.o a3.o bf.o br.o X a9);rw[hR]at aa;clear X hR;go_wp2_with fail;go_ret2;have e1:(QQ:Int)=(qm:Int)*4294967296+(m:Int):=by have:=aa.o.1;rw[ba.o]at this;omega
     have e2:(RR:Int)=(R:Int):=by have:=aa.o.2;rw[bb.o]at this;omega
     exact⟨by rw[e1,e2];rfl,0,rfl⟩
def Bx(a lo y:Nat)(b:a<y)(hl:lo<18446744073709551616)(c:y<18446744073709551616):∃q r:Nat,q<18446744073709551616/\r<y/\y*q+r=18446744073709551616*a+lo/\
 ∀w,Calls prog 203 #[.int .u64 a,.int .u64 lo,.int .u64 y] w fun e w'=>e=.returned (.tuple #[.int .u64 (q:Int),.int .u64 (r:Int)])/\∃n,w'=w.drewN n:=by
 have d:=iS (18446744073709551616*a+lo) y;refine⟨_,_,?_,eU _ oO,d,fun w=>?_⟩
 . rw[fL oO];have:=cR 18446744073709551616 (show a+1<=y from b);omega
 .
  by_cases f:a=0
  . subst f;have:=XM lo y w hl c oO;rw[fH,cC];exact this
  . exact XJ a lo y _ _ w rfl rfl oO b hl c
def pV(w:Vz)(g:Nat)(rs:Vy):Prop:=∃C,SB w g 172 C/\∀i,i<rs.length->C[i]?=some (.int .u64 ((rs.getD i 0:Nat):Int))
def pV.lt(h:pV w g rs):g<w.heap.size:=by obtain⟨C,h,_⟩:=h;exact h.lt
def pV.cell(h:pV w g rs)(i:Nat)(a:i<rs.length):w.cell? ⟨g,i,none⟩=some (.int .u64 ((rs.getD i 0:Nat):Int)):=by obtain⟨C,h,b⟩:=h;rw[h.cell];exact b i a
def pV.free(h:pV w g rs)(i:Nat):w.frozen? ⟨g,i,none⟩=false:=by obtain⟨C,h,a⟩:=h;exact h.free i
def pV.set(h:pV w g rs)(i x:Nat)(b:i<rs.length):pV (w.setCell ⟨g,i,none⟩ (.int .u64 (x:Int))) g (rs.set i x):=by
 obtain⟨C,h,c⟩:=h;refine⟨_,h.set i _,fun j d=>?_⟩;rw[aQ]at d;have a:i<C.size:=by apply bC;intro f;have:=c i b;rw[dX oO]at this;cases this
 rw[gG];by_cases e:i=j
 . subst e
   rw[aN rfl,aN a,DB _ _ _ b]
 . rw[aH e,c j d,getD_set_ne _ _ _ _ e]
def pV.drewN(h:pV w g rs)(n:Nat):pV (w.drewN n) g rs:=h
def pV.row(h:pV w g rs)(cap:Nat)(a:rs.length<=cap):Row .u64 w (some ⟨g,0,none⟩) cap rs:=
 ⟨a,.inr ⟨g,0,rfl,h.lt⟩,fun i b=>⟨g,0,rfl,h.lt,by rw[cC];exact h.cell i b⟩⟩
def pV.below(h:pV w g rs)(hb:Below B w w')(hB:g<B):pV w' g rs:=by obtain⟨C,h,a⟩:=h;exact⟨C,h.below hb hB,a⟩
def U0(g cap d:Nat)(rs:Vy)(w:Vz)(h:pV w g rs)(Q:Small 18446744073709551616 rs)(hl:rs.length<=1099511627776)(G:0<d)(X:d<18446744073709551616):
 Calls prog 196 #[.slice (some ⟨g,0,none⟩) rs.length cap,.int .u64 d] w fun e w'=>∃c r,e=.returned (.int .u64 ((r:Nat):Int))/\r<d/\pV w' g c/\c.length=rs.length/\Small 18446744073709551616 c/\val 18446744073709551616 c*d+r=val 18446744073709551616 rs/\cE g w w':=by
 obtain⟨H,I⟩:=Ia h Q;clear h Q;go_enter func196,ntmps196;go_wp2;go_loopw [5,6] (fun r i wr=>∃(k s:Nat)(a:Vy),k<=rs.length/\s<d/\r=.int .u64 s/\i=.int .i64 ((k:Int) - 1)/\pV wr g a/\a.length=rs.length/\Small 18446744073709551616 a/\(∀p,p<k->a.getD p 0=rs.getD p 0)/\
  val 18446744073709551616 (a.drop k)*d+s=val 18446744073709551616 (rs.drop k)/\cE g w wr) (fun _ i _=>(intOf i+1).toNat)
 case atStart=>exact⟨rs.length,0,rs,aV _,G,rfl,rfl,H.o,rfl,I.o,fun _ _=>rfl,by rw[dG lZ];simp[val],cX _ _⟩
 case round=>
  obtain⟨k,r,a,hk,R,rfl,rfl,h,l,t,u,S,v⟩:=hrel;obtain⟨T,f,m,x,U,y⟩:=Ie h l t u S v;clear t u S v;by_cases Y:k=0
  . subst Y;clear h l;go_wp2;go_ret;exact⟨a,r,rfl,R,T.o,f.o,m.o,by have:=U.o;simpa using this,y.o⟩
  .
   obtain⟨j,rfl⟩:∃j,k=j+1:=⟨k - 1,oO⟩;obtain⟨z,F⟩:=nm (a.getD j 0);have J:z<18446744073709551616:=by rw[<-F];exact m.o.getD oO j
   have V:=h.free j;have K:=h.cell j oO;rw[F]at K;obtain⟨q,s,Z,L,B,C⟩:=Bx r z d R J X;obtain⟨D,M,HZ⟩:=Ib C B F;have W:((j+1:Nat):Int) - 1=(j:Int):=oO;rw[W];clear W C B F h l;go_wp2_with fail;refine(D.o _).mono ?_;rintro e w2 ⟨rfl,n,b⟩;have aa:w2.frozen? ⟨g,j,none⟩=false:=by rw[b];exact V
   have ab:w2.cell? ⟨g,j,none⟩=some (.int .u64 (z:Int)):=by rw[b];exact K
   have N:O (pV w2 g a):=Hi (by rw[b];exact T.o.drewN n);have E:O (cE g w w2):=Hi (by rw[b];exact y.o.drewN n);clear b V K D;go_wp2;go_roundw
   case rel=>
    have P:j<a.length:=rO f.o;refine⟨j,s,a.set j q,oO,L,rfl,by go_num,N.o.set j q P,by rw[aQ];exact f.o,m.o.set j Z,?_,?_,E.o.setCell _ _⟩
    . intro p hp;rw[getD_set_ne _ _ _ _ oO];exact x.o p oO
    . have e1:rs.getD j 0=z:=by rw[<-x.o j oO];exact HZ.o
      rw[xb _ _ j (by rw[aQ];exact P),DB _ _ _ P,xb _ rs j (oB f.o),e1,<-U.o];have e2:(a.set j q).drop (j+1)=a.drop (j+1):=by rw[Gi,aN oO]
      rw[e2];have:=M.o;rw[jB,dQ,bV q d,cF];generalize val 18446744073709551616 (a.drop (j+1))*d=A at*;omega
   case measure=>simp[intOf]
def UZ(x:Nat)(w:Vz)(f:x<18446744073709551616):
 Calls prog 197 #[.int .u64 x] w fun e w'=>(∃a cap r,e=.returned (.slice a r.length cap)/\jx w' a cap r x)/\Below w.heap.size w w':=by
 by_cases b:x=0
 . subst b;go_enter func197,ntmps197;go_wp2;go_ret;exact⟨⟨none,0,[],rfl,I9 _⟩,ac _ _⟩
 . have q:((x:Int) == 0)=false:=by rw[aJ];omega
   go_enter func197,ntmps197;go_wp2;go_ret;have hB:jf .u64 172 (w.alloc (.cells (dA .u64 [x]) 172)) w.heap.size [x]:=mn _ _ _ _;refine⟨⟨some ⟨w.heap.size,0,none⟩,1,[x],rfl,hB.row 1 sS 1 oO,⟨fun d c=>by simp at c;omega,.inr (sU b),by simp[val]⟩,sS⟩,bR.alloc lZ _⟩
def KI(a:Vx)(cap:Nat)(l:Vy)(x:Nat)(w:Vz)(h:jx w a cap l x)(hl:0<l.length):
 Calls prog 157 #[.slice a l.length cap] w fun e w'=>(∃g cap',e=.returned (.slice (some ⟨g,0,none⟩) l.length cap')/\l.length<=cap'/\w.heap.size<=g/\pV w' g l)/\Below w.heap.size w w':=by
 obtain⟨I,A,B,C,hz2⟩:=me L8;have T:=h.short;have U:∀(w:Vz)(a:Vx)(n c n' D:Nat),(binOp .eql 97 (.slice a n c) (.slice none n' D)).run prog w=.ok (.bool a.isNone) w:=fun w a n c n' D=>Lib.run_eql_slice_nil w _ _ a n c n' D underlying97
 obtain⟨b,q,rfl,hb,_⟩:=h.row.cell 0 hl;have H:=Hi h;clear h;go_enter func157,ntmps157;go_wp2_with (at_builtin;refine wpList_append_own _ rfl _ _ 97 rfl w.heap.size 172 I (.int .u64 0) 1 8 underlying97 A B C hz2 rfl dD _ _ _ rfl (oU w #[] 0 lZ (cJ _) rfl) ⟨b,q,none⟩ l.length cap (l.map (fun n:Nat=>Value.int .u64 n)) rfl ?c1 ?c2 ?c3 ?c4 ?c5 ?c6 ?_)
 case c1=>simp
 case c2=> intro j u J;obtain⟨t,E⟩:=gZ J;have m:j<l.length:=sU t;obtain⟨K,v,r,F,L⟩:=H.o.row.cell j m;obtain⟨rfl,rfl⟩:b=K/\q=v:=sU r;rw[xA];refine(((ac w.heap.size w).alloc lZ _).cell (p:=⟨b,q+j,none⟩) F).trans ?_;rw[L,<-E];simp[m]
 case c3=>intro u E;obtain⟨n,_,rfl⟩:=bZ.1 E;rfl
 case c4=>unfold maxLen;omega
 case c5=>omega
 case c6=>simp
 intro V w1 d f y;obtain⟨g,cap',rfl,W,t⟩:=d.form oO;obtain⟨M,N⟩:=Ia d f;clear d f y;go_wp2;go_ret;obtain⟨_,z⟩:=M.o;rcases z with ⟨z,_⟩|⟨X,G,s,z,O,P,Y,Z,h7,Q⟩
 . cases z
 .
  injection z with r e2 R
  injection r with r
  injection r with r
  subst r;subst R;refine⟨⟨g,cap',sS,oO,O,s,P,fun i A=>?_⟩,((ac _ w).alloc lZ _).grown N.o sS (by intro k hk;simp[Value.ownBlock]at hk;omega)⟩;have S:(s.toList.take (l.length*1))[i]?=s[i]?:=by rw[aW oO];simp
  rw[<-S,Q,aP,aC,gE A];rfl
def Vf(L:Int)(n:Nat)(a:L=n)(b:n<=2199023255552)(w:Vz):
 (Instr.makeSlice 96 (.int .i64 L) (.int .i64 L)).run prog w=.ok (.slice (some ⟨w.heap.size,0,none⟩) n n) (w.alloc (.cells (dA .u64 (zeros n)) 172)):=by
 subst a;rw[<-Io];exact Bo 96 172 (.int .u64 0) 8 underlying96 L8 rfl .i64 .i64 n oO oO w
def Ve(d s z:Nat)(j:s<64)(e:d<18446744073709551616)(f:z<2 ^ s):∃lo b a:Nat,IntKind.u64.wrap ((d:Int)*2 ^ s)=(lo:Int)/\(d:Int) / 2 ^ (64 - s)=(b:Int)/\bits .or .u64 (z:Int) (lo:Int)=(a:Int)/\b<2 ^ s/\a<18446744073709551616/\b<18446744073709551616/\a+18446744073709551616*b=z+d*2 ^ s:=by
 have k:=Dl (lo:=d) (s:=s) oO;have g:=Ly (lo:=d) (s:=s) oO e;have c:d*2 ^ s % 18446744073709551616=2 ^ s*(d % 2 ^ (64 - s)):=by rw[<-EP (s:=s) oO,bV d,Qz]
 have h:d % 2 ^ (64 - s)+1<=2 ^ (64 - s):=eU _ (gN _);have i:=cR (2 ^ s) h;rw[EP oO,cF,eP,<-c]at i;have l:2 ^ s<=9223372036854775808:=cP dD (show s<=63 by omega);refine⟨d*2 ^ s % 18446744073709551616,d / 2 ^ (64 - s),d*2 ^ s % 18446744073709551616+z,?_,?_,?_,g,oO,oO,oO⟩
 . rw[show (d:Int)*2 ^ s=((d*2 ^ s:Nat):Int) by rw[gi,iW];rfl,xw];rfl
 . rw[pO,iW];rfl
 . rw[xT ((d*2 ^ s % 18446744073709551616:Nat):Int) (z:Int) (d % 2 ^ (64 - s)) z s (by rw[c]) rfl f (by rw[<-c];omega),c]
def Vd(k d s z a b:Nat)(rs l:Vy)(hk:k+1<rs.length)(c:l.getD k 0=d)(e:rs.getD k 0=z)(f:a+18446744073709551616*b=z+d*2 ^ s)(h:val 18446744073709551616 (rs.take (k+1))=val 18446744073709551616 (l.take k)*2 ^ s):
 val 18446744073709551616 (((rs.set k a).set (k+1) b).take (k+1+1))=val 18446744073709551616 (l.take (k+1))*2 ^ s:=by
 rw[take_set _ _ _ sO,wu,cI,eH sO,take_set _ _ _ oO,wu,cI,eH oO];rw[sW,e]at h;rw[sW _ l,c,jB,<-h,fD,dQ (18446744073709551616 ^ k) d];have g:18446744073709551616 ^ k*(a+18446744073709551616*b)=18446744073709551616 ^ k*(z+d*2 ^ s):=by rw[f]
 rw[cF,cF,<-dQ]at g;omega
def Vc(d e s:Nat)(l:s<64)(f:d<18446744073709551616)(m:e<18446744073709551616):∃lo c b:Nat,(d:Int) / 2 ^ s=(lo:Int)/\IntKind.u64.wrap ((e:Int)*2 ^ (64 - s))=(c:Int)/\bits .or .u64 (lo:Int) (c:Int)=(b:Int)/\b<18446744073709551616/\b*2 ^ s+d % 2 ^ s=d+18446744073709551616*(e % 2 ^ s):=by
 have g:=EP (s:=s) oO;have a:2 ^ (64 - s)*2 ^ s=18446744073709551616:=by rw[bV];exact g
 have h:e*2 ^ (64 - s) % 18446744073709551616=2 ^ (64 - s)*(e % 2 ^ s):=by rw[<-a,bV e,Qz]
 have i:d / 2 ^ s<2 ^ (64 - s):=by rw[fL (gN _),a];exact f
 have j:e % 2 ^ s+1<=2 ^ s:=eU _ (gN _);have k:=cR (2 ^ (64 - s)) j;rw[a,cF,eP]at k;refine⟨d / 2 ^ s,e*2 ^ (64 - s) % 18446744073709551616,2 ^ (64 - s)*(e % 2 ^ s)+d / 2 ^ s,?_,?_,?_,oO,?_⟩
 . rw[pO,iW];rfl
 . rw[show (e:Int)*2 ^ (64 - s)=((e*2 ^ (64 - s):Nat):Int) by rw[gi,iW];rfl,xw];rfl
 . rw[xT ((e*2 ^ (64 - s) % 18446744073709551616:Nat):Int) ((d / 2 ^ s:Nat):Int) (e % 2 ^ s) (d / 2 ^ s) (64 - s) (by rw[h]) rfl i oO]
 . have n:=iS d (2 ^ s);rw[jB,Nat.mul_right_comm,a,bV (d / 2 ^ s)];omega
def Vb(k d e s a m0:Nat)(rs l:Vy)(hk:k<rs.length)(b:l.getD k 0=d)(c:l.getD (k+1) 0=e)(f:a*2 ^ s+d % 2 ^ s=d+18446744073709551616*(e % 2 ^ s))(h:val 18446744073709551616 (rs.take k)*2 ^ s+m0=val 18446744073709551616 (l.take k)+18446744073709551616 ^ k*(l.getD k 0 % 2 ^ s)):
 val 18446744073709551616 ((rs.set k a).take (k+1))*2 ^ s+m0=val 18446744073709551616 (l.take (k+1))+18446744073709551616 ^ (k+1)*(l.getD (k+1) 0 % 2 ^ s):=by
 rw[b]at h;rw[take_set _ _ _ hk,wu,cI,eH oO,sW,b,c,fD,jB];have g:18446744073709551616 ^ k*(a*2 ^ s+d % 2 ^ s)=18446744073709551616 ^ k*(d+18446744073709551616*(e % 2 ^ s)):=by rw[f]
 rw[cF,cF,<-dQ,<-dQ]at g;omega
def NO(a:Vx)(cap s:Nat)(l:Vy)(x:Nat)(w:Vz)(h:jx w a cap l x)(hl:l.length<1099511627776)(P:s<64):
 Calls prog 199 #[.slice a l.length cap,.int .i64 s] w fun e w'=>(∃rs,e=.returned (.slice (some ⟨w.heap.size,0,none⟩) (l.length+1) (l.length+1))/\jf .u64 172 w' w.heap.size rs/\rs.length=l.length+1/\Small 18446744073709551616 rs/\val 18446744073709551616 rs=x*2 ^ s)/\Below w.heap.size w w':=by
 have B:∀w,(Instr.makeSlice 96 (.int .i64 ((l.length:Int)+1)) (.int .i64 ((l.length:Int)+1))).run prog w=.ok (.slice (some ⟨w.heap.size,0,none⟩) (l.length+1) (l.length+1)) (w.alloc (.cells (dA .u64 (zeros (l.length+1))) 172)):=
  fun w=>Vf _ (l.length+1) oO oO w
 have H:=Hi h;clear h;go_enter func199,ntmps199;go_wp2;clear B;go_loopw [14] (fun i wr=>∃(k:Nat)(rs:Vy),k<=l.length/\i=.int .i64 k/\jf .u64 172 wr w.heap.size rs/\rs.length=l.length+1/\Small 18446744073709551616 rs/\rs.getD k 0<2 ^ s/\(∀j,k<j->rs.getD j 0=0)/\
  val 18446744073709551616 (rs.take (k+1))=val 18446744073709551616 (l.take k)*2 ^ s/\Below w.heap.size w wr) (fun i _=>l.length - (intOf i).toNat)
 case atStart=>exact⟨0,zeros (l.length+1),oO,rfl,mn _ _ _ _,uC _,wZ _ _ oO,by rw[EX];exact gU oO,fun j _=>EX _ j,by rw[sW,EX];simp[val],bR.alloc lZ _⟩
 case round=>
  obtain⟨k,rs,hk,rfl,hB,m,q,c,hz2,J,hb⟩:=hrel;obtain⟨K,f,L,r,n⟩:=Id J m hB q hb;clear J q hb;by_cases C:k<l.length
  .
   obtain⟨b,Q,rfl,D,p⟩:=H.o.row.cell k C;obtain⟨d,A⟩:=nm (l.getD k 0);have E:d<18446744073709551616:=by rw[<-A];exact H.o.num.small.getD oO k
   rw[A]at p;have M:=ce n.o D p;have W:=hB.free k;have R:=hB.cell k oO;have X:=hB.free (k+1);have S:=hB.cell (k+1) oO;rw[hz2 (k+1) oO]at S;obtain⟨z,F⟩:=nm (rs.getD k 0);rw[F]at R c;obtain⟨lo,N,t,Y,Z,u3,u,v,y,g⟩:=Ve d s z P E c;obtain⟨G,T,I⟩:=Ib (Vd k d s z t N rs l oO A F g K.o) hz2 u;clear A p F hB m c hz2 g u;have i0:(0:Int)<=(k:Int):=oO;have i1:(k:Int)<(l.length:Int)+1:=oO;go_wp2_with fail;go_region
   all_goals
    go_wp2;go_roundw
    case rel=>
     refine⟨k+1,(rs.set k t).set (k+1) N,oO,by go_num,((L.o.set k _).drew).set (k+1) _,by rw[aQ,aQ];exact f.o,(r.o.set k v).set (k+1) y,?_,fun j hj=>?_,G.o,((n.o.setCell lZ _).drew).setCell lZ _⟩
     . rw[DB _ _ _ (by rw[aQ,f.o];omega)];exact I.o
     . rw[getD_set_ne _ _ _ _ oO,getD_set_ne _ _ _ _ oO];exact T.o j oO
    case measure=>exact mI
  .
   have U:k=l.length:=oO;have V:=Hi (by
    have O:=K.o;rw[U,dB,bL (oB f.o),H.o.num.eq]at O
    exact O)
   clear m hB c hz2;go_wp2;go_ret;exact⟨⟨rs,rfl,L.o,f.o,r.o,V.o⟩,n.o⟩
def wrap_i64(n:Int)(a: -9223372036854775808<=n)(b:n<9223372036854775808):IntKind.i64.wrap n=n:=by simp[IntKind.wrap,IntKind.signed,IntKind.bits];omega
structure ON (w:Vz) (g cap:Nat) (C l:Vy) (n:Nat):Prop where
 pre:pV w g C
 small:Small 18446744073709551616 C
 len:C.length<=1099511627776
 fro:C.take l.length=l
 num:Num 18446744073709551616 l n
 fit:l.length<=cap
def jf.pre(h:jf .u64 172 w g C):pV w g C:=
 ⟨dA .u64 C,h,fun i a=>by
   have c:=SB.cell (w:=w) (b:=g) (t:=172) (C:=dA .u64 C) h i;rw[<-c]
   exact h.cell i a⟩
def pV.FX(h:pV w g C)(n:Nat)(a:n<=C.length)(cap:Nat)(b:n<=cap):Row .u64 w (some ⟨g,0,none⟩) cap (C.take n):=by have hl:(C.take n).length=n:=tO;refine⟨oO,.inr ⟨g,0,rfl,h.lt⟩,fun i c=>⟨g,0,rfl,h.lt,?_⟩⟩;rw[cC,LB _ _ _ oO];exact h.cell i oO
def ON.le(h:ON w g cap C l n):l.length<=C.length:=by have:=congrArg List.length h.fro;rw[cI]at this;omega
def ON.u64(h:ON w g cap C l n):jx w (some ⟨g,0,none⟩) cap l n:=by have a:=h.pre.FX l.length h.le cap h.fit;rw[h.fro]at a;exact⟨a,h.num,aE h.le h.len⟩
def ON.below(h:ON w g cap C l n)(hb:Bl w w'):ON w' g cap C l n:=⟨h.pre.below hb h.pre.lt,h.small,h.len,h.fro,h.num,h.fit⟩
def Ha(g n cap x:Nat)(C:Vy)(w:Vz)(h:pV w g C)(i:Small 18446744073709551616 C)(hb:C.length<=1099511627776)(k:n<=C.length)(l:n<=cap)(m:val 18446744073709551616 (C.take n)=x):
 Calls prog 167 #[.slice (some ⟨g,0,none⟩) n cap] w fun e w'=>(∃r,e=.returned (.slice (some ⟨g,0,none⟩) r.length cap)/\ON w g cap C r x/\r.length<=n)/\w'=w:=by
 have o:=h.FX n k cap l;have hl:(C.take n).length=n:=tO;have j:=KJ (some ⟨g,0,none⟩) cap (C.take n) w o oO;rw[hl]at j;refine j.mono ?_;rintro e w1 ⟨⟨q,p,rfl,a,b⟩,rfl⟩;have d:q<=n:=oO;have f:(C.take n).take q=C.take q:=by rw[List.take_take,eH d]
 rw[f]at a b;have c:(C.take q).length=q:=tO;exact⟨⟨C.take q,by rw[c],⟨h,i,hb,by rw[c],⟨i.take q,b,a.trans m⟩,oO⟩,oO⟩,rfl⟩
def UX(a:Vx)(cap s:Nat)(l:Vy)(w:Vz)(h:Row .u64 w a cap l)(v:Small 18446744073709551616 l)(hl:l.length<1099511627776)(X:s<64):
 Calls prog 201 #[.slice a l.length cap,.int .i64 s] w fun e w'=>(∃rs r,e=.returned (.slice (some ⟨w.heap.size,0,none⟩) r.length l.length)/\ON w' w.heap.size l.length rs r (val 18446744073709551616 l / 2 ^ s))/\Below w.heap.size w w':=by
 have G:=
  fun w=>GH _ l.length rfl oO w
 obtain⟨H,x⟩:=Ia h v;clear h v;go_enter func201,ntmps201;go_wp2;clear G;go_loopw [12] (fun i wr=>∃(k:Nat)(rs:Vy),k<=l.length/\i=.int .i64 k/\jf .u64 172 wr w.heap.size rs/\rs.length=l.length/\Small 18446744073709551616 rs/\
  val 18446744073709551616 (rs.take k)*2 ^ s+l.getD 0 0 % 2 ^ s=val 18446744073709551616 (l.take k)+18446744073709551616 ^ k*(l.getD k 0 % 2 ^ s)/\Below w.heap.size w wr) (fun i _=>l.length - (intOf i).toNat)
 case atStart=>exact⟨0,zeros l.length,oO,rfl,mn _ _ _ _,uC _,wZ _ _ oO,by simp[val],bR.alloc lZ _⟩
 case round=>
  obtain⟨k,rs,hk,rfl,hB,m,y,N,hb⟩:=hrel;obtain⟨O,c,P,A,f⟩:=Id N m hB y hb;clear N y hb;by_cases I:k<l.length
  .
   obtain⟨b,n,rfl,B,g⟩:=H.o.cell k I;obtain⟨d,E⟩:=nm (l.getD k 0);obtain⟨e,F⟩:=nm (l.getD (k+1) 0);have J:d<18446744073709551616:=by rw[<-E];exact x.o.getD oO k
   have K:e<18446744073709551616:=by rw[<-F];exact x.o.getD oO (k+1)
   rw[E]at g;have Q:=ce f.o B g;obtain⟨z,R⟩:=nm (rs.getD k 0);have g1:=hB.free k;have Y:=hB.cell k oO;rw[R]at Y;obtain⟨lo,hi,q,u1,Z,u3,C,j⟩:=Vc d e s X J K;have L:=Hi (Vb k d e s q _ rs l oO E F j O.o);have u:=EW (some ⟨b,n,none⟩) cap l (k+1) wr.drew (H.o.below f.o.drew) oO oO;rw[F,show ((k+1:Nat):Int)=(k:Int)+1 by omega]at u;have wk:IntKind.i64.wrap ((k:Int)+1)=(k:Int)+1:=wrap_i64 _ oO oO;obtain⟨t,S⟩:=nm (64 - s);have ws:IntKind.i64.wrap (64 - (s:Int))=(t:Int):=by rw[wrap_i64 _ oO oO];omega
   have T:t<=64:=oO;rw[S]at Z;clear S;have HC:=Hi u;clear u;have i0:(0:Int)<=(k:Int):=oO;have i1:(k:Int)<(l.length:Int):=oO;have aa:=(((f.o.setCell (p:=⟨w.heap.size,k,none⟩) lZ (.int .u64 (q:Int))).drew).cell (p:=⟨b,n+k,none⟩) B).trans g;clear E F g R hB m j;go_wp2_with fail;go_region_held3 (fun w'=>w'.cell? ⟨b,n+k,none⟩=some (.int .u64 d)) ((simp [*])) (first
    |(
     go_at_call 205;go_fit (HC.o);rintro U w2 ⟨rfl,M⟩
     subst M))
   go_wp2;go_roundw
   case rel=>exact⟨k+1,rs.set k q,oO,by go_num,(P.o.set k _).drew,by rw[aQ];exact c.o,A.o.set k C,L.o,(f.o.setCell lZ _).drew⟩
   case measure=>exact mI
  . have U:k=l.length:=oO;have D:val 18446744073709551616 rs=val 18446744073709551616 l / 2 ^ s:=by have V:=O.o;rw[U,bL (oB c.o),dB,FJ l l.length lZ,JE,fH,dV]at V;have e3:l.getD 0 0 % 2 ^ s<2 ^ s:=eU _ (gN _);rw[<-V,bV,om (gN _),jG e3,dV]
    have HQ:=Hi D;clear m hB D;go_wp2_with fail;refine(Ha w.heap.size l.length l.length (val 18446744073709551616 l / 2 ^ s) rs _ P.o.pre A.o (rO c.o) (by rw[c.o];exact aV _) lZ (by rw[bL (by rw[c.o];exact aV _)];exact HQ.o)).mono ?_;rintro e w1 ⟨⟨r,rfl,W,_⟩,rfl⟩;have HU:=Hi W;clear W;go_wp2;go_ret;exact⟨⟨rs,r,rfl,HU.o⟩,f.o⟩
structure yV (a2 a1 a0 d1 d0 P lw lv W V:Nat):Prop where
 hP:0<P
 hW:W=(a2*18446744073709551616+a1)*(18446744073709551616*P)+a0*P+lw
 hV:V=d1*(18446744073709551616*P)+d0*P+lv
 hlw:lw<P
 hd1:0<d1
 hWV:W<18446744073709551616*V
 b2:a2<18446744073709551616
 b1:a1<18446744073709551616
 b0:a0<18446744073709551616
 c1:d1<18446744073709551616
 c0:d0<18446744073709551616
def yV.pos(t:yV a b c d1 d0 P d e W V):0<V:=by
 have:=t.hWV;rcases eE V with h|h
 . subst h;omega
 . exact h
def yV.all(t:yV a b c d1 d0 P d e W V):W / V<=18446744073709551615:=by
 have h:=t.hWV;have:W / V<18446744073709551616:=by rw[fL t.pos];exact h
 omega
def UQ{t:Nat}(d:b+18446744073709551616*a=t)(hl:b<18446744073709551616)(e:c<18446744073709551616):(a<r∨(a=r/\b<=c))↔t<=r*18446744073709551616+c:=oO
def UP(j l y d1 d0 P S T W V:Nat)(w:Vz)(t:yV j l y d1 d0 P S T W V):
 Calls prog 227 #[.int .u64 j,.int .u64 l,.int .u64 y,.int .u64 d1,.int .u64 d0] w fun e w'=>∃q:Nat,e=.returned (.int .u64 (q:Int))/\q<18446744073709551616/\W / V<=q/\∃n,w'=w.drewN n:=by
 have c:=Hi t;have b2:=t.b2;have b1:=t.b1;have Z:=t.b0;have c1:=t.c1;have c0:=t.c0;clear t;by_cases hA:d1<=j
 . go_enter func227,ntmps227;go_wp2;go_ret;exact⟨18446744073709551615,rfl,oO,c.o.all,0,rfl⟩
 .
  obtain⟨q,r,E,U,v,F⟩:=Bx j l d1 oO b1 c1;have G:=Hi F;have H:=Hi (by
   have h1:=Ok 18446744073709551616 P (j*18446744073709551616+l) y S d1 d0 T W V c.o.hP dD c.o.hW c.o.hV c.o.hlw Z c.o.hd1;have h2:(j*18446744073709551616+l) / d1=q:=by rw[show j*18446744073709551616+l=d1*q+r by omega,om c.o.hd1,jG U,dV]
   rw[h2]at h1
   exact h1)
  have f:O (q*d1+r=j*18446744073709551616+l):=Hi (by rw[bV];omega);clear F v;go_enter func227,ntmps227;go_wp2_with fail;refine(G.o _).mono ?_;rintro e w1 ⟨rfl,n1,ab⟩;go_wp2_with fail;go_loop [11,12] (fun qv rv=>∃q r:Nat,qv=.int .u64 q/\rv=.int .u64 r/\q<18446744073709551616/\r<18446744073709551616/\q*d1+r=j*18446744073709551616+l/\W / V<=q) (fun qv _=>(intOf qv).toNat)
  case atStart=>exact⟨q,r,rfl,rfl,E,oO,f.o,H.o⟩
  case round=>
   clear E U G H f;obtain⟨q,r,rfl,rfl,E,U,v,I⟩:=hrel;obtain⟨a,A,hh,hl,J,K⟩:=xV q d0 E c0;obtain⟨k,L,f,M⟩:=Ic K I v (UQ (r:=r) J hl Z);clear K I v J;by_cases ad:a<r
   . have z:(a:Int)<(r:Int):=oO;go_wp2_with fail;refine(k.o _).mono ?_;rintro e w2 ⟨rfl,g⟩;go_wp2;go_ret;exact⟨q,rfl,E,L.o,n1,rfl⟩
   by_cases X:a=r
   .
    subst X;have z:¬((a:Int)<(a:Int)):=oO;by_cases ae:A<=y
    . have N:(A:Int)<=(y:Int):=oO;go_wp2_with fail;refine(k.o _).mono ?_;rintro e w2 ⟨rfl,g⟩;go_wp2;go_ret;exact⟨q,rfl,E,L.o,n1,rfl⟩
    .
     have N:¬((A:Int)<=(y:Int)):=oO;have B:=Hi (Bi (fun h=>by have:=M.o.2 h;omega));have m:=Hi (LU 18446744073709551616 P (j*18446744073709551616+l) y S d1 d0 T W V q a c.o.hP c.o.hW c.o.hV c.o.hlw c.o.pos f.o B.o);obtain⟨i,b⟩:∃i,q=i+1:=⟨q - 1,by have:=bQ (cJ _) m.o;omega⟩;have Y:(q:Int) - 1=(i:Int):=oO;have d:i<18446744073709551616:=oO;have C:=Hi b;have p:O (i*d1+(a+d1)=j*18446744073709551616+l):=Hi (by have:=f.o;rw[b,gV]at this;omega);have s:=Hi (by have h:=m.o;rw[b]at h;exact oV h);clear b;by_cases u:a+d1<18446744073709551616
     . have Q:¬((a:Int)+(d1:Int)<(d1:Int)):=oO;go_wp2_with fail;refine(k.o _).mono ?_;rintro e w2 ⟨rfl,g⟩;subst g;go_wp2_with fail;go_round
       case rel=>exact⟨i,a+d1,by go_num,by go_num,d,u,p.o,s.o⟩
       case measure=>have:=C.o;simp[intOf];omega
     . obtain⟨x,D⟩:∃x,a+d1=x+18446744073709551616:=⟨a+d1 - 18446744073709551616,oO⟩;have ew:IntKind.u64.wrap ((a:Int)+(d1:Int))=(x:Int):=by rw[xw];omega
       have R:(x:Int)<(d1:Int):=oO;clear D u;go_wp2_with fail;refine(k.o _).mono ?_;rintro e w2 ⟨rfl,g⟩;go_wp2;go_ret;exact⟨i,rfl,d,s.o,n1,rfl⟩
   .
    have z:¬((a:Int)<(r:Int)):=oO;have aa:((a:Int) == (r:Int))=false:=by rw[aJ];omega
    have B:=Hi (Bi (fun h=>by have:=M.o.2 h;omega));have m:=Hi (LU 18446744073709551616 P (j*18446744073709551616+l) y S d1 d0 T W V q r c.o.hP c.o.hW c.o.hV c.o.hlw c.o.pos f.o B.o);obtain⟨i,b⟩:∃i,q=i+1:=⟨q - 1,by have:=bQ (cJ _) m.o;omega⟩;have Y:(q:Int) - 1=(i:Int):=oO;have d:i<18446744073709551616:=oO;have C:=Hi b;have p:O (i*d1+(r+d1)=j*18446744073709551616+l):=Hi (by have:=f.o;rw[b,gV]at this;omega);have s:=Hi (by have h:=m.o;rw[b]at h;exact oV h);clear b;by_cases u:r+d1<18446744073709551616
    . have Q:¬((r:Int)+(d1:Int)<(d1:Int)):=oO;go_wp2_with fail;refine(k.o _).mono ?_;rintro e w2 ⟨rfl,g⟩;subst g;go_wp2_with fail;go_round
      case rel=>exact⟨i,r+d1,by go_num,by go_num,d,u,p.o,s.o⟩
      case measure=>have:=C.o;simp[intOf];omega
    . obtain⟨x,D⟩:∃x,r+d1=x+18446744073709551616:=⟨r+d1 - 18446744073709551616,oO⟩;have ew:IntKind.u64.wrap ((r:Int)+(d1:Int))=(x:Int):=by rw[xw];omega
      have R:(x:Int)<(d1:Int):=oO;clear D u;go_wp2_with fail;refine(k.o _).mono ?_;rintro e w2 ⟨rfl,g⟩;go_wp2;go_ret;exact⟨i,rfl,d,s.o,n1,rfl⟩
def Im{u:Vz}(h:Below B u w)(n:Nat):Below B u (w.drewN n):=⟨h.os,h.tape,h.output,h.size,h.block⟩
def mb.trans{w1 w2:Vz}{b c:Vy}(h:mb w w1 g a n rs b)(k:mb w1 w2 g a n b c):mb w w2 g a n rs c:=
 ⟨k.blk,k.len.trans h.len,k.small,h.only.trans k.only,fun p d=>(k.o p d).trans (h.o p d)⟩
def Va{x:Nat}{us vs:Vy}(hB:0<B)(d:j<=us.length)(hl:vs.length=us.length)(a:∀p,p<j->vs.getD p 0=us.getD p 0)(t:Nat)(h:val B vs+B ^ j*x=val B us+B ^ j*t):val B (vs.drop j)+x=val B (us.drop j)+t:=by
 have e:vs.take j=us.take j:=by
  apply Bk
  . simp[hl]
  . intro i c b;have f:i<j:=by simp at c;omega
    have:=a i f;rw[aC,aC,gE (by simp at c;omega),gE (by simp at b;omega)]at this;simp only[List.getElem_take]
    simpa using this
 rw[vv B vs j oO,vv B us j d,e]at h;have b:B ^ j*(val B (vs.drop j)+x)=B ^ j*(val B (us.drop j)+t):=by rw[cF,cF];omega
 exact Nat.eq_of_mul_eq_mul_left (gU hB) b
def U9{X:Nat}(d:e<us1.length)(f:us1.getD e 0=y)(h:val B us1+X=Y+B ^ e*a)(g:b+a=y+B*c):val B (us1.set e b)+X=Y+B ^ (e+1)*c:=by
 have i:=DC B us1 e b d;rw[f]at i;have j:B ^ e*(b+a)=B ^ e*(y+B*c):=by rw[g]
 rw[cF,cF,<-dQ]at j;rw[fD];omega
def U8{ca:Nat}{us2:Vy}(k:e<us1.length)(d:e<us2.length)(l:us1.getD e 0=y)(f:us2.getD e 0=y)(h:val B (us1.set e b)+(j+i)=Y+B ^ (e+1)*(g+ca))(q:val B us2+B ^ e*c=val B us1+i)(m:a+B*ca=b+c):val B (us2.set e a)+j=Y+B ^ (e+1)*g:=by
 have n:=DC B us1 e b k;have o:=DC B us2 e a d;rw[l]at n;rw[f]at o;have p:B ^ e*(a+B*ca)=B ^ e*(b+c):=by rw[m]
 rw[cF,cF,<-dQ]at p;rw[fD,cF]at h;rw[fD];omega
def U7{q:Nat}(a:0<D)(h:r+q*D=L)(d:L / D<=q):r<D:=by have e:q<=L / D:=(Nat.le_div_iff_mul_le a).2 oO;have b:=iS L D;have f:=eU L a;have c:L / D=q:=oO;rw[c,bV]at b;omega
def U6{q T:Nat}(a:0<D)(h:r+q*D=L+T)(b:r<T):L / D<q:=by rw[fL a];omega
def Us(g j n cap N p:Nat)(us:Vy)(a2:Vx)(c2:Nat)(m:Vy)(D:Nat)(w:Vz)(hB:jf .u64 172 w g us)(t:Small 18446744073709551616 us)(C:jx w a2 c2 m D)(Y:m.length=N)(aa:N=n+2)(ab:p=n+1)(ad:∀b o,a2=some ⟨b,o,none⟩->b≠g)(hj:j+N+1<=us.length)(hz:val 18446744073709551616 (us.drop (j+N+1))=0)(hL:val 18446744073709551616 (us.drop j)<18446744073709551616*D)(bc:N+1<=cap):
 Calls prog 200 #[.slice (some ⟨g,j,none⟩) (N+1) cap,.slice a2 N c2] w fun e w'=>∃(q:Nat)(U:Vy),e=.returned (.int .u64 (q:Int))/\q<18446744073709551616/\mb w w' g j (N+1) us U/\val 18446744073709551616 U+18446744073709551616 ^ j*(q*D)=val 18446744073709551616 us/\val 18446744073709551616 (U.drop j)<D:=by
 have az:=C.short;rw[Y]at az;obtain⟨a0,a1,Z,V⟩:=Ic hB t C ad;obtain⟨b,o,rfl,ae,a3⟩:=C.row.cell p oO;obtain⟨b',o',u,be,E⟩:=C.row.cell n oO;obtain⟨rfl,rfl⟩:b=b'/\o=o':=sU u;obtain⟨x1,y⟩:∃x,m.getD p 0=x:=⟨_,rfl⟩;obtain⟨x0,F⟩:∃x,m.getD n 0=x:=⟨_,rfl⟩;rw[y]at a3;rw[F]at E;obtain⟨y2,z⟩:∃x,us.getD (j+N) 0=x:=⟨_,rfl⟩;obtain⟨y1,G⟩:∃x,us.getD (j+p) 0=x:=⟨_,rfl⟩;obtain⟨y0,H⟩:∃x,us.getD (j+n) 0=x:=⟨_,rfl⟩;have k2:=hB.cell (j+N) oO;have k1:=hB.cell (j+p) oO;have k0:=hB.cell (j+n) oO;rw[z]at k2;rw[G]at k1;rw[H]at k0;have M:0<x1:=by
  rcases C.num.trim with h|h
  . rw[h]at Y;simp at Y;omega
  . rw[Y,aa,show n+2 - 1=p by omega,y]at h;omega
 have ht:yV y2 y1 y0 x1 x0 (18446744073709551616 ^ n) (val 18446744073709551616 ((us.drop j).take n)) (val 18446744073709551616 (m.take n)) (val 18446744073709551616 (us.drop j)) D:=by
  refine⟨gU dD,?_,?_,?_,M,hL,?_,?_,?_,?_,?_⟩
  . rw[Oj 18446744073709551616 us j n oO (by rw[show j+n+3=j+N+1 by omega];exact hz),show j+n+2=j+N by omega,show j+n+1=j+p by omega,z,G,H]
  . rw[<-C.num.eq,Oi 18446744073709551616 m n oO,<-ab,y,F]
  . have:=qi (B:=18446744073709551616) dD ((t.drop j).take n);rw[cI,ix,eH oO]at this;exact this
  . rw[<-z];exact t.getD dD _
  . rw[<-G];exact t.getD dD _
  . rw[<-H];exact t.getD dD _
  . rw[<-y];exact C.num.small.getD dD _
  . rw[<-F];exact C.num.small.getD dD _
 obtain⟨HT,af,HZ,HN⟩:=Ic ht z hz Y;have ag:=ht.b2;have bf:IntKind.i64.wrap ((N:Int) - 1)=(p:Int):=by rw[wrap_i64 _ oO oO];omega
 have bg:IntKind.i64.wrap ((N:Int) - 2)=(n:Int):=by rw[wrap_i64 _ oO oO];omega
 have i0:(0:Int)<=(N:Int):=oO;have i1:(N:Int)<(N:Int)+1:=oO;have i2:(0:Int)<=(p:Int):=oO;have i3:(p:Int)<(N:Int)+1:=oO;have i4:(p:Int)<(N:Int):=oO;have i5:(0:Int)<=(n:Int):=oO;have i6:(n:Int)<(N:Int)+1:=oO;have i7:(n:Int)<(N:Int):=oO;clear hB t C ad ht y F z G H M hz hL u aa ab Y;go_enter func200,ntmps200;go_wp2_with fail;go_region_held3 (fun w'=>w'.cell? ⟨g,j+N,none⟩=some (.int .u64 y2)/\w'.cell? ⟨g,j+p,none⟩=some (.int .u64 y1)/\w'.cell? ⟨g,j+n,none⟩=some (.int .u64 y0)/\w'.cell? ⟨b,o+p,none⟩=some (.int .u64 x1)/\w'.cell? ⟨b,o+n,none⟩=some (.int .u64 x0)) ((simp [*])) (first|(go_at_call 227;go_fit (UP y2 y1 y0 x1 x0 _ _ _ _ D _ HT.o);rintro e w1 ⟨q,rfl,hq,ah,n1,a4⟩;subst a4));have E:=HT.o.pos;have a5:O (cE g w (w.drewN (1+n1))):=Hi ((cX g w).drewN _);have ai:O (jf .u64 172 (w.drewN (1+n1)) g us):=Hi a0.o;have I:O (jx (w.drewN (1+n1)) (some ⟨b,o,none⟩) c2 m D):=Hi (Z.o.below (Im bR _));have J:=Hi ah;clear ah;go_wp2_with fail;generalize w.drewN (1+n1)=W1 at*;have hC:=UE g j cap us (some ⟨b,o,none⟩) c2 m q W1 ai.o a1.o I.o.row I.o.num.small I.o.short hq (oB HN.o) (oB HN.o) V.o;rw[HN.o,Z.o.num.eq]at hC;refine hC.mono ?_;rintro e w2 ⟨aj,us1,rfl,a6,a,P⟩;have d:=a.len;have l:us1.getD (j+N) 0=y2:=by rw[a.o _ (.inr lZ)];exact af.o
 have kk:=a.blk.cell (j+N) oO;rw[l]at kk;obtain⟨k,K,v,u,ak,al⟩:=N1 y2 aj ag a6;obtain⟨HE,HD⟩:=Ia (U9 oO l P ak) (show mb w w2 g j N us us1 from ⟨a.blk,a.len,a.small,a5.o.trans a.only,a.o⟩);clear hC a P l ak I ai k0 k1 k2 d;go_wp2_with (simp only[al]);clear kk al;go_loopw [6,8,9] (fun qv tv bv wr=>∃(q k K:Nat)(A:Vy),qv=.int .u64 q/\tv=.int .u64 k/\bv=.int .u64 K/\q<18446744073709551616/\k<18446744073709551616/\K<=1/\mb w wr g j N us A/\val 18446744073709551616 (A.set (j+N) k)+18446744073709551616 ^ j*(q*D)=val 18446744073709551616 us+18446744073709551616 ^ (j+N+1)*K/\val 18446744073709551616 (us.drop j) / D<=q) (fun qv _ _ _=>(intOf qv).toNat)
 case atStart=>exact⟨q,k,K,us1,rfl,rfl,rfl,hq,v,u,HD.o,HE.o,J.o⟩
 case round=>
  clear hq v u HE HD J;obtain⟨q,k,K,A,rfl,rfl,rfl,hq,v,u,a,hE,W⟩:=hrel;have d:=a.len;have l:A.getD (j+N) 0=y2:=by rw[a.o _ (.inr lZ)];exact af.o
  obtain⟨Q,am,r,HE,J⟩:=Id d l a hE W;have an:O (val 18446744073709551616 ((A.set (j+N) k).drop j)+q*D=val 18446744073709551616 (us.drop j)+18446744073709551616 ^ (N+1)*K):=Hi (by
   refine Va dD oO (by rw[aQ];exact d) (fun p hp=>by rw[getD_set_ne _ _ _ _ oO];exact a.o p (.inl hp)) _ ?_
   rw[hE,<-dQ,<-eG,gT])
  have L:O (val 18446744073709551616 ((A.set (j+N) k).drop j)<18446744073709551616 ^ (N+1)):=Hi (by
   have hs:=(a.small.set (j+N) v).drop j;have ao:=qi (B:=18446744073709551616) dD (hs.take (N+1));rw[cI,ix,aQ,eH oO]at ao;rw[vv 18446744073709551616 _ (N+1) (by rw[ix,aQ];omega),List.drop_drop];have a7:val 18446744073709551616 ((A.set (j+N) k).drop (j+(N+1)))=0:=by apply LQ;intro i;rw[Iw,getD_set_ne _ _ _ _ oO,a.o _ (.inr oO)];have:=LP 18446744073709551616 dD _ HZ.o i;rw[Iw]at this;rw[show j+(N+1)+i=j+N+1+i by omega];exact this
   rw[a7,fH,dV]
   exact ao)
  by_cases a8:K=0
  . subst a8;have g1:=a.blk.free (j+N);have g2:=a.blk.cell (j+N) oO;rw[l]at g2;clear a hE W d l;go_wp2;go_ret;refine⟨q,A.set (j+N) k,rfl,hq,⟨r.o.blk.set _ _,by rw[aQ];exact Q.o,r.o.small.set _ v,r.o.only.setCell _ _,fun p hp=>by rw[getD_set_ne _ _ _ _ oO];exact r.o.o p oO⟩,by have:=HE.o;rw[fH,dV]at this;exact this,?_⟩;have:=an.o;rw[fH,dV]at this;exact U7 E this J.o
  .
   have ae:K=1:=oO;subst ae;have ap:=Hi (U6 E (by have:=an.o;rw[eP]at this;exact this) L.o);obtain⟨qm,X⟩:∃qm,q=qm+1:=⟨q - 1,by have:=bQ (cJ _) ap.o;omega⟩;have bh:(q:Int) - 1=(qm:Int):=oO;have aq:qm<18446744073709551616:=oO;obtain⟨ar,a9⟩:=Ia X (by have h:=ap.o;rw[X]at h;exact oV h);have hC:=UD g j cap A (some ⟨b,o,none⟩) c2 m wr r.o.blk r.o.small (Z.o.row.qV r.o.only V.o) Z.o.num.small Z.o.short (oB HN.o) (oB HN.o) V.o;rw[HN.o,Z.o.num.eq]at hC;have HC:=Hi hC;clear a hE W d l X hC;go_wp2_with fail;refine HC.o.mono ?_;rintro e w3 ⟨c,u2,rfl,bi,f,s⟩;obtain⟨R,ca,au,bd,av,ba⟩:=He k c v oO;have S:u2.getD (j+N) 0=y2:=by rw[f.o _ (.inr lZ)];exact am.o
   have aw:=Hi (r.o.trans f);have ax:O (val 18446744073709551616 (u2.set (j+N) R)+18446744073709551616 ^ j*(qm*D)=val 18446744073709551616 us+18446744073709551616 ^ (j+N+1)*(1 - ca)):=Hi (by
    have h:=HE.o;rw[ar.o,gV,cF]at h;rw[qa]at s;have bj:=f.len;have bk:=Q.o;refine U8 (us1:=A) (us2:=u2) oO oO am.o S ?_ s av;rw[show 1 - ca+ca=1 by omega]
    exact h)
   have bb:(1:Int) - (ca:Int)=((1 - ca:Nat):Int):=oO;obtain⟨b2,T⟩:∃b2,1 - ca=b2:=⟨_,rfl⟩;rw[T]at ax bb;have ay:b2<=1:=oO;clear f s av S HC T;go_wp2_with (simp only[ba]);go_roundw
   case rel=>exact⟨qm,R,b2,u2,by go_num,rfl,by go_num,aq,au,ay,aw.o,ax.o,a9.o⟩
   case measure=>have:=ar.o;simp[intOf];omega
end Go.Proofs.YtfgclhpgdanmfaaGreatDoor
