import Derived.Test.YtfgclhpgdanmfaaGreatDoorS09NatStep
namespace Go.Proofs.YtfgclhpgdanmfaaGreatDoor
set_option linter.defProp false
open Go.RowKit
open Go.Proofs.Tryz
set_option linter.unusedSimpArgs false
set_option linter.unusedVariables false
set_option maxHeartbeats 8000000
set_option maxRecDepth 1000000
variable{B C D M N P X Y a b c cap d e f g i j k m n p r s t u v x y z:Nat}{l rs us xs:Vy}{w w':Vz}
def QR(w:Vz)(q r:Nat)(e:As)(w':Vz):Prop:=
 (∃aq cq lq ar cr lr,e=.returned (.tuple #[.slice aq (List.length lq) cq,.slice ar (List.length lr) cr])/\jx w' aq cq lq q/\jx w' ar cr lr r)/\Below w.heap.size w w'
def VR(b c:Vx)(c1 c2:Nat)(l m:Vy)(x y:Nat)(w:Vz)(d:jx w b c1 l x)(g:jx w c c2 m y)(a:x<y):
 Calls prog 160 #[.slice b l.length c1,.slice c m.length c2] w (QR w (x / y) (x % y)):=by
 have f:=Hi (Hb b c c1 c2 l m x y w d g);rw[GS a]at f;have i:=Hi d;clear d g;go_enter func160,ntmps160;go_wp2_with fail;refine f.o.mono ?_;rintro e w1 ⟨rfl,hb⟩;have h:=Hi hb;clear hb f;go_wp2;go_ret2;exact⟨⟨none,0,[],b,c1,l,rfl,by rw[jG a];exact I9 _,by rw[kH a];exact i.o.below h.o⟩,h.o⟩
def VQ{q:Nat}(h:q*d+r=x)(a:r<d):q=x / d/\r=x % d:=by
 rw[<-h,bV q d];constructor
 . rw[om oO,jG a,dV]
 . rw[qB,kH a]
def VP(E F:Vx)(c1 c2:Nat)(l m:Vy)(x y:Nat)(w:Vz)(p:jx w E c1 l x)(q:jx w F c2 m y)(aa:y<=x)(h0:0<y)(G:m.length=1):
 Calls prog 160 #[.slice E l.length c1,.slice F m.length c2] w (QR w (x / y) (x % y)):=by
 have H:=Hi (Hb E F c1 c2 l m x y w p q);have U:¬(kZ x y<0):=fun h=>oB ((zM x y).1 h)
 have I:0<l.length:=by
  rcases eE l.length with h|h
  . have:=(p.num.eV dD).2 h;omega
  . exact h
 obtain⟨b,o,rfl,J,s⟩:=q.row.cell 0 oO;have K:m.getD 0 0=y:=by have V:=q.num.eq;obtain⟨d,rfl⟩:=List.length_eq_one_iff.1 G;rw[DE,GW,fH,dV]at V;exact V
 rw[K,dV]at s;have L:y<18446744073709551616:=by rw[<-K];exact q.num.small.getD dD 0
 have M:=p.short;have N:=Hi p;rw[G]at H;rw[G];have q1:((1:Int) == 1)=true:=rfl;clear p q K;go_enter func160,ntmps160;go_wp2_with fail;refine H.o.mono ?_;rintro e w1 ⟨rfl,hb⟩;have a:=Hi hb;have P:=ce hb J s;clear hb H;go_wp2_with fail;refine(KI E c1 l x _ (N.o.below a.o) I).mono ?_;rintro e w2 ⟨⟨g,cap',rfl,W,hg,X⟩,hb⟩;have t:=Hi hb;have ab:=ce hb (by have:=a.o.size;show b<_;omega) P;have HP:=Hi X;clear hb X;go_wp2_with fail;refine(U0 g cap' y l _ HP.o N.o.num.small M h0 L).mono ?_;rintro e Y ⟨c,r,rfl,hr,i,j,u,hv3,f⟩;have v:=Hi (show Below w.heap.size w Y from ((a.o.trans (t.o.mono a.o.size)).trans (f.below (oB a.o.size) (aE a.o.size t.o.size))));rw[N.o.num.eq]at hv3;obtain⟨Z,Q,R,S⟩:=Ic (VQ hv3 hr) i u (KJ (some ⟨g,0,none⟩) cap' c Y (i.row cap' oO) oO);rw[j]at S;have n:=Hi j;clear i u hv3 f j;go_wp2_with fail;refine S.o.mono ?_;rintro e w4 ⟨⟨k,hk,rfl,z,A⟩,hw⟩;subst hw;have HU:O (jx w4 (some ⟨g,0,none⟩) cap' (c.take k) (x / y)):=Hi ⟨(Q.o.row cap' (oB n.o)).take k (oB n.o),⟨R.o.take k,A,by rw[z,Z.o.1]⟩,by rw[cI];omega⟩;have HK:=Hi (show (c.take k).length=k by rw[cI];have:=n.o;omega);clear z A S;go_wp2_with fail;refine(UZ r _ oO).mono ?_;rintro e w5 ⟨⟨ar,cr,lr,rfl,B⟩,C⟩;obtain⟨T,D⟩:=Ia B C;clear B C;go_wp2;go_ret2;exact⟨⟨some ⟨g,0,none⟩,cap',c.take k,ar,cr,lr,by rw[HK.o];rfl,HU.o.below D.o,by rw[<-Z.o.2];exact T.o⟩,v.o.trans (D.o.mono v.o.size)⟩
structure wK (X D N M k:Nat) (us qs:Vy):Prop where
 ul:us.length=M+N
 ql:qs.length=M
 su:Small 18446744073709551616 us
 sq:Small 18446744073709551616 qs
 eq:val 18446744073709551616 us+D*(18446744073709551616 ^ k*val 18446744073709551616 (qs.drop k))=X
 rem:val 18446744073709551616 (us.drop k)<D
def wK.zero{a:Vy}(h:wK X D N M k us a)(hk:k<=M)(b:D<18446744073709551616 ^ N):val 18446744073709551616 (us.drop (k+N))=0:=by have:=LS 18446744073709551616 dD (us.drop k) N (JF h.rem b) (by rw[ix,h.ul];omega);rw[List.drop_drop]at this;exact this
def wK.next{q:Nat}{b a:Vy}(h:wK X D N M (j+1) us b)(c:j<M)(hl:a.length=us.length)(d:Small 18446744073709551616 a)(e:q<18446744073709551616)(f:val 18446744073709551616 a+18446744073709551616 ^ j*(q*D)=val 18446744073709551616 us)(g:val 18446744073709551616 (a.drop j)<D):wK X D N M j a (b.set j q):=by refine⟨hl.trans h.ul,by rw[aQ];exact h.ql,d,h.sq.set j e,?_,g⟩;rw[xb _ _ j (by rw[aQ,h.ql];exact c),DB _ _ _ (by rw[h.ql];exact c),Gi,aN oO,<-h.eq,<-f,cF,cF,fD,<-dQ (18446744073709551616 ^ j) 18446744073709551616,lF D (18446744073709551616 ^ j) q,bV D q];omega
def wK.Qp{a:Vy}(h:wK X D N M (j+1) us a)(b:j<M)(c:0<D):val 18446744073709551616 (us.drop j)<18446744073709551616*D:=by rw[xb _ us j (by rw[h.ul];omega)];have d:=h.su.getD dD j;have e:=cR 18446744073709551616 (show val 18446744073709551616 (us.drop (j+1))+1<=D from h.rem);omega
def U4{d:Vy}(p:0<N)(q:y=c+18446744073709551616 ^ (N - 1)*a)(g:c<18446744073709551616 ^ (N - 1))(r:s<64)(l:9223372036854775808<=a*2 ^ s)(h:a*2 ^ s<18446744073709551616)(b:Num 18446744073709551616 d (y*2 ^ s)):d.length=N/\y*2 ^ s<18446744073709551616 ^ N/\9223372036854775808*18446744073709551616 ^ (N - 1)<=y*2 ^ s:=by
 obtain⟨K,rfl⟩:∃K,N=K+1:=⟨N - 1,oO⟩;rw[gW] at*;have m:(a+1)*2 ^ s<=18446744073709551616:=by have i:=EP (s:=s) oO;rw[<-i,bV (2 ^ s)];apply cD;rw[<-i,bV (2 ^ s)]at h;exact Nat.lt_of_mul_lt_mul_right h
 have j:y*2 ^ s<18446744073709551616 ^ (K+1):=by
  have e:y<18446744073709551616 ^ K*(a+1):=by rw[cF];omega
  have f:=nl e (gN s);rw[dQ]at f;have k:=cR (18446744073709551616 ^ K) m;rw[fD];omega
 have n:9223372036854775808*18446744073709551616 ^ K<=y*2 ^ s:=by have e:18446744073709551616 ^ K*a<=y:=oO;have f:=cD (2 ^ s) e;rw[dQ]at f;have k:=cR (18446744073709551616 ^ K) l;rw[bV (18446744073709551616 ^ K) 9223372036854775808]at k;omega
 refine⟨?_,j,n⟩;apply Nat.le_antisymm
 . exact b.fG dD j
 . apply bC;intro t;have o:=qi (B:=18446744073709551616) dD b.small;rw[b.eq]at o;have u:18446744073709551616 ^ d.length<=18446744073709551616 ^ K:=cP dD oO;omega
def U3{L:Nat}(a:x<18446744073709551616 ^ L)(b:M+N=L+1)(f:0<N)(g:s<64)(h:9223372036854775808*18446744073709551616 ^ (N - 1)<=D)(c:us.length=M+N)(i:val 18446744073709551616 us=x*2 ^ s):val 18446744073709551616 (us.drop M)<D:=by apply bC;intro j;have k:=vv 18446744073709551616 us M oO;have d:18446744073709551616 ^ M*(9223372036854775808*18446744073709551616 ^ (N - 1))<=18446744073709551616 ^ M*val 18446744073709551616 (us.drop M):=cR _ oO;have e:2 ^ s<=9223372036854775808:=cP dD (show s<=63 by omega);have l:=bQ (cR x e) (nl a dD);rw[lF,<-eG,show M+(N - 1)=L by omega,bV]at d;omega
def OD(h:Num 18446744073709551616 l y)(hl:l.length=N+1):∃c a,l.getD N 0=a/\y=c+18446744073709551616 ^ N*a/\c<18446744073709551616 ^ N/\0<a/\a<18446744073709551616:=by
 refine⟨val 18446744073709551616 (l.take N),l.getD N 0,rfl,?_,?_,?_,h.small.getD dD N⟩
 . have b:=EQ 18446744073709551616 l N oO;rw[bL oO,h.eq]at b;exact b
 . have:=qi (B:=18446744073709551616) dD (h.small.take N);rw[cI,eH oO]at this;exact this
 .
  rcases h.trim with b|b
  . rw[b]at hl;simp at hl
  . rw[hl,gW]at b;omega
def jf.qV{k:AM}{t:Vr}(h:jf k t w g l)(b:cE c w w')(a:g≠c):jf k t w' g l:=by have:=h.lt;unfold jf at h ⊢;rw[b.block g this a];exact h
def YZ(w:Vz)(q r:Nat)(e:As)(w':Vz):Prop:=
 (∃aq cq lq g cr C lr,e=.returned (.tuple #[.slice aq (List.length lq) cq,.slice (some ⟨g,0,none⟩) (List.length lr) cr])/\jx w' aq cq lq q/\ON w' g cr C lr r/\w.heap.size<=g)/\Below w.heap.size w w'
def OC(a1 a2:Vx)(c1 c2 n:Nat)(l m:Vy)(x y:Nat)(w:Vz)(F:jx w a1 c1 l x)(E:jx w a2 c2 m y)(bw:y<=x)(hm:m.length=n+2)(bx:l.length<1099511627770):
 Calls prog 160 #[.slice a1 l.length c1,.slice a2 m.length c2] w (YZ w (x / y) (x % y)):=by
 have HC:=Hi (Hb a1 a2 c1 c2 l m x y w F E);have br:¬(kZ x y<0):=fun h=>oB ((zM x y).1 h)
 have a4:m.length<=l.length:=by apply bC;intro hc;have:=zN (B:=18446744073709551616) dD F.num.small E.num.trim oO;rw[F.num.eq,E.num.eq]at this;omega
 obtain⟨bz,aa,L,hy,O,a5,a6⟩:=OD (N:=n+1) E.num hm;obtain⟨b,o,rfl,a7,G⟩:=E.row.cell (n+1) oO;rw[L]at G;obtain⟨s,f,hs,ab,ad⟩:=Lz aa a5 a6;have t:=Hi (fun w=>LA (aa:Int) w oO oO);rw[hs]at t;obtain⟨N,hN⟩:=nm m.length;obtain⟨p,hp⟩:=nm (n+1);have ae:N=p+1:=oO;rw[hp]at G;obtain⟨H1,H2⟩:=Ia F E;rw[hN]at HC;rw[hN];have Q:=qi (B:=18446744073709551616) dD F.num.small;rw[F.num.eq]at Q;obtain⟨a8,HY⟩:=Ia Q hy;have q1:((N:Int) == 1)=false:=by rw[aJ];omega
 have b0:IntKind.i64.wrap ((N:Int) - 1)=(p:Int):=by rw[wrap_i64 _ oO oO];omega
 obtain⟨a9,ba,af,HP,ag,HM,HN⟩:=If ab ad O hp ae hm hN;have b1:1<=N:=oO;have b2:p<N:=oO;have bs:(p:Int)<(N:Int):=oO;have b3:2<=N:=oO;rw[hN]at a4;clear F E hy hs L Q ab ad O hp ae hm hN;go_enter func160,ntmps160;go_wp2_with fail;go_fit HC.o;rintro e w1 ⟨rfl,hb⟩;have H:=Hi hb;have b4:=ce hb a7 G;clear hb HC G;go_wp2_with fail;go_fit (t.o _);rintro e w2 ⟨rfl,hw⟩;subst hw;clear t;go_wp2_with fail;go_fit (NO a1 c1 s l x _ (H1.o.below H.o) oO f);rintro e R ⟨⟨us,rfl,d,C,ah,ai⟩,hb⟩;have aj:=Hi (H.o.trans (hb.mono H.o.size));have bt:=d.lt;have S:=NO (some ⟨b,o,none⟩) c2 s m y R (H2.o.below aj.o) (oB HN.o) f;rw[HN.o]at S;obtain⟨ak,T,U,al,V⟩:=Id S d C ah ai;clear hb d C ah ai S;go_wp2_with fail;go_fit ak.o;rintro e w4 ⟨⟨vs,rfl,W,am,an,ao⟩,hb⟩;have ap:=Hi hb;have bu:=W.lt;have aq:=Hi (Hd R.heap.size (N+1) (N+1) (y*2 ^ s) vs w4 W am an lZ oO ao);clear hb W am an ao ak;go_wp2_with fail;go_fit aq.o;rintro e w5 ⟨⟨md,rfl,I⟩,hw⟩;subst hw;have v:=U4 (N:=N) oO (by have h:=HY.o;rw[HP.o,show p=N - 1 by have:=ag.o;omega]at h;exact h) (by have h:=af.o;rw[HP.o,show p=N - 1 by have:=ag.o;omega]at h;exact h) f a9.o ba.o I.num;rw[v.1];obtain⟨D,hD⟩:=nm (y*2 ^ s);rw[hD]at I v;obtain⟨M,hM,b5⟩:∃M,M+N=l.length+1/\1<=M:=⟨l.length+1 - N,oO,oO⟩;obtain⟨bb,ar,au,bc,bd⟩:=Id v.1 v.2.1 v.2.2 I hD;clear I v hD aq;have wm:IntKind.i64.wrap ((l.length:Int)+1 - (N:Int))=(M:Int):=by rw[wrap_i64 _ oO oO];omega
 have b6:(l.length:Int)+1 - (N:Int)=(M:Int):=oO;have be:=
  fun w=>GH _ M rfl oO w
 have A:=Hi hM;clear hM;go_wp2_with fail;clear be;have bf:=aF (gL dD (gU dD)) au.o;have bv:=H.o.size;go_loopw [11] (fun i wr=>∃(k:Nat)(us qs:Vy),k<=M/\i=.int .i64 ((k:Int) - 1)/\jf .u64 172 wr w2.heap.size us/\jf .u64 172 wr w5.heap.size qs/\jx wr (some ⟨R.heap.size,0,none⟩) (N+1) md D/\wK (x*2 ^ s) D N M k us qs/\Below w.heap.size w wr) (fun i _=>(intOf i+1).toNat)
 case atStart=>
  refine⟨M,us,zeros M,aV _,rfl,(T.o.below ap.o oO).alloc _,mn _ _ _ _,bc.o.below (bR.alloc lZ _),⟨?_,uC _,al.o,wZ _ _ dD,?_,?_⟩,(aj.o.trans (ap.o.mono oO)).alloc oO _⟩
  . rw[U.o];have:=A.o;omega
  . rw[dG (by rw[uC];exact aV _),GW,fH,fH,dV];exact V.o
  . exact U3 a8.o A.o oO f au.o (by rw[U.o];have:=A.o;omega) V.o
 case round=>
  clear T U al V;obtain⟨k,us,qs,hk,rfl,d,J,K,g,hb⟩:=hrel;obtain⟨T,bg,bh,HI,HB⟩:=Id d J K g hb;by_cases h0:k=0
  .
   subst h0;have a:=g.rem;have X:=g.eq;rw[iP]at a;rw[iP,yI,qa]at X;have av:=Hi (LR (gN s) rfl bd.o X a);have aw:val 18446744073709551616 (us.take N)=val 18446744073709551616 us:=by have F:=LS 18446744073709551616 dD us N (JF a ar.o) (by rw[g.ul];omega);have E:=vv 18446744073709551616 us N (by rw[g.ul];omega);rw[F,fH,dV]at E;exact E.symm
   have C:us.length=l.length+1:=by rw[g.ul];exact A.o
   have bi:=Hi (Hd w5.heap.size M M (x / y) qs wr.drew J.drew g.ql g.sq lZ oO av.o.1);have Y:=UX (some ⟨w2.heap.size,0,none⟩) (l.length+1) s (us.take N) wr.drew ((d.drew).row N oO (l.length+1) oO) (g.su.take N) tO f;rw[cI,eH oO,aw,av.o.2]at Y;have bj:=Hi Y;clear a X aw C d J K g hb Y;go_wp2_with fail;have iN:(0:Int)<=(N:Int):=oO;have b7:(N:Int)<=(l.length:Int)+1:=oO;go_region_held3 (fun _=>True) (trivial) (first
    |(
     go_at_call 167;go_fit bi.o;rintro e w6 ⟨⟨r,rfl,hu⟩,hw⟩;subst hw;have HU:=Hi hu
     clear hu)
    |(
     go_at_call 201;go_fit bj.o;rintro e w7 ⟨⟨C7,lr,rfl,ax⟩,ay⟩;obtain⟨bk,az⟩:=Ia ax ay
     clear ax ay))
   go_wp2;go_ret2;exact⟨⟨_,_,r,_,_,C7,lr,rfl,HU.o.below az.o,bk.o,HB.o.size⟩,HB.o.drew.trans (az.o.mono HB.o.size)⟩
  .
   obtain⟨j,rfl⟩:∃j,k=j+1:=⟨k - 1,oO⟩;obtain⟨z,hz⟩:=nm (qs.getD j 0);have a0:j<M:=oO;have bl:j+N<=l.length:=oB A.o;have C:us.length=l.length+1:=by rw[g.ul];exact A.o
   have hS:=Us w2.heap.size j n (l.length+1 - j) N p us (some ⟨R.heap.size,0,none⟩) (N+1) md D wr d g.su K bb.o (oC HM.o HN.o) HP.o.symm (fun b' o' h=>by
    obtain⟨rfl,rfl⟩:R.heap.size=b'/\0=o':=sU h
    omega) oO (by have:=g.zero oO ar.o;rw[show j+N+1=j+1+N by omega];exact this) (g.Qp a0 bf) oO
   obtain⟨HS,bm,HZ⟩:=Ib hS g.ql hz;have ei:((j+1:Nat):Int) - 1=(j:Int):=oO;rw[ei];clear ei d J K g hb hz hS;go_wp2_with fail;rw[show j+N+1 - j=N+1 by omega];go_fit HS.o;rintro e w6 ⟨q,bn,rfl,hq,c,P,a⟩;have u:=bg.o.qV c.only oO;have g1:=u.free j;have g2:=u.cell j (oB bm.o);rw[HZ.o]at g2;obtain⟨bo,a3,Z⟩:=Ib (HI.o.next a0 c.len c.small hq P a) u c;clear u c P a HS;go_wp2;go_roundw
   case rel=>
    have bp:=HB.o.size;refine⟨j,bn,qs.set j q,oO,by go_num,Z.o.blk.other oO _ _,a3.o.set j q,?_,bo.o,(HB.o.trans (Z.o.only.below oO bp)).setCell (by show w.heap.size<=w5.heap.size;omega) _⟩;have bq:=bh.o.qV Z.o.only (fun b' o' h=>by
     obtain⟨rfl,rfl⟩:R.heap.size=b'/\0=o':=sU h
     omega)
    exact bq.qV ((cX w5.heap.size w6).setCell _ _) (fun b' o' h=>by
     obtain⟨rfl,rfl⟩:R.heap.size=b'/\0=o':=sU h
     omega)
   case measure=>simp[intOf]
def UY(a b:Vx)(c1 c2 n:Nat)(l m:Vy)(x y:Nat)(w:Vz)(f:jx w a c1 l x)(h:jx w b c2 m y)(c:y<=x)(i:m.length=n+2)(d:l.length<1099511627770):
 Calls prog 160 #[.slice a l.length c1,.slice b m.length c2] w (QR w (x / y) (x % y)):=by
 refine(OC a b c1 c2 n l m x y w f h c i d).mono ?_;rintro e w' ⟨⟨j,k,o,g,p,C,q,rfl,r,s,_⟩,hb⟩;exact⟨⟨j,k,o,_,p,q,rfl,r,s.u64⟩,hb⟩
def Oy(a b:Vx)(c1 c2:Nat)(l m:Vy)(x y:Nat)(w:Vz)(d:jx w a c1 l x)(c:jx w b c2 m y)(i:0<y)(e:l.length<1099511627770):
 Calls prog 160 #[.slice a l.length c1,.slice b m.length c2] w (QR w (x / y) (x % y)):=by
 by_cases f:x<y
 . exact VR a b c1 c2 l m x y w d c f
 .
  have j:m.length≠0:=fun h=>oB ((c.num.eV dD).2 h)
  by_cases g:m.length=1
  . exact VP a b c1 c2 l m x y w d c oO i g
  . exact UY a b c1 c2 (m.length - 2) l m x y w d c oO oO e
def uN(w:Vz)(n:Nat)(e:As)(w':Vz):Prop:=(∃a cap l,e=.returned (.slice a (List.length l) cap)/\jx w' a cap l n)/\Below w.heap.size w w'
def UM(b c:Vx)(c1 c2:Nat)(l m:Vy)(x y:Nat)(w:Vz)(d:jx w b c1 l x)(f:jx w c c2 m y)(n:0<y)(g:l.length<1099511627770):
 Calls prog 107 #[.slice b l.length c1,.slice c m.length c2] w (uN w (x / y)):=by
 obtain⟨a,h,p⟩:=Ib (Hc c c2 m y w f) (Oy b c c1 c2 l m x y w d f n g) d;clear d f;by_cases i:y=1
 . rw[show decide (y=1)=true by simpa using i]at a;go_enter func107,ntmps107;go_wp2_with fail;go_fit a.o;rintro e w1 ⟨rfl,j⟩;subst j;clear a h;go_wp2;go_ret;exact⟨⟨b,c1,l,rfl,by rw[i,QB];exact p.o⟩,ac _ _⟩
 . rw[show decide (y=1)=false by simpa using i]at a;go_enter func107,ntmps107;go_wp2_with fail;go_fit a.o;rintro e w1 ⟨rfl,j⟩;subst j;go_wp2_with fail;go_fit h.o;rintro e w2 ⟨⟨q,r,s,z,A,B,rfl,k,t⟩,hb⟩;obtain⟨u,v⟩:=Ia k hb;clear k t hb a h;go_wp2;go_ret;exact⟨⟨q,r,s,rfl,u.o⟩,v.o⟩
def UL(x y:Nat)(w:Vz)(j:x<18446744073709551616)(k:y<18446744073709551616):
 Calls prog 162 #[.int .u64 x,.int .u64 y] w fun e w'=>e=.returned (.int .u64 ((Nat.gcd x y:Nat):Int))/\Below w.heap.size w w':=by
 obtain⟨G,hG⟩:=nm (Nat.gcd x y);rw[hG];have l:=Hi hG;clear hG;go_enter func162,ntmps162;go_wp2;go_loopw [0,1] (fun m g wr=>∃a b:Nat,m=.int .u64 a/\g=.int .u64 b/\a<18446744073709551616/\b<18446744073709551616/\Nat.gcd a b=G/\Below w.heap.size w wr) (fun _ g _=>(intOf g).toNat)
 case atStart=>exact⟨x,y,rfl,rfl,j,k,l.o,ac _ _⟩
 case round=>
  obtain⟨a,b,rfl,rfl,s,hb,h,c⟩:=hrel;obtain⟨d,i⟩:=Ia h c;clear h c;by_cases n:b=0
  . subst n;go_wp2;go_ret;exact⟨by rw[<-d.o,oE];rfl,i.o⟩
  .
   obtain⟨r,f⟩:=nm (a % b);have p:r<b:=by rw[<-f];exact eU _ oO
   have d1:(a:Int) % (b:Int)=(r:Int):=by rw[<-f];rfl
   have d2:Int.tmod (a:Int) (b:Int)=(r:Int):=by rw[<-f];rfl
   have t:((b:Int) != 0)=true:=by rw[jk];omega
   have u:((b:Int) == 0)=false:=by rw[aJ];omega
   have q:=Hi f;clear f;go_wp2_with fail;go_region
   all_goals
    go_wp2;go_roundw
    case rel=>exact⟨b,r,rfl,rfl,hb,oO,by rw[<-d.o,<-q.o,oW a b,Nat.gcd_rec b a,oW],i.o.drew⟩
    case measure=>exact mI
def UK(a:Vx)(cap d:Nat)(l:Vy)(x:Nat)(w:Vz)(h:jx w a cap l x)(s:0<d)(G:d<18446744073709551616):
 Calls prog 163 #[.slice a l.length cap,.int .u64 d] w fun e w'=>e=.returned (.int .u64 ((x % d:Nat):Int))/\Below w.heap.size w w':=by
 have Q:=h.short;obtain⟨R,t⟩:=nm (x % d);rw[t];obtain⟨I,H⟩:=Ia t h;clear t h;go_enter func163,ntmps163;go_wp2;go_loopw [5,6] (fun r i wr=>∃(k c:Nat),k<=l.length/\c<d/\r=.int .u64 c/\i=.int .i64 ((k:Int) - 1)/\val 18446744073709551616 (l.drop k) % d=c/\Below w.heap.size w wr) (fun _ i _=>(intOf i+1).toNat)
 case atStart=>exact⟨l.length,0,aV _,s,rfl,rfl,by rw[dG lZ,GW,JE],ac _ _⟩
 case round=>
  obtain⟨k,r,hk,J,rfl,rfl,C,hb⟩:=hrel;obtain⟨D,u⟩:=Ia C hb;clear C hb;by_cases K:k=0
  . subst K;go_wp2;go_ret;exact⟨by rw[<-I.o,<-H.o.num.eq];have:=D.o;rw[iP]at this;rw[this];rfl,u.o⟩
  .
   obtain⟨j,rfl⟩:∃j,k=j+1:=⟨k - 1,oO⟩;obtain⟨b,L,rfl,M,v⟩:=(H.o.row.below u.o).cell j oO;obtain⟨z,p⟩:=nm (l.getD j 0);rw[p]at v;have y:z<18446744073709551616:=by rw[<-p];exact H.o.num.small.getD oO j
   obtain⟨q,c,S,f,A,g⟩:=Bx r z d J y G;have m:=Hi g;have N:O (val 18446744073709551616 (l.drop j) % d=c):=Hi (by
    rw[xb _ l j oO,p];have E:=iS (val 18446744073709551616 (l.drop (j+1))) d;rw[D.o]at E
    rw[<-E,cF,show z+(18446744073709551616*(d*(val 18446744073709551616 (l.drop (j+1)) / d))+18446744073709551616*r)=d*(18446744073709551616*(val 18446744073709551616 (l.drop (j+1)) / d))+(d*q+c) by rw[lF];omega,qB,qB,kH f])
   have F:((j+1:Nat):Int) - 1=(j:Int):=oO;rw[F];clear F g A p;go_wp2_with fail;go_fit (m.o _);rintro e w2 ⟨rfl,P,n⟩;have B:O (Bl w w2):=Hi (by rw[n];exact Im u.o P);clear n m;go_wp2;go_roundw
   case rel=>exact⟨j,c,oO,f,rfl,by go_num,N.o,B.o⟩
   case measure=>simp[intOf]
def G9(x y c:Nat)(p:x<18446744073709551616)(q:y<18446744073709551616)(s:c<18446744073709551616):∃h l:Nat,h<18446744073709551616/\l<18446744073709551616/\l+18446744073709551616*h=x*y+c/\
 ∀w,Calls prog 194 #[.int .u64 x,.int .u64 y,.int .u64 c] w fun e w'=>e=.returned (.tuple #[.int .u64 (h:Int),.int .u64 (l:Int)])/\w'=w:=by
 obtain⟨h,l,u,hl,f,b⟩:=xV x y p q;obtain⟨r,c1,g,t,i,j⟩:=He l c hl s;have d:=KE (over:=c) p q;have a:r+18446744073709551616*(h+c1)=x*y+c:=oO;have k:h+c1<18446744073709551616:=oO;refine⟨h+c1,r,k,g,a,fun w=>?_⟩;have m:=Hi b;clear b f i a d;go_enter func194,ntmps194;go_wp2_with (first|(go_at_call 207;go_fit (m.o _);rintro e w2 ⟨rfl,n⟩;subst n)|simp only[j]);go_ret2;exact⟨by rw[mV];rfl,rfl⟩
def Ox{l:Nat}{m:Vy}(hk:k<rs.length)(n:xs.getD k 0=d)(o:m.getD k 0=e)(p:f+B*a=d*u+i)(q:g+B*b=e*v+j)(s:r+l+g=f+B*c)(h:val B (rs.take k)+v*val B (m.take k)+B ^ k*i=u*val B (xs.take k)+B ^ k*(j+l)):
 val B ((rs.set k r).take (k+1))+v*val B (m.take (k+1))+B ^ (k+1)*a=u*val B (xs.take (k+1))+B ^ (k+1)*(b+c):=by
 rw[take_set _ _ _ hk,wu,cI,eH oO,sW,sW,n,o,fD,cF v,cF u];have t:B ^ k*(f+B*a)=B ^ k*(d*u+i):=by rw[p]
 have w:B ^ k*(g+B*b)=B ^ k*(e*v+j):=by rw[q]
 have x:B ^ k*(r+l+g)=B ^ k*(f+B*c):=by rw[s]
 rw[cF,cF,<-dQ]at t w;rw[cF,cF,cF,<-dQ]at x;rw[cF]at h;rw[cF,lF v,lF u,bV v e,bV u d];omega
structure wT (b c:Nat) (w w':Vz):Prop where
 os:w'.os=w.os
 tape:w'.tape=w.tape
 output:w'.output=w.output
 size:w.heap.size<=w'.heap.size
 block:∀k,k<w.heap.size->k≠b->k≠c->w'.heap[k]?=w.heap[k]?
def wT.refl(b c:Nat)(w:Vz):wT b c w w:=⟨rfl,rfl,rfl,aV _,fun _ _ _ _=>rfl⟩
def wT.yD(h:wT b c w w'):wT c b w w':=⟨h.os,h.tape,h.output,h.size,fun k hk a d=>h.block k hk d a⟩
def wT.FW{u:Vz}(h:wT b c u w)(i:Nat)(v:Ac):wT b c u (w.setCell ⟨b,i,none⟩ v):=
 ⟨h.os,h.tape,h.output,by simpa [World.setCell] using h.size,fun k hk a d=>by rw[gF _ _ _ _ a];exact h.block k hk a d⟩
def wT.Jo{u:Vz}(h:wT b c u w)(i:Nat)(v:Ac):wT b c u (w.setCell ⟨c,i,none⟩ v):=(h.yD.FW i v).yD
def wT.below(h:wT b c w w')(hb:B<=b)(a:B<=c)(d:B<=w.heap.size):Below B w w':=⟨h.os,h.tape,h.output,h.size,fun k hk=>h.block k oO oO oO⟩
def pV.other(h:pV w g rs)(b:g≠a)(i:Nat)(v:Ac):pV (w.setCell ⟨a,i,none⟩ v) g rs:=by obtain⟨C,h,c⟩:=h;refine⟨C,?_,c⟩;unfold SB at h ⊢;rw[gF _ _ _ _ b];exact h
def CE(n u v:Nat)(V xs ys:Vy):Prop:=∃o p q:Nat,val 18446744073709551616 (V.take n)+v*val 18446744073709551616 (ys.take n)+18446744073709551616 ^ n*o=u*val 18446744073709551616 (xs.take n)+18446744073709551616 ^ n*(p+q)
def CE.end{V a:Vy}(h:CE n u v V xs a)(e:Small 18446744073709551616 V)(f:n<=V.length)(g:∃t,x=val 18446744073709551616 (xs.take n)+18446744073709551616 ^ n*t)(i:∃t,y=val 18446744073709551616 (a.take n)+18446744073709551616 ^ n*t)(j:u*x=v*y+z)(b:z<18446744073709551616 ^ n):
 val 18446744073709551616 (V.take n)=z:=by
 obtain⟨o,p,q,h⟩:=h;obtain⟨t,rfl⟩:=g;obtain⟨r,rfl⟩:=i;have d:=qi (B:=18446744073709551616) dD (e.take n);rw[cI,eH f]at d;generalize val 18446744073709551616 (V.take n)=A at*;generalize val 18446744073709551616 (xs.take n)=D at*;generalize val 18446744073709551616 (a.take n)=E at*;generalize 18446744073709551616 ^ n=M at*;have k:A+M*(o+u*t)=z+M*(p+q+v*r):=by
  have l:u*(D+M*t)=u*D+M*(u*t):=by rw[cF,lF]
  have m:v*(E+M*r)=v*E+M*(v*r):=by rw[cF,lF]
  rw[l,m]at j;rw[cF,cF M (p+q)];omega
 have c:=congrArg (· % M) k;simp only[Nat.add_mul_mod_self_left]at c;rw[kH d,kH b]at c;exact c
def Ow(j l n cx cy a b c d:Nat)(X Y:Vy)(w:Vz)(hX:pV w j X)(hY:pV w l Y)(E:j≠l)(sX:Small 18446744073709551616 X)(sY:Small 18446744073709551616 Y)(nX:n<=X.length)(nY:n<=Y.length)(hn:n<=1099511627776)(bl:n<=cx)(bm:n<=cy)(ha:a<18446744073709551616)(hb:b<18446744073709551616)(hc:c<18446744073709551616)(hd:d<18446744073709551616):
 Calls prog 202 #[.slice (some ⟨j,0,none⟩) n cx,.slice (some ⟨l,0,none⟩) n cy,.int .u64 a,.int .u64 b,.int .u64 c,.int .u64 d] w fun e w'=>e=.returned (.tuple #[])/\
  ∃g i,pV w' j g/\pV w' l i/\g.length=X.length/\i.length=Y.length/\Small 18446744073709551616 g/\Small 18446744073709551616 i/\CE n a b g X Y/\CE n c d i Y X/\wT j l w w':=by
 obtain⟨av,aw,F,G⟩:=Ic hX hY sX sY;have H:l≠j:=fun h=>E h.symm
 clear hX hY sX sY;go_enter func202,ntmps202;go_wp2;go_loopw [12,13,14,15,16,17,31] (fun ax ay az a0 a1 a2 iv wr=>∃(k y z A B C D:Nat)(g i:Vy),k<=n/\y<18446744073709551616/\z<18446744073709551616/\A<18446744073709551616/\B<18446744073709551616/\C<=1/\D<=1/\
  ax=.int .u64 y/\ay=.int .u64 z/\az=.int .u64 A/\a0=.int .u64 B/\a1=.int .u64 C/\a2=.int .u64 D/\iv=.int .i64 k/\pV wr j g/\pV wr l i/\g.length=X.length/\i.length=Y.length/\Small 18446744073709551616 g/\Small 18446744073709551616 i/\
  (∀p,k<=p->g.getD p 0=X.getD p 0)/\(∀p,k<=p->i.getD p 0=Y.getD p 0)/\
  val 18446744073709551616 (g.take k)+b*val 18446744073709551616 (Y.take k)+18446744073709551616 ^ k*y=a*val 18446744073709551616 (X.take k)+18446744073709551616 ^ k*(z+C)/\
  val 18446744073709551616 (i.take k)+d*val 18446744073709551616 (X.take k)+18446744073709551616 ^ k*A=c*val 18446744073709551616 (Y.take k)+18446744073709551616 ^ k*(B+D)/\wT j l w wr) (fun _ _ _ _ _ _ iv _=>n - (intOf iv).toNat)
 case atStart=>exact⟨0,0,0,0,0,0,0,X,Y,oO,oO,oO,oO,oO,oO,oO,rfl,rfl,rfl,rfl,rfl,rfl,rfl,av.o,aw.o,rfl,rfl,F.o,G.o,fun _ _=>rfl,fun _ _=>rfl,by simp[val],by simp[val],wT.refl _ _ _⟩
 case round=>
  obtain⟨k,y,z,A,B,C,D,g,i,hk,a3,a4,a5,a6,a7,a8,rfl,rfl,rfl,rfl,rfl,rfl,rfl,I,J,lX,lY,tX,tY,rX,rY,eX,eY,K⟩:=hrel;obtain⟨HP,HQ,m,q,L,M,N,O,t⟩:=Ih I J lX lY tX tY rX rY eX;obtain⟨x,P⟩:=Ia eY K;clear tX tY rX rY eX eY K;by_cases bn:k<n
  .
   obtain⟨u,Q⟩:=nm (X.getD k 0);obtain⟨v,R⟩:=nm (Y.getD k 0);have S:u<18446744073709551616:=by rw[<-Q];exact F.o.getD oO k
   have T:v<18446744073709551616:=by rw[<-R];exact G.o.getD oO k
   obtain⟨a9,lA,U,ba,V,W⟩:=G9 u a y S ha a3;obtain⟨bb,lB,Z,bc,aa,ab⟩:=G9 v b z T hb a4;obtain⟨bd,lC,ad,be,ae,af⟩:=G9 v c A T hc a5;obtain⟨bf,lD,ag,bg,ah,ai⟩:=G9 u d B S hd a6;obtain⟨r,bh,hr,aj,ak,bi⟩:=xS lA lB C ba bc a7;obtain⟨s,bj,hs,al,am,bk⟩:=xS lC lD D be bg a8;have g1:=I.free k;have g2:=I.cell k oO;rw[N.o k lZ,Q]at g2;have g3:=J.free k;have g4:=J.cell k oO;rw[O.o k lZ,R]at g4;obtain⟨an,ao,ap,aq,ar,au⟩:=Ie W ab af ai (Ox oO Q R V aa ak t.o) (Ox oO R Q ae ah am x.o);clear Q R W ab af ai V aa ae ah ak am I J lX lY;go_wp2_with fail;go_fit (an.o _);rintro e1 w1 ⟨rfl,f⟩;subst f;go_wp2_with fail;go_fit (ao.o _);rintro e1 w1 ⟨rfl,f⟩;subst f;go_wp2_with fail;go_fit (ap.o _);rintro e1 w1 ⟨rfl,f⟩;subst f;go_wp2_with fail;go_fit (aq.o _);rintro e1 w1 ⟨rfl,f⟩;subst f;clear an ao ap aq;go_wp2_with (simp only[bi,bk]);go_roundw
   case rel=>
    refine⟨k+1,a9,bb,bd,bf,bh,bj,g.set k r,i.set k s,oO,U,Z,ad,ag,aj,al,rfl,rfl,rfl,rfl,rfl,rfl,by go_num,(HP.o.set k r (oB m.o)).other E _ _,(HQ.o.other H _ _).set k s (oB q.o),by rw[aQ];exact m.o,by rw[aQ];exact q.o,L.o.set k hr,M.o.set k hs,?_,?_,ar.o,au.o,(P.o.FW _ _).Jo _ _⟩
    . intro p hp;rw[getD_set_ne _ _ _ _ oO];exact N.o p oO
    . intro p hp;rw[getD_set_ne _ _ _ _ oO];exact O.o p oO
   case measure=>exact mI
  . have e1:k=n:=oO;clear I J lX lY;go_wp2;go_end0;rw[e1]at t x;exact⟨rfl,g,i,HP.o,HQ.o,m.o,q.o,L.o,M.o,⟨y,z,C,t.o⟩,⟨A,B,D,x.o⟩,P.o⟩
structure qk (a0 b0 st:Nat) (odd:Bool) (xx xy yx yy nX nY a b pa:Nat):Prop where
 ra:if odd then yx*a0=yy*b0+a else yy*b0=yx*a0+a
 rb:if odd then nY*b0=nX*a0+b else nX*a0=nY*b0+b
 ab:b≤a
 d1:if odd then yx*nY=yy*nX+1 else yy*nX=yx*nY+1
 n1:nX≤nY
 n2:1≤nY
 s0:st=0→odd=true∧xy=0∧yx=1∧yy=0∧nX=0
 s1:1≤st→yx≤yy∧1≤yy∧yy≤a∧a+xy+yy≤pa∧1≤nX
 dd:1≤st→if odd then xy*yx=xx*yy+1 else xx*yy=xy*yx+1
 rp:1≤st→if odd then xy*b0=xx*a0+pa else xx*a0=xy*b0+pa
 s2:st=1→xy=0
 s3:2≤st→xx≤xy∧1≤xy∧1≤yx
def qk.start(a b:Nat)(h:b≤a):qk a b 0 true 0 0 1 0 0 1 a b 0:=
 ⟨by simp,by simp,h,by simp,by omega,by omega,fun _=>⟨rfl,rfl,rfl,rfl,rfl⟩,fun h=>by omega,fun h=>by omega,fun h=>by omega,fun h=>by omega,fun h=>by omega⟩
def qk.whole{c:Bool}{o q:Nat}(h:qk d e n c o p f g i j a b q):d=j*a+g*b∧e=i*a+f*b:=by
 have k:=h.ra;have l:=h.rb;have m:=h.d1;cases c
 · simp only[Bool.false_eq_true,if_false]at k l m
   constructor<;>grind
 · simp only[if_true]at k l m
   constructor<;>grind
def qk.next{w l q:Nat}{c:Bool}{A:Nat}(h:qk v w l c A B m n g f a b C)(hb:f≤b)(D:b+n+f≤a)(H:q*b+r=a)(I:r<b)(o:1≤q):
 qk v w (min (l+1) 2) (!c) m n g f (m+q*g) (n+q*f) b r a:=by
 have d:=h.ra;have j:=h.rb;have k:=h.d1;have p:=h.n1;have s:=h.n2;have E:=Nat.mul_le_mul_left q p;have F:f≤q*f:=by have:=Nat.mul_le_mul_right f o;omega
 have G:g≤q*g:=by have:=Nat.mul_le_mul_right g o;omega
 have i:l=0∨1≤l:=by omega
 have t:m+q*g≤n+q*f:=by
  rcases i with e|e
  · obtain⟨_,_,x,y,z⟩:=h.s0 e
    rw[x,y,z,Nat.mul_zero];omega
  · have:=(h.s1 e).1;omega
 have u:1≤m+q*g:=by
  rcases i with e|e
  · obtain⟨_,_,x,y,z⟩:=h.s0 e
    omega
  · have:=(h.s1 e).2.2.2.2;omega
 refine⟨?_,?_,by omega,?_,t,by omega,fun e=>by omega,fun _=>⟨p,s,hb,by omega,u⟩,fun _=>?_,fun _=>?_,fun e=>?_,fun e=>?_⟩
 ·
  cases c
  · simp only[Bool.not_false,if_true,Bool.false_eq_true,if_false]at j ⊢;exact j
  · simp only[Bool.not_true,Bool.false_eq_true,if_false,if_true]at j ⊢;exact j
 ·
  cases c
  · simp only[Bool.not_false,if_true,Bool.false_eq_true,if_false]at d j ⊢;grind
  · simp only[Bool.not_true,Bool.false_eq_true,if_false,if_true]at d j ⊢;grind
 ·
  cases c
  · simp only[Bool.not_false,if_true,Bool.false_eq_true,if_false]at k ⊢;grind
  · simp only[Bool.not_true,Bool.false_eq_true,if_false,if_true]at k ⊢;grind
 ·
  cases c
  · simp only[Bool.not_false,if_true,Bool.false_eq_true,if_false]at k ⊢;exact k
  · simp only[Bool.not_true,Bool.false_eq_true,if_false,if_true]at k ⊢;exact k
 ·
  cases c
  · simp only[Bool.not_false,if_true,Bool.false_eq_true,if_false]at d ⊢;exact d
  · simp only[Bool.not_true,Bool.false_eq_true,if_false,if_true]at d ⊢;exact d
 ·
  rcases i with d|d
  · exact(h.s0 d).2.2.2.1
  · omega
 · have d:1≤l:=by omega
   exact⟨(h.s1 d).1,(h.s1 d).2.1,(h.s1 d).2.2.2.2⟩
structure xB (odd:Bool) (xx xy yx yy x y X Y:Nat):Prop where
 fx:if odd then xy*y=xx*x+X else xx*x=xy*y+X
 fy:if odd then yx*x=yy*y+Y else yy*y=yx*x+Y
 le:Y≤X
 bx:x=yy*X+xy*Y
 by':y=yx*X+xx*Y
 p1:1≤xy
 p2:1≤yx
 p3:1≤yy
def Iv(b:z<P)(a:u≤v):u*z≤v*P:=Nat.mul_le_mul a (Nat.le_of_lt b)
def qk.done{g:Bool}{o l:Nat}(h:qk i j t g e d f c B C a b o)(D:2≤t)(p:x=i*P+k)(q:y=j*P+l)(m:k<P)(n:l<P):∃X Y,xB g e d f c x y X Y:=by
 obtain⟨k1,k2,E,K,L⟩:=h.s1 (by omega);obtain⟨F,u,v⟩:=h.s3 D;have w:=h.ra;have z:=h.rp (by omega);have A:=h.dd (by omega);have M:=Iv m F;have N:=Iv n (Nat.le_refl d);have O:=Iv m k1;have Q:=Iv n (Nat.le_refl c);have R:d*P+c*P+a*P≤o*P:=by rw[←Nat.add_mul,←Nat.add_mul];exact Nat.mul_le_mul_right _ (by omega)
 have S:c*P≤a*P:=Nat.mul_le_mul_right _ E;cases g
 ·
  simp only[Bool.false_eq_true,if_false]at w z A;have G:e*x=d*(j*P)+o*P+e*k:=by rw[p];grind
  have H:d*y=d*(j*P)+d*l:=by rw[q];grind
  have I:c*y=f*(i*P)+a*P+c*l:=by rw[q];grind
  have J:f*x=f*(i*P)+f*k:=by rw[p];grind
  obtain⟨X,r⟩:∃X,e*x=d*y+X:=⟨e*x - d*y,by omega⟩;obtain⟨Y,s⟩:∃Y,c*y=f*x+Y:=⟨c*y - f*x,by omega⟩;refine⟨X,Y,by simpa using r,by simpa using s,by omega,?_,?_,u,v,k2⟩
  · grind
  · grind
 ·
  simp only[if_true]at w z A;have G:d*y=e*(i*P)+o*P+d*l:=by rw[q];grind
  have H:e*x=e*(i*P)+e*k:=by rw[p];grind
  have I:f*x=c*(j*P)+a*P+f*k:=by rw[p];grind
  have J:c*y=c*(j*P)+c*l:=by rw[q];grind
  obtain⟨X,r⟩:∃X,d*y=e*x+X:=⟨d*y - e*x,by omega⟩;obtain⟨Y,s⟩:∃Y,f*x=c*y+Y:=⟨f*x - c*y,by omega⟩;refine⟨X,Y,by simpa using r,by simpa using s,by omega,?_,?_,u,v,k2⟩
  · grind
  · grind
def xB.gcd{a:Bool}(h:xB a b c d e x y X Y):Nat.gcd X Y=Nat.gcd x y:=by
 apply Nat.dvd_antisymm
 ·
  apply Nat.dvd_gcd
  · rw[h.bx]
    exact Nat.dvd_add (Nat.dvd_trans (Nat.gcd_dvd_left X Y) (Nat.dvd_mul_left X e)) (Nat.dvd_trans (Nat.gcd_dvd_right X Y) (Nat.dvd_mul_left Y c))
  · rw[h.by']
    exact Nat.dvd_add (Nat.dvd_trans (Nat.gcd_dvd_left X Y) (Nat.dvd_mul_left X d)) (Nat.dvd_trans (Nat.gcd_dvd_right X Y) (Nat.dvd_mul_left Y b))
 ·
  have j:=Nat.gcd_dvd_left x y;have k:=Nat.gcd_dvd_right x y;have f1:=h.fx;have f2:=h.fy;generalize Nat.gcd x y=g at*;have f:=fun u=>Nat.dvd_trans j (Nat.dvd_mul_left x u)
  have i:=fun u=>Nat.dvd_trans k (Nat.dvd_mul_left y u)
  apply Nat.dvd_gcd
  ·
   cases a
   · simp only[Bool.false_eq_true,if_false]at f1
     exact(Nat.dvd_add_right (i c)).1 (f1 ▸ f b)
   · simp only[if_true]at f1
     exact(Nat.dvd_add_right (f b)).1 (f1 ▸ i c)
  ·
   cases a
   · simp only[Bool.false_eq_true,if_false]at f2
     exact(Nat.dvd_add_right (f d)).1 (f2 ▸ i e)
   · simp only[if_true]at f2
     exact(Nat.dvd_add_right (i e)).1 (f2 ▸ f d)
def xB.less{a:Bool}(h:xB a d e f g x y X Y)(i:0<y):X≤y∧X+Y<x+y:=by
 have j:=h.bx;have c:=h.by';have k:=Nat.mul_le_mul_right X h.p3;have l:=Nat.mul_le_mul_right Y h.p1;have m:=Nat.mul_le_mul_right X h.p2;have n:=h.le;have o:0<X:=by
  rcases Nat.eq_zero_or_pos X with b|b
  ·
   have:Y=0:=by omega
   rw[b,this]at c;simp at c;omega
  · exact b
 constructor<;>omega
def OA(d e s:Nat)(n:s<64)(f:d*2 ^ s<18446744073709551616)(i:e<18446744073709551616):∃lo g b r:Nat,IntKind.u64.wrap ((d:Int)*2 ^ s)=(lo:Int)/\(e:Int) / 2 ^ (64 - s)=(g:Int)/\bits .or .u64 (lo:Int) (g:Int)=(b:Int)/\b<18446744073709551616/\r<2 ^ (64 - s)/\b*2 ^ (64 - s)+r=e+18446744073709551616*d:=by
 have c:=EP (s:=s) oO;have j:=Ly (lo:=e) (s:=s) oO i;have o:=iS e (2 ^ (64 - s));have h:2 ^ s*d+e / 2 ^ (64 - s)<18446744073709551616:=by
  have k:d+1<=2 ^ (64 - s):=by apply Nat.lt_of_mul_lt_mul_left (a:=2 ^ s);rw[c,bV];exact f
  have l:=cR (2 ^ s) k;rw[c,cF,eP]at l;omega
 refine⟨d*2 ^ s,e / 2 ^ (64 - s),2 ^ s*d+e / 2 ^ (64 - s),e % 2 ^ (64 - s),?_,?_,?_,h,eU _ (gN _),?_⟩
 . rw[show (d:Int)*2 ^ s=((d*2 ^ s:Nat):Int) by rw[gi,iW];rfl,FM _ f]
 . rw[pO,iW];rfl
 . exact yO _ _ d (e / 2 ^ (64 - s)) s (by rw[bV]) rfl j h
 . have m:2 ^ s*d*2 ^ (64 - s)=18446744073709551616*d:=by rw[Nat.mul_right_comm,c]
   rw[jB,m,bV (e / 2 ^ (64 - s))];omega
def Oz(h:Num 18446744073709551616 l x)(hl:l.length<=N+2):∃a,a<18446744073709551616 ^ N/\x=a+18446744073709551616 ^ N*(l.getD N 0+18446744073709551616*l.getD (N+1) 0):=by
 refine⟨val 18446744073709551616 (l.take N),?_,?_⟩
 . have b:=qi (B:=18446744073709551616) dD (h.small.take N)
   exact aF b (cP dD tO)
 . have b:=sW 18446744073709551616 l (N+1);rw[bL oO,h.eq,sW,fD]at b;rw[b,cF,dQ];omega
structure BN (x y a b P x' y':Nat):Prop where
 hx:x=a*P+x'
 hy:y=b*P+y'
 hx':x'<P
 hy':y'<P
 ab:b<=a
 ha:a<18446744073709551616
def UO{d1 d0:Nat}(h:y<=x)(i:x=c+18446744073709551616 ^ N*(d0+18446744073709551616*d1))(j:y=d+18446744073709551616 ^ N*(g+18446744073709551616*e))(k:c<18446744073709551616 ^ N)(l:d<18446744073709551616 ^ N)(m:a*2 ^ (64 - s)+r=d0+18446744073709551616*d1)(hb:b*2 ^ (64 - s)+t=g+18446744073709551616*e)(n:r<2 ^ (64 - s))(o:t<2 ^ (64 - s))(f:a<18446744073709551616):∃P q u,BN x y a b P q u:=by
 generalize 18446744073709551616 ^ N=M at*;generalize 2 ^ (64 - s)=p at*;have v:M*(r+1)<=M*p:=cR M n;have w:M*(t+1)<=M*p:=cR M o;rw[cF,eP]at v w;have e:x=a*(M*p)+(c+M*r):=by rw[i,<-m];grind
 have z:y=b*(M*p)+(d+M*t):=by rw[j,<-hb];grind
 refine⟨M*p,c+M*r,d+M*t,e,z,oO,oO,?_,f⟩;apply bC;intro B;have A:(a+1)*(M*p)<=b*(M*p):=cD _ oO;rw[jB,qa]at A;omega
def UN(N:Nat)(l m:Vy)(x y:Nat)(v:Num 18446744073709551616 l x)(E:Num 18446744073709551616 m y)(F:y<=x)(hl:l.length=N+2)(ad:l.length<=1099511627776):
 ∃a b:Nat,(∃P x' y',BN x y a b P x' y')/\∀(W G:Vx)(c1 c2:Nat)(w:Vz),jx w W c1 l x->jx w G c2 m y->Calls prog 195 #[.slice W l.length c1,.slice G m.length c2] w fun e w'=>e=.returned (.tuple #[.int .u64 (a:Int),.int .u64 (b:Int)])/\Below w.heap.size w w':=by
 have H:m.length<=N+2:=by apply bC;intro hc;have:=zN (B:=18446744073709551616) dD v.small E.trim oO;rw[v.eq,E.eq]at this;omega
 have g:m.length<=1099511627776:=oO;obtain⟨lx,I,X⟩:=Oz v (N:=N) oO;obtain⟨ly,J,Y⟩:=Oz E (N:=N) H;obtain⟨d1,j⟩:∃d,l.getD (N+1) 0=d:=⟨_,rfl⟩;obtain⟨d0,n⟩:∃d,l.getD N 0=d:=⟨_,rfl⟩;obtain⟨f1,z⟩:∃d,m.getD (N+1) 0=d:=⟨_,rfl⟩;obtain⟨f0,q⟩:∃d,m.getD N 0=d:=⟨_,rfl⟩;have K:d1<18446744073709551616:=by rw[<-j];exact v.small.getD oO _
 have M:d0<18446744073709551616:=by rw[<-n];exact v.small.getD oO _
 have O:f0<18446744073709551616:=by rw[<-q];exact E.small.getD oO _
 have Q:0<d1:=by obtain⟨_,t,V,_,_,h,_⟩:=OD v (N:=N+1) oO;rw[<-j,V];exact h
 rw[j,n]at X;rw[z,q]at Y;have Z:f1<=d1:=by apply bC;intro hc;have k1:18446744073709551616 ^ N*(d0+18446744073709551616*d1+1)<=18446744073709551616 ^ N*(f0+18446744073709551616*f1):=cR _ oO;rw[cF _ _ 1,eP]at k1;omega
 obtain⟨s,u,hs,R,k⟩:=Lz d1 Q K;have c:=Hi (fun w=>LA (d1:Int) w oO oO);rw[hs]at c;obtain⟨lo,hi,a,r,u1,u2,u3,aa,hr,S⟩:=OA d1 d0 s u k M;obtain⟨ae,af,b,t,v1,v2,v3,ag,V,T⟩:=OA f1 f0 s u (bQ (cD _ Z) k) O;refine⟨a,b,UO F X Y I J S T hr V aa,?_⟩;intro W G c1 c2 w h1 h2;obtain⟨b1,o1,rfl,ah,U⟩:=h1.row.cell (N+1) oO;obtain⟨b2,o2,e2,ai,ab⟩:=h1.row.cell N oO;obtain⟨rfl,rfl⟩:b1=b2/\o1=o2:=by simp at e2;exact e2
 clear e2;have f:=EW G c2 m (N+1);have i:=EW G c2 m N;rw[z]at f;rw[q]at i;rw[j]at U;rw[n]at ab;obtain⟨D,f,i⟩:=Ib h2 f i;obtain⟨L,hL⟩:=nm l.length;obtain⟨p,hp⟩:=nm (N+1);rw[hL];rw[hp]at U f;have w1:IntKind.i64.wrap ((L:Int) - 1)=(p:Int):=by rw[wrap_i64 _ oO oO];omega
 have w2:IntKind.i64.wrap ((L:Int) - 2)=(N:Int):=by rw[wrap_i64 _ oO oO];omega
 have w3:IntKind.i64.wrap (64 - (s:Int))=((64 - s:Nat):Int):=by rw[wrap_i64 _ oO oO];omega
 have i1:(p:Int)<(L:Int):=oO;have i2:(N:Int)<(L:Int):=oO;have A:p<=2199023255552:=oO;have C:N<=2199023255552:=oO;clear h1 h2 v E X Y I J S T hr V R k j n z q hs F hl H hp;go_enter func195,ntmps195;go_wp2_with fail;go_fit (c.o _);rintro e w2 ⟨rfl,hw⟩;subst hw;clear c;go_wp2_with fail;go_region
 all_goals
  go_wp2_with fail;go_region_held3 (fun _=>True) (trivial) (first
   |(
    go_at_call 205
    first
     |go_fit (f.o _ (D.o.row) g A)
     |go_fit (f.o _ (D.o.drew.row) g A)
     |go_fit (f.o _ (D.o.drew.drew.row) g A)
     |go_fit (i.o _ (D.o.row) g C)
     |go_fit (i.o _ (D.o.drew.row) g C)
     |go_fit (i.o _ (D.o.drew.drew.row) g C)
    rintro e w6 ⟨rfl,hw⟩
    subst hw))
  all_goals
   go_wp2;go_ret2;exact⟨rfl,bR.drew.drew⟩
def SB.apart{t:Vr}{C:Vw}(h:SB w b t C)(a:b≠g)(i:Nat)(v:Ac):SB (w.setCell ⟨g,i,none⟩ v) b t C:=by unfold SB at h ⊢;rw[gF _ _ _ _ a];exact h
def ni(odd:Bool)(xx xy yx yy:Nat):Value:=.agg #[.int .u64 xx,.int .u64 xy,.int .u64 yx,.int .u64 yy,.bool odd]
structure Steps (x y:Nat) (odd:Bool) (xx xy yx yy:Nat):Prop where
 bxx:xx<18446744073709551616
 bxy:xy<18446744073709551616
 byx:yx<18446744073709551616
 byy:yy<18446744073709551616
 go:0<xy->∃X Y,xB odd xx xy yx yy x y X Y
def yW(x y:Nat)(w:Vz)(e:As)(w':Vz):Prop:=(∃odd xx xy yx yy,e=.returned (ni odd xx xy yx yy)/\Steps x y odd xx xy yx yy)/\Below w.heap.size w w'
def qk.small{g:Bool}{l:Nat}(h:qk d k f g l m i c j e a b n)(hb:1<=b):j<=d/\e+c<=d/\i<=d+1:=by
 have o:=h.whole;have p:=h.ab;have q:e*1<=e*a:=cR _ oO;have r:c*1<=c*b:=cR _ hb;have s:=h.n1;have t:i<=c+1:=by
  rcases(show f=0∨1<=f by omega) with h0|h0
  . have:=h.s0 h0;omega
  . have:=h.s1 h0;omega
 refine⟨oO,oO,by have:=h.n2;omega⟩
def qk.step{o:Nat}{g:Bool}{w:Nat}(h:qk j o p g t w k f i c a b x)(hb:c<=b)(l:b+f+c<=a):∃q r u v d e:Nat,(a:Int) / (b:Int)=(q:Int)/\Int.tdiv (a:Int) (b:Int)=(q:Int)/\(a:Int) % (b:Int)=(r:Int)/\Int.tmod (a:Int) (b:Int)=(r:Int)/\(q:Int)*(i:Int)=(u:Int)/\(q:Int)*(c:Int)=(v:Int)/\(k:Int)+(u:Int)=(d:Int)/\(f:Int)+(v:Int)=(e:Int)/\
 d<=j/\e<=j/\u<=d/\v<=e/\r<b/\q<=a/\qk j o (min (p+1) 2) (!g) k f i c d e b r a:=by
 have y:=h.n2;have z:a / b*b+a % b=a:=by rw[bV];exact iS a b
 have s:a % b<b:=eU _ oO;have m:1<=a / b:=(Nat.one_le_div_iff oO).2 oO;have n:=h.next hb l z s m;have A:=n.whole;have B:=n.n1;have C:(f+a / b*c)*1<=(f+a / b*c)*b:=cR _ oO;refine⟨a / b,a % b,a / b*i,a / b*c,k+a / b*i,f+a / b*c,rfl,rfl,rfl,rfl,(gi _ _).symm,(gi _ _).symm,(mV _ _).symm,(mV _ _).symm,oO,oO,oO,oO,s,mR _ _,n⟩
def Tryz.uH:(prog.info? 197).map (·.size)=some 5:=kK
def qk.C5{c:Bool}{l o:Nat}(h:qk j k d c e f g i l m a b n)(H:BN x y j k P o p)(q:e<18446744073709551616)(r:f<18446744073709551616)(s:g<18446744073709551616)(t:i<18446744073709551616):Steps x y c e f g i:=by
 refine⟨oO,oO,oO,oO,fun u=>?_⟩;rcases(show d=0∨d=1∨2<=d by omega) with h1|h1|h1
 . have:=h.s0 h1;omega
 . have:=h.s2 h1;omega
 . exact h.done h1 H.hx H.hy H.hx' H.hy'
def UJ(L M:Vx)(c1 c2 N:Nat)(l m:Vy)(x y:Nat)(w:Vz)(H:jx w L c1 l x)(O:jx w M c2 m y)(C:y<=x)(hl:l.length=N+2):
 Calls prog 158 #[.slice L l.length c1,.slice M m.length c2] w (yW x y w):=by
 obtain⟨I,Q,⟨P,x',y',J⟩,hC⟩:=UN N l m x y H.num O.num C hl H.short;obtain⟨HC,HH⟩:=Ia hC J;have an:=J.ha;have S:=J.ab;obtain⟨H1,H2⟩:=Ia H O;clear J hC H O C hl;go_enter func158,ntmps158;go_wp2_with fail;go_fit (HC.o L M c1 c2 _ (H1.o.below (bR.alloc lZ _)) (H2.o.below (bR.alloc lZ _)));rintro e w1 ⟨rfl,hb⟩;have HB:=Hi ((bR.alloc lZ _).trans (hb.mono wO));have d:=SB.below (cK w _ _) hb wO;obtain⟨R,D⟩:=nm w.heap.size;obtain⟨g,K⟩:=nm w1.heap.size;have i:R<g:=by rw[<-K,<-D];exact d.lt
 have HS:=Hi d;rw[D]at HB HS;clear hb HC d;go_wp2_with fail
 try rw[K]
 try rw[D]
 obtain⟨HG,HR⟩:=Ia K D;clear K D;go_loopw [5,6,8,9] (fun av T U V wr=>∃(W:Nat)(c:Bool)(k n j f E p a b pa:Nat),av=.int .u64 a/\T=.int .u64 b/\U=.int .u64 E/\V=.int .u64 p/\a<=I/\E<18446744073709551616/\p<18446744073709551616/\k<18446744073709551616/\n<18446744073709551616/\j<18446744073709551616/\f<18446744073709551616/\qk I Q W c k n j f E p a b pa/\
  SB wr g 197 #[.int .u64 k,.int .u64 n,.int .u64 j,.int .u64 f,.bool c]/\SB wr R 197 #[.int .u64 0,.int .u64 0,.int .u64 0,.int .u64 0,.bool false]/\Below R w wr) (fun _ T _ _ _=>(intOf T).toNat)
 case atStart=> refine⟨0,true,0,0,1,0,0,1,I,Q,0,rfl,rfl,rfl,rfl,oO,oO,oO,oO,oO,oO,oO,qk.start I Q S,?_,HS.o.alloc _,HB.o.alloc (by rw[HG.o];omega) _⟩;rw[<-HG.o];exact cK _ _ _
 case round=>
  obtain⟨W,c,k,n,j,f,E,p,a,b,pa,rfl,rfl,rfl,rfl,ao,X,Y,F,G,s,t,Z,d,h,hb⟩:=hrel;obtain⟨B,aa,z,A⟩:=Ic Z d h hb;have k0:=d.cell 0;have k1:=d.cell 1;have k2:=d.cell 2;have k3:=d.cell 3;have k4:=d.cell 4;have f0:=d.free 0;have f1:=d.free 1;have f2:=d.free 2;have f3:=d.free 3;have f4:=d.free 4;have r0:=h.cell 0;have r1:=h.cell 1;have r2:=h.cell 2;have r3:=h.cell 3;have r4:=h.cell 4;have q0:=h.free 0;have q1:=h.free 1;have q2:=h.free 2;have q3:=h.free 3;have q4:=h.free 4;simp at k0 k1 k2 k3 k4 r0 r1 r2 r3 r4;have ap:=Z.ab;clear d h hb Z;by_cases ad:p<=b
  .
   have ae:=B.o.small (oB B.o.n2);obtain⟨ai,aj,ak⟩:=ae;by_cases af:b+f+p<=a
   .
    obtain⟨q,r,u,v,ag,ah,d1,d2,d3,d4,d5,d6,d7,d8,al,am,hu,hv,h,aq,hN⟩:=B.o.step ad af;have HN:=Hi hN;clear hN;have t1:((b:Int) == 0)=false:=by rw[aJ];have:=B.o.n2;omega
    have t2:decide ((f:Int)+(p:Int)<=(a:Int) - (b:Int))=true:=sO;clear r0 r1 r2 r3 r4 q0 q1 q2 q3 q4;go_wp2_with fail;go_region
    all_goals
     go_wp2;refine⟨⟨min (W+1) 2,!c,j,f,E,p,ag,ah,b,r,a,rfl,rfl,rfl,rfl,oO,oO,oO,s,t,X,Y,HN.o,?_,?_,?_⟩,?_⟩
     . exact zE (((((aa.o.set 0 _).set 2 _).set 1 _).set 3 _).set 4 _)
     . refine zE (SB.apart (SB.apart (SB.apart (SB.apart (SB.apart z.o ?_ 0 _) ?_ 2 _) ?_ 1 _) ?_ 3 _) ?_ 4 _)
       all_goals omega
     . exact(((((A.o.setCell (dO i) _).setCell (dO i) _).setCell (dO i) _).setCell (dO i) _).setCell (dO i) _).drew
     . simp[intOf];omega
   . have t1:((a:Int) - (b:Int)≥(f:Int)+(p:Int))=False:=sO;have t2:decide ((f:Int)+(p:Int)<=(a:Int) - (b:Int))=false:=sO;go_wp2;refine bK (v:=ni c k n j f) (bG rfl _ _ R 197 #[.int .u64 k,.int .u64 n,.int .u64 j,.int .u64 f,.bool c] (0,0) _ rfl (((((z.o.set 0 _).set 1 _).set 2 _).set 3 _).set 4 _) underlying197 rfl Tryz.uH) rfl ?_;exact⟨⟨c,k,n,j,f,rfl,B.o.C5 HH.o F G s t⟩,by rw[HR.o];exact((((A.o.setCell lZ _).setCell lZ _).setCell lZ _).setCell lZ _).setCell lZ _⟩
  . go_wp2;refine bK (v:=ni c k n j f) (bG rfl _ _ R 197 #[.int .u64 k,.int .u64 n,.int .u64 j,.int .u64 f,.bool c] (0,0) _ rfl (((((z.o.set 0 _).set 1 _).set 2 _).set 3 _).set 4 _) underlying197 rfl Tryz.uH) rfl ?_;exact⟨⟨c,k,n,j,f,rfl,B.o.C5 HH.o F G s t⟩,by rw[HR.o];exact((((A.o.setCell lZ _).setCell lZ _).setCell lZ _).setCell lZ _).setCell lZ _⟩
def UI(b:Bool)(c a d f:Nat)(w:Vz):
 Calls prog 159 #[ni b c a d f] w fun e w'=>e=.returned (.bool (decide (a=0)))/\Below w.heap.size w w':=by
 rw[show (decide (a=0))=((a:Int) == 0) by by_cases h:a=0<;>simp[h]];unfold ni;go_enter func159,ntmps159;go_wp2;go_ret;exact⟨rfl,bR.alloc lZ _⟩
def Ov{C:Vy}(h:ON w g cap C l x)(a:n<=l.length):∃t,x=val 18446744073709551616 (C.take n)+18446744073709551616 ^ n*t:=by
 refine⟨val 18446744073709551616 (l.drop n),?_⟩;have e:C.take n=l.take n:=by have:=congrArg (List.take n) h.fro;rw[List.take_take,eH a]at this;exact this
 rw[e,<-vv _ _ _ a];exact h.num.eq.symm
def ON.lt{C:Vy}(h:ON w g cap C l x):x<18446744073709551616 ^ l.length:=by have:=qi (B:=18446744073709551616) dD h.num.small;rw[h.num.eq]at this;exact this
def L7(w:Vz)(gx gy X Y:Nat)(e:As):Prop:=∃ga gb ca cb Ca Cb la lb,e=.returned (.tuple #[.slice (some ⟨ga,0,none⟩) (List.length la) ca,.slice (some ⟨gb,0,none⟩) (List.length lb) cb])/\ON w ga ca Ca la X/\ON w gb cb Cb lb Y/\((ga=gx/\gb=gy)∨(ga=gy/\gb=gx))
def UH(c:Bool)(H I J K:Nat)(j k v A:Nat)(Cx Cy l m:Vy)(x y X Y:Nat)(w:Vz)(d:ON w j v Cx l x)(g:ON w k A Cy m y)(af:j≠k)(ap:y<=x)(z:Steps x y c H I J K)(hL:xB c H I J K x y X Y)(hy:0<y)(B:Nat)(ag:B<=j)(ah:B<=k):
 Calls prog 161 #[ni c H I J K,.slice (some ⟨j,0,none⟩) l.length v,.slice (some ⟨k,0,none⟩) m.length A] w fun e w'=>L7 w' j k X Y e/\Below B w w':=by
 have hl:=hL.less hy;have aq:=g.num.fG dD (bQ ap d.lt);have L:=d.fit;have M:=g.fit;have N:=d.le;have P:=g.le;have Q:=d.len;have R:=g.len;have C:=bQ hl.1 g.lt;have S:=bQ (oB hL.le) C;have tx:=Ov d aq;have ty:=Ov g lZ;have fx:=hL.fx;have fy:=hL.fy;have i:=Hi (⟨C,S,tx,ty⟩:X<18446744073709551616 ^ m.length/\Y<18446744073709551616 ^ m.length/\_/\_);obtain⟨wa,n⟩:=nm (w.alloc (.cells #[Value.int .u64 H,.int .u64 I,.int .u64 J,.int .u64 K,.bool c] 197));obtain⟨gs,hg⟩:=nm w.heap.size;have f:Below w.heap.size w wa:=by rw[<-n];exact(ac _ _).alloc lZ _
 have a:SB wa gs 197 #[Value.int .u64 H,.int .u64 I,.int .u64 J,.int .u64 K,.bool c]:=by rw[<-n,<-hg];exact cK _ _ _
 have p1:=d.pre.below f d.pre.lt;have p2:=g.pre.below f g.pre.lt;have HB:O (Below B w wa):=Hi (f.mono (oB d.pre.lt));have ai:O (B<=wa.heap.size):=Hi (oC d.pre.lt f.size);have k0:=a.cell 0;have k1:=a.cell 1;have k2:=a.cell 2;have k3:=a.cell 3;have k4:=a.cell 4;simp at k0 k1 k2 k3 k4;obtain⟨HW,HG,aj,ak,D,E,ar,au⟩:=Ig n hg Q R N P L M;have al:m.length<=v:=oO;have am:m.length<=A:=oO;obtain⟨an,ao⟩:=Ia al am;have im:(m.length:Int)<=(v:Int):=oO;have av:(0:Int)<=(m.length:Int):=oO;unfold ni;cases c
 . simp only[Bool.false_eq_true,EB]at fx fy;obtain⟨p,T,U⟩:=Ib (Ow j k m.length v A H I K J Cx Cy wa p1 p2 af d.small g.small oO oO oO oO oO z.bxx z.bxy z.byy z.byx) fx fy;clear d g z hL hl C S tx ty fx fy p1 p2 f a n hg Q R N P L M;go_enter func161,ntmps161;go_wp2_with fail;rw[HW.o,HG.o];go_wp2_with fail;go_fit p.o;rintro e w2 ⟨rfl,X2,Y2,q,r,F,G,V,W,oX,oY,s⟩;obtain⟨Z,aa,ab⟩:=Ib (Ha j m.length v X X2 w2 q V (by rw[F];exact aj.o) (by rw[F];have:=D.o;omega) an.o (oX.end V (by rw[F];have:=D.o;omega) i.o.2.2.1 i.o.2.2.2 T.o i.o.1)) (Ha k m.length A Y Y2 w2 r W (by rw[G];exact ak.o) (by rw[G];have:=E.o;omega) ao.o (oY.end W (by rw[G];have:=E.o;omega) i.o.2.2.2 i.o.2.2.1 U.o i.o.2.1)) (HB.o.trans (s.below ag ah ai.o));clear q r F G V W oX oY s p k0 k1 k2 k3 k4;go_wp2_with fail;go_fit Z.o;rintro e w3 ⟨⟨r1,rfl,t,_⟩,b⟩;subst b;have ad:=Hi t;clear t;go_wp2_with fail;go_fit aa.o;rintro e w3 ⟨⟨r2,rfl,u,_⟩,b⟩;subst b;have ae:=Hi u;clear u;go_wp2;go_ret2;exact⟨⟨j,k,v,A,X2,Y2,r1,r2,rfl,ad.o,ae.o,.inl ⟨rfl,rfl⟩⟩,ab.o⟩
 . simp only[tN]at fx fy;obtain⟨p,T,U⟩:=Ib (Ow k j m.length A v I H J K Cy Cx wa p2 p1 (fun h=>af h.symm) g.small d.small oO oO oO oO oO z.bxy z.bxx z.byx z.byy) fx fy;clear d g z hL hl C S tx ty fx fy p1 p2 f a n hg Q R N P L M;go_enter func161,ntmps161;go_wp2_with fail;rw[HW.o,HG.o];go_wp2_with fail;go_fit p.o;rintro e w2 ⟨rfl,X2,Y2,q,r,F,G,V,W,oX,oY,s⟩;obtain⟨Z,aa,ab⟩:=Ib (Ha k m.length A X X2 w2 q V (by rw[F];exact ak.o) (by rw[F];have:=E.o;omega) ao.o (oX.end V (by rw[F];have:=E.o;omega) i.o.2.2.2 i.o.2.2.1 T.o i.o.1)) (Ha j m.length v Y Y2 w2 r W (by rw[G];exact aj.o) (by rw[G];have:=D.o;omega) an.o (oY.end W (by rw[G];have:=D.o;omega) i.o.2.2.1 i.o.2.2.2 U.o i.o.2.1)) (HB.o.trans (s.below ah ag ai.o));clear q r F G V W oX oY s p k0 k1 k2 k3 k4;go_wp2_with fail;go_fit Z.o;rintro e w3 ⟨⟨r1,rfl,t,_⟩,b⟩;subst b;have ad:=Hi t;clear t;go_wp2_with fail;go_fit aa.o;rintro e w3 ⟨⟨r2,rfl,u,_⟩,b⟩;subst b;have ae:=Hi u;clear u;go_wp2;go_ret2;exact⟨⟨k,j,A,v,X2,Y2,r1,r2,rfl,ad.o,ae.o,.inr ⟨rfl,rfl⟩⟩,ab.o⟩
end Go.Proofs.YtfgclhpgdanmfaaGreatDoor
