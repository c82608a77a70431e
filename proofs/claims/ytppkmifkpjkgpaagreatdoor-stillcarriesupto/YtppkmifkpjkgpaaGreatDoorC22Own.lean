import Derived.Test.YtppkmifkpjkgpaaGreatDoorC21LendE
namespace Go.Proofs.YtppkmifkpjkgpaaGreatDoor
open Go.RowKit
open Go.Proofs.Tryz
set_option linter.unusedSimpArgs false
set_option linter.unusedVariables false
set_option maxHeartbeats 8000000
set_option maxRecDepth 1000000
theorem Qvo(g:Nat)(a:Vx)(cap:Nat)(c:List S2)(m:Vs)(n:Vs)(w:Vz)(hl:ARow S2.cells w (some ⟨g,0,none⟩) (c.length+3) (c++ [⟨m,n⟩,⟨m,n⟩,⟨m,n⟩]))(I:ARow S2.cells w a cap c)(hn:c.length<=1048576):
 Calls prog 45 #[.slice (some ⟨g,0,none⟩) c.length (c.length+3),.slice a c.length cap,.agg #[.string m,.string n]] w fun e w'=>e=.returned (.bool true)/\Below w.heap.size w w':=by
 obtain⟨L,M⟩:=Ia hl I;clear hl I;go_enter func45,ntmps45;go_wp2_with fail;obtain⟨W,C⟩:=nm (w.alloc (.cells #[.string m,.string n] 56));have l:=Ua C;have p:=Uc C;have N:w.heap.size<W.heap.size:=p.o.lt;rw[C];clear C;go_loopw [17] (fun D wr=>∃k:Nat,k<=c.length+3/\D=.int .i64 k/\Below W.heap.size W wr) (fun D _=>c.length+3 - (intOf D).toNat)
 case atStart=>exact⟨0,by omega,rfl,Below.refl _ _⟩
 case round=>
  obtain⟨k,hk,rfl,E⟩:=hrel;have u:=Hi E;have P:=E.size;clear E;by_cases v:k<c.length+3
  .
   obtain⟨f,d⟩:∃f,(c++ [⟨m,n⟩,⟨m,n⟩,⟨m,n⟩])[k]?=some f:=⟨_,gE (by simpa using v)⟩;obtain⟨fb,Q,z,R,F,c1⟩:=(L.o.below (l.o.trans (u.o.mono l.o.size))).spot d;simp only[Option.some.injEq,Addr.mk.injEq,and_true] at z;obtain⟨rfl,rfl⟩:=z;rw[Nat.zero_add] at F c1;by_cases A:k<c.length
   .
    have s:c[k]?=some f:=by rw[List.getElem?_append_left A] at d;exact d
    obtain⟨J,t,rfl,B,d0,d1⟩:=(M.o.below (l.o.trans (u.o.mono l.o.size))).spot s;have K:((k:Int)<(c.length:Int)):=by omega
    have S:decide (c.length<=k)=false:=by simpa using A
    clear d s;go_wp2_with fail;obtain⟨V,r⟩:=nm (wr.alloc (.cells #[.string f.x,.string f.y] 56));obtain⟨G,i⟩:=nm wr.heap.size;have q:SB V G 56 #[.string f.x,.string f.y]:=by rw[<-r,<-i];exact SB.new wr _ _
    have j:Below wr.heap.size wr V:=by rw[<-r];exact(Below.refl _ _).alloc lZ _
    have b:O (Below W.heap.size W V):=Hi (u.o.trans (j.mono u.o.size));obtain⟨T,U,-⟩:=zc q;obtain⟨X,b1,-⟩:=zc (p.o.below b.o p.o.lt);rw[r,i];clear r q i;have a0:V.cell? ⟨J,t+k*2,none⟩=some (.string f.x):=ce j B d0;have a1:V.cell? ⟨J,t+k*2+1,none⟩=some (.string f.y):=ce j B d1;clear F c1 d0 d1 j;go_quiet (fail);go_wp2;go_roundw
    case rel=>exact⟨k+1,by omega,by go_num,⟨b.o.os,b.o.tape,b.o.output,b.o.size,b.o.block⟩⟩
    case measure=>simp[intOf];omega
   .
    have Y:f=⟨m,n⟩:=by
     rw[List.getElem?_append_right (by omega)] at d;have Z:k - c.length=0∨k - c.length=1∨k - c.length=2:=by omega
     rcases Z with h|h|h<;>rw[h] at d<;>exact(Option.some.inj d).symm
    subst Y;have K:¬((k:Int)<(c.length:Int)):=by omega
    have S:decide ((k:Int)<(c.length:Int))=false:=by simpa using K
    clear d;go_wp2_with fail;obtain⟨V,r⟩:=nm (wr.alloc (.cells #[.string m,.string n] 56));obtain⟨G,i⟩:=nm wr.heap.size;have q:SB V G 56 #[.string m,.string n]:=by rw[<-r,<-i];exact SB.new wr _ _
    have j:Below wr.heap.size wr V:=by rw[<-r];exact(Below.refl _ _).alloc lZ _
    have b:O (Below W.heap.size W V):=Hi (u.o.trans (j.mono u.o.size));obtain⟨T,U,-⟩:=zc q;obtain⟨X,b1,-⟩:=zc (p.o.below b.o p.o.lt);rw[r,i];clear r q i;clear F c1 j;go_quiet (fail);go_wp2;go_roundw
    case rel=>exact⟨k+1,by omega,by go_num,⟨b.o.os,b.o.tape,b.o.output,b.o.size,b.o.block⟩⟩
    case measure=>simp[intOf];omega
  .
   have H:k=c.length+3:=by omega
   subst H;go_wp2;go_ret;exact⟨rfl,l.o.trans (u.o.mono l.o.size)⟩
theorem Qvp(g:Nat)(a:Vx)(cap:Nat)(j:List B6)(t:Int)(u:Int)(v:Vs)(x:Vs)(y:Vs)(z:Vs)(w:Vz)(hl:ARow B6.cells w (some ⟨g,0,none⟩) (j.length+3) (j++ [⟨t,u,v,x,y,z⟩,⟨t,u,v,x,y,z⟩,⟨t,u,v,x,y,z⟩]))(Q:ARow B6.cells w a cap j)(hn:j.length<=1048576):
 Calls prog 46 #[.slice (some ⟨g,0,none⟩) j.length (j.length+3),.slice a j.length cap,.agg #[.int .i64 t,.int .i64 u,.string v,.string x,.string y,.string z]] w fun e w'=>e=.returned (.bool true)/\Below w.heap.size w w':=by
 obtain⟨S,T⟩:=Ia hl Q;clear hl Q;go_enter func46,ntmps46;go_wp2_with fail;obtain⟨W,J⟩:=nm (w.alloc (.cells #[.int .i64 t,.int .i64 u,.string v,.string x,.string y,.string z] 80));have r:=Ua J;have A:=Uc J;have U:w.heap.size<W.heap.size:=A.o.lt;rw[J];clear J;go_loopw [17] (fun K wr=>∃k:Nat,k<=j.length+3/\K=.int .i64 k/\Below W.heap.size W wr) (fun K _=>j.length+3 - (intOf K).toNat)
 case atStart=>exact⟨0,by omega,rfl,Below.refl _ _⟩
 case round=>
  obtain⟨k,hk,rfl,L⟩:=hrel;have E:=Hi L;have X:=L.size;clear L;by_cases G:k<j.length+3
  .
   obtain⟨f,p⟩:∃f,(j++ [⟨t,u,v,x,y,z⟩,⟨t,u,v,x,y,z⟩,⟨t,u,v,x,y,z⟩])[k]?=some f:=⟨_,gE (by simpa using G)⟩;obtain⟨fb,Y,H,Z,M,c1,c2,c3,c4,c5⟩:=(S.o.below (r.o.trans (E.o.mono r.o.size))).bar p;simp only[Option.some.injEq,Addr.mk.injEq,and_true] at H;obtain⟨rfl,rfl⟩:=H;rw[Nat.zero_add] at M c1 c2 c3 c4 c5;by_cases I:k<j.length
   .
    have D:j[k]?=some f:=by rw[List.getElem?_append_left I] at p;exact p
    obtain⟨F,n,rfl,s,d0,d1,d2,d3,d4,d5⟩:=(T.o.below (r.o.trans (E.o.mono r.o.size))).bar D;have R:((k:Int)<(j.length:Int)):=by omega
    have q2:decide (j.length<=k)=false:=by simpa using I
    clear p D;go_wp2_with fail;obtain⟨V,C⟩:=nm (wr.alloc (.cells #[.int .i64 f.a,.int .i64 f.b,.string f.c,.string f.e,.string f.l,.string f.m] 80));obtain⟨N,q⟩:=nm wr.heap.size;have B:SB V N 80 #[.int .i64 f.a,.int .i64 f.b,.string f.c,.string f.e,.string f.l,.string f.m]:=by rw[<-C,<-q];exact SB.new wr _ _
    have i:Below wr.heap.size wr V:=by rw[<-C];exact(Below.refl _ _).alloc lZ _
    have d:O (Below W.heap.size W V):=Hi (E.o.trans (i.mono E.o.size));obtain⟨e0,e1,e2,e3,e4,e5,-⟩:=zc B;obtain⟨b0,b1,b2,b3,b4,b5,-⟩:=zc (A.o.below d.o A.o.lt);rw[C,q]
    clear C B q;have a0:V.cell? ⟨F,n+k*6,none⟩=some (.int .i64 f.a):=ce i s d0;have a1:V.cell? ⟨F,n+k*6+1,none⟩=some (.int .i64 f.b):=ce i s d1;have a2:V.cell? ⟨F,n+k*6+2,none⟩=some (.string f.c):=ce i s d2;have a3:V.cell? ⟨F,n+k*6+3,none⟩=some (.string f.e):=ce i s d3;have a4:V.cell? ⟨F,n+k*6+4,none⟩=some (.string f.l):=ce i s d4;have a5:V.cell? ⟨F,n+k*6+5,none⟩=some (.string f.m):=ce i s d5;clear M c1 c2 c3 c4 c5 d0 d1 d2 d3 d4 d5 i;go_quiet (fail);go_wp2;go_roundw
    case rel=>exact⟨k+1,by omega,by go_num,⟨d.o.os,d.o.tape,d.o.output,d.o.size,d.o.block⟩⟩
    case measure=>simp[intOf];omega
   .
    have hm:f=⟨t,u,v,x,y,z⟩:=by
     rw[List.getElem?_append_right (by omega)] at p;have h3:k - j.length=0∨k - j.length=1∨k - j.length=2:=by omega
     rcases h3 with h|h|h<;>rw[h] at p<;>exact(Option.some.inj p).symm
    subst hm;have R:¬((k:Int)<(j.length:Int)):=by omega
    have q2:decide ((k:Int)<(j.length:Int))=false:=by simpa using R
    clear p;go_wp2_with fail;obtain⟨V,C⟩:=nm (wr.alloc (.cells #[.int .i64 t,.int .i64 u,.string v,.string x,.string y,.string z] 80));obtain⟨N,q⟩:=nm wr.heap.size;have B:SB V N 80 #[.int .i64 t,.int .i64 u,.string v,.string x,.string y,.string z]:=by rw[<-C,<-q];exact SB.new wr _ _
    have i:Below wr.heap.size wr V:=by rw[<-C];exact(Below.refl _ _).alloc lZ _
    have d:O (Below W.heap.size W V):=Hi (E.o.trans (i.mono E.o.size));obtain⟨e0,e1,e2,e3,e4,e5,-⟩:=zc B;obtain⟨b0,b1,b2,b3,b4,b5,-⟩:=zc (A.o.below d.o A.o.lt);rw[C,q]
    clear C B q;clear M c1 c2 c3 c4 c5 i;go_quiet (fail);go_wp2;go_roundw
    case rel=>exact⟨k+1,by omega,by go_num,⟨d.o.os,d.o.tape,d.o.output,d.o.size,d.o.block⟩⟩
    case measure=>simp[intOf];omega
  .
   have P:k=j.length+3:=by omega
   subst P;go_wp2;go_ret;exact⟨rfl,r.o.trans (E.o.mono r.o.size)⟩
theorem Qvq(g:Nat)(a:Vx)(cap:Nat)(c:List H3)(n:Int)(p:Int)(r:Vs)(w:Vz)(hl:ARow H3.cells w (some ⟨g,0,none⟩) (c.length+3) (c++ [⟨n,p,r⟩,⟨n,p,r⟩,⟨n,p,r⟩]))(K:ARow H3.cells w a cap c)(hn:c.length<=1048576):
 Calls prog 47 #[.slice (some ⟨g,0,none⟩) c.length (c.length+3),.slice a c.length cap,.agg #[.int .i64 n,.int .i64 p,.string r]] w fun e w'=>e=.returned (.bool true)/\Below w.heap.size w w':=by
 obtain⟨M,N⟩:=Ia hl K;clear hl K;go_enter func47,ntmps47;go_wp2_with fail;obtain⟨W,D⟩:=nm (w.alloc (.cells #[.int .i64 n,.int .i64 p,.string r] 83));have m:=Ua D;have s:=Uc D;have P:w.heap.size<W.heap.size:=s.o.lt;rw[D];clear D;go_loopw [17] (fun E wr=>∃k:Nat,k<=c.length+3/\E=.int .i64 k/\Below W.heap.size W wr) (fun E _=>c.length+3 - (intOf E).toNat)
 case atStart=>exact⟨0,by omega,rfl,Below.refl _ _⟩
 case round=>
  obtain⟨k,hk,rfl,F⟩:=hrel;have y:=Hi F;have Q:=F.size;clear F;by_cases A:k<c.length+3
  .
   obtain⟨f,d⟩:∃f,(c++ [⟨n,p,r⟩,⟨n,p,r⟩,⟨n,p,r⟩])[k]?=some f:=⟨_,gE (by simpa using A)⟩;obtain⟨fb,R,B,S,G,c1,c2⟩:=(M.o.below (m.o.trans (y.o.mono m.o.size))).hold d;simp only[Option.some.injEq,Addr.mk.injEq,and_true] at B;obtain⟨rfl,rfl⟩:=B;rw[Nat.zero_add] at G c1 c2;by_cases C:k<c.length
   .
    have x:c[k]?=some f:=by rw[List.getElem?_append_left C] at d;exact d
    obtain⟨H,t,rfl,z,d0,d1,d2⟩:=(N.o.below (m.o.trans (y.o.mono m.o.size))).hold x;have L:((k:Int)<(c.length:Int)):=by omega
    have T:decide (c.length<=k)=false:=by simpa using C
    clear d x;go_wp2_with fail;obtain⟨V,v⟩:=nm (wr.alloc (.cells #[.int .i64 f.j,.int .i64 f.w,.string f.q] 83));obtain⟨I,l⟩:=nm wr.heap.size;have u:SB V I 83 #[.int .i64 f.j,.int .i64 f.w,.string f.q]:=by rw[<-v,<-l];exact SB.new wr _ _
    have i:Below wr.heap.size wr V:=by rw[<-v];exact(Below.refl _ _).alloc lZ _
    have b:O (Below W.heap.size W V):=Hi (y.o.trans (i.mono y.o.size));obtain⟨U,X,Y,-⟩:=zc u;obtain⟨Z,b1,b2,-⟩:=zc (s.o.below b.o s.o.lt);rw[v,l];clear v u l;have a0:V.cell? ⟨H,t+k*3,none⟩=some (.int .i64 f.j):=ce i z d0;have a1:V.cell? ⟨H,t+k*3+1,none⟩=some (.int .i64 f.w):=ce i z d1;have a2:V.cell? ⟨H,t+k*3+2,none⟩=some (.string f.q):=ce i z d2;clear G c1 c2 d0 d1 d2 i
    go_quiet (fail);go_wp2;go_roundw
    case rel=>exact⟨k+1,by omega,by go_num,⟨b.o.os,b.o.tape,b.o.output,b.o.size,b.o.block⟩⟩
    case measure=>simp[intOf];omega
   .
    have hm:f=⟨n,p,r⟩:=by
     rw[List.getElem?_append_right (by omega)] at d;have h3:k - c.length=0∨k - c.length=1∨k - c.length=2:=by omega
     rcases h3 with h|h|h<;>rw[h] at d<;>exact(Option.some.inj d).symm
    subst hm;have L:¬((k:Int)<(c.length:Int)):=by omega
    have T:decide ((k:Int)<(c.length:Int))=false:=by simpa using L
    clear d;go_wp2_with fail;obtain⟨V,v⟩:=nm (wr.alloc (.cells #[.int .i64 n,.int .i64 p,.string r] 83));obtain⟨I,l⟩:=nm wr.heap.size;have u:SB V I 83 #[.int .i64 n,.int .i64 p,.string r]:=by rw[<-v,<-l];exact SB.new wr _ _
    have i:Below wr.heap.size wr V:=by rw[<-v];exact(Below.refl _ _).alloc lZ _
    have b:O (Below W.heap.size W V):=Hi (y.o.trans (i.mono y.o.size));obtain⟨U,X,Y,-⟩:=zc u;obtain⟨Z,b1,b2,-⟩:=zc (s.o.below b.o s.o.lt);rw[v,l];clear v u l;clear G c1 c2 i;go_quiet (fail);go_wp2;go_roundw
    case rel=>exact⟨k+1,by omega,by go_num,⟨b.o.os,b.o.tape,b.o.output,b.o.size,b.o.block⟩⟩
    case measure=>simp[intOf];omega
  .
   have J:k=c.length+3:=by omega
   subst J;go_wp2;go_ret;exact⟨rfl,m.o.trans (y.o.mono m.o.size)⟩
theorem Qvr(g:Nat)(a:Vx)(cap:Nat)(c:List L3)(n:Int)(p:Vs)(q:Vs)(w:Vz)(hl:ARow L3.cells w (some ⟨g,0,none⟩) (c.length+3) (c++ [⟨n,p,q⟩,⟨n,p,q⟩,⟨n,p,q⟩]))(L:ARow L3.cells w a cap c)(hn:c.length<=1048576):
 Calls prog 26 #[.slice (some ⟨g,0,none⟩) c.length (c.length+3),.slice a c.length cap,.agg #[.int .i64 n,.string p,.string q]] w fun e w'=>e=.returned (.bool true)/\Below w.heap.size w w':=by
 obtain⟨N,P⟩:=Ia hl L;clear hl L;go_enter func26,ntmps26;go_wp2_with fail;obtain⟨W,E⟩:=nm (w.alloc (.cells #[.int .i64 n,.string p,.string q] 62));have m:=Ua E;have r:=Uc E;have Q:w.heap.size<W.heap.size:=r.o.lt;rw[E];clear E;go_loopw [17] (fun F wr=>∃k:Nat,k<=c.length+3/\F=.int .i64 k/\Below W.heap.size W wr) (fun F _=>c.length+3 - (intOf F).toNat)
 case atStart=>exact⟨0,by omega,rfl,Below.refl _ _⟩
 case round=>
  obtain⟨k,hk,rfl,G⟩:=hrel;have z:=Hi G;have R:=G.size;clear G;by_cases B:k<c.length+3
  .
   obtain⟨f,d⟩:∃f,(c++ [⟨n,p,q⟩,⟨n,p,q⟩,⟨n,p,q⟩])[k]?=some f:=⟨_,gE (by simpa using B)⟩;obtain⟨fb,S,C,T,H,c1,c2⟩:=(N.o.below (m.o.trans (z.o.mono m.o.size))).load d;simp only[Option.some.injEq,Addr.mk.injEq,and_true] at C;obtain⟨rfl,rfl⟩:=C;rw[Nat.zero_add] at H c1 c2;by_cases D:k<c.length
   .
    have v:c[k]?=some f:=by rw[List.getElem?_append_left D] at d;exact d
    obtain⟨I,s,rfl,A,d0,d1,d2⟩:=(P.o.below (m.o.trans (z.o.mono m.o.size))).load v;have M:((k:Int)<(c.length:Int)):=by omega
    have U:decide (c.length<=k)=false:=by simpa using D
    clear d v;go_wp2_with fail;obtain⟨V,u⟩:=nm (wr.alloc (.cells #[.int .i64 f.j,.string f.x,.string f.y] 62));obtain⟨J,l⟩:=nm wr.heap.size;have t:SB V J 62 #[.int .i64 f.j,.string f.x,.string f.y]:=by rw[<-u,<-l];exact SB.new wr _ _
    have i:Below wr.heap.size wr V:=by rw[<-u];exact(Below.refl _ _).alloc lZ _
    have b:O (Below W.heap.size W V):=Hi (z.o.trans (i.mono z.o.size));obtain⟨X,Y,Z,-⟩:=zc t;obtain⟨b0,b1,b2,-⟩:=zc (r.o.below b.o r.o.lt);rw[u,l];clear u t l;have a0:V.cell? ⟨I,s+k*3,none⟩=some (.int .i64 f.j):=ce i A d0;have a1:V.cell? ⟨I,s+k*3+1,none⟩=some (.string f.x):=ce i A d1;have a2:V.cell? ⟨I,s+k*3+2,none⟩=some (.string f.y):=ce i A d2;clear H c1 c2 d0 d1 d2 i;go_quiet (fail)
    go_wp2;go_roundw
    case rel=>exact⟨k+1,by omega,by go_num,⟨b.o.os,b.o.tape,b.o.output,b.o.size,b.o.block⟩⟩
    case measure=>simp[intOf];omega
   .
    have hm:f=⟨n,p,q⟩:=by
     rw[List.getElem?_append_right (by omega)] at d;have h3:k - c.length=0∨k - c.length=1∨k - c.length=2:=by omega
     rcases h3 with h|h|h<;>rw[h] at d<;>exact(Option.some.inj d).symm
    subst hm;have M:¬((k:Int)<(c.length:Int)):=by omega
    have U:decide ((k:Int)<(c.length:Int))=false:=by simpa using M
    clear d;go_wp2_with fail;obtain⟨V,u⟩:=nm (wr.alloc (.cells #[.int .i64 n,.string p,.string q] 62));obtain⟨J,l⟩:=nm wr.heap.size;have t:SB V J 62 #[.int .i64 n,.string p,.string q]:=by rw[<-u,<-l];exact SB.new wr _ _
    have i:Below wr.heap.size wr V:=by rw[<-u];exact(Below.refl _ _).alloc lZ _
    have b:O (Below W.heap.size W V):=Hi (z.o.trans (i.mono z.o.size));obtain⟨X,Y,Z,-⟩:=zc t;obtain⟨b0,b1,b2,-⟩:=zc (r.o.below b.o r.o.lt);rw[u,l];clear u t l;clear H c1 c2 i;go_quiet (fail);go_wp2;go_roundw
    case rel=>exact⟨k+1,by omega,by go_num,⟨b.o.os,b.o.tape,b.o.output,b.o.size,b.o.block⟩⟩
    case measure=>simp[intOf];omega
  .
   have K:k=c.length+3:=by omega
   subst K;go_wp2;go_ret;exact⟨rfl,m.o.trans (z.o.mono m.o.size)⟩
structure Stay (P:World->Prop):Prop where
 step:∀u v:Vz,Below u.heap.size u v->P u->P v
structure PBag (w0 w:Vz) (L:List (World->Prop)):Prop where
 base:Below w0.heap.size w0 w
 ps:∀P,P∈ L->P w/\Stay P
theorem PBag.start(w:Vz):PBag w w []:=⟨Below.refl _ _,fun P h=>by cases h⟩
theorem PBag.below{w0 w w':Vz}{L:List (World->Prop)}(h:PBag w0 w L)(b:Below w.heap.size w w'):PBag w0 w' L:=
 ⟨h.base.trans (b.mono h.base.size),fun P a=>⟨(h.ps P a).2.step w w' b (h.ps P a).1,(h.ps P a).2⟩⟩
theorem PBag.put{w0 w:Vz}{L:List (World->Prop)}{P:World->Prop}(h:PBag w0 w L)(b:P w)(c:Stay P):PBag w0 w (P :: L):=
 ⟨h.base,fun Q a=>by
   rcases List.mem_cons.1 a with rfl|a
   . exact⟨b,c⟩
   . exact h.ps Q a⟩
theorem PBag.drew{w0 w:Vz}{L:List (World->Prop)}(h:PBag w0 w L):PBag w0 w.drew L:=h.below (bR.drew)
theorem PBag.get{w0 w:Vz}{L:List (World->Prop)}(h:PBag w0 w L)(P:World->Prop)(a:P∈ L):P w:=(h.ps P a).1
theorem SB.stay(b:Nat)(t:Vr)(C:Vw):Stay (fun w=>SB w b t C):=⟨fun _ _ a h=>h.below a h.lt⟩
theorem ARow.far{α:Type}{c:α->List Value}{w:Vz}{g cap b i:Nat}{d:List α}{v:Value}(h:ARow c w (some ⟨g,0,none⟩) cap d)(a:b≠g):ARow c (w.setCell ⟨b,i,none⟩ v) (some ⟨g,0,none⟩) cap d:=by
 refine⟨h.fit,⟨fun j u f=>?_⟩⟩;obtain⟨o,k,l,m,n⟩:=h.row.cell j u f;cases l;exact⟨g,0,rfl,by simpa using m,by rw[World.cell?_of_block (w:=w) (Below.heap_setCell w ⟨b,i,none⟩ v g (fun e=>a e.symm))];exact n⟩
theorem ARow.stay{α:Type}(c:α->List Value)(a:Vx)(cap:Nat)(b:List α):Stay (fun w=>ARow c w a cap b):=⟨fun _ _ d h=>h.below d⟩
structure Marks3 (w:Vz):Prop where
 s0:w.cell? ⟨1,0,none⟩=some (.string ⟨#[109,97,114,107]⟩)
 s1:w.cell? ⟨1,1,none⟩=some (.string ⟨#[]⟩)
 b0:w.cell? ⟨2,0,none⟩=some (.int .i64 (-9))
 b1:w.cell? ⟨2,1,none⟩=some (.int .i64 0)
 b2:w.cell? ⟨2,2,none⟩=some (.string ⟨#[]⟩)
 b3:w.cell? ⟨2,3,none⟩=some (.string ⟨#[]⟩)
 b4:w.cell? ⟨2,4,none⟩=some (.string ⟨#[]⟩)
 b5:w.cell? ⟨2,5,none⟩=some (.string ⟨#[]⟩)
 h0:w.cell? ⟨3,0,none⟩=some (.int .i64 (-9))
 h1:w.cell? ⟨3,1,none⟩=some (.int .i64 0)
 h2:w.cell? ⟨3,2,none⟩=some (.string ⟨#[]⟩)
theorem Qas{w w':Vz}(a:Below w.heap.size w w'){b i:Nat}{v:Value}(h:w.cell? ⟨b,i,none⟩=some v):w'.cell? ⟨b,i,none⟩=some v:=
 ce a (World.block_lt_of_cell? _ _ h) h
theorem Marks3.stay:Stay Marks3:=⟨fun _ _ a h=>⟨Qas a h.s0,Qas a h.s1,Qas a h.b0,Qas a h.b1,Qas a h.b2,Qas a h.b3,Qas a h.b4,Qas a h.b5,Qas a h.h0,Qas a h.h1,Qas a h.h2⟩⟩
abbrev spotMark:S2:=⟨⟨#[109,97,114,107]⟩,⟨#[]⟩⟩
abbrev barMark:B6:=⟨-9,0,⟨#[]⟩,⟨#[]⟩,⟨#[]⟩,⟨#[]⟩⟩
abbrev holdMark:H3:=⟨-9,0,⟨#[]⟩⟩
theorem Tryz.frameInfo:(prog.info? 26).map (·.size)=some 3:=by kernel_rfl
theorem Qrn(j k l:Vx)(c1 c2 c3:Nat)(d:List S2)(f:List B6)(g:List H3)(w:Vz)(T:Marks3 w)(U:ARow S2.cells w j c1 d)(V:ARow B6.cells w k c2 f)(X:ARow H3.cells w l c3 g)
 (n1:d.length<=1048576) (n2:f.length<=1048576) (n3:g.length<=1048576):
 Calls prog 6 #[.agg #[.slice j d.length c1,.slice k f.length c2,.slice l g.length c3]] w fun e w'=>∃s t u,e=.returned (.agg #[.slice (some ⟨s,0,none⟩) d.length (d.length+3),.slice (some ⟨t,0,none⟩) f.length (f.length+3),.slice (some ⟨u,0,none⟩) g.length (g.length+3)])/\
  ARow S2.cells w' (some ⟨s,0,none⟩) (d.length+3) (d++ [spotMark,spotMark,spotMark])/\ARow B6.cells w' (some ⟨t,0,none⟩) (f.length+3) (f++ [barMark,barMark,barMark])/\ARow H3.cells w' (some ⟨u,0,none⟩) (g.length+3) (g++ [holdMark,holdMark,holdMark])/\Below w.heap.size w w':=by
 obtain⟨Y,z,Z,A⟩:=Ic U V X T;clear U V X T;go_enter func6,ntmps6;go_wp2_with fail;obtain⟨W,B⟩:=nm ((w.alloc (.cells #[.slice j d.length c1,.slice k f.length c2,.slice l g.length c3] 26)).alloc (.cells #[.slice none 0 0,.slice none 0 0,.slice none 0 0] 26));have C:Below w.heap.size w W:=by rw[<-B];exact Below.new2 w _ _
 have D:SB W w.heap.size 26 #[.slice j d.length c1,.slice k f.length c2,.slice l g.length c3]:=by rw[<-B];exact(SB.new w _ _).alloc _
 have E:SB W (w.heap.size+1) 26 #[.slice none 0 0,.slice none 0 0,.slice none 0 0]:=by rw[<-B];exact SB.new2 w _ _ _ _
 rw[B];have c:O (PBag w W [fun v=>SB v w.heap.size 26 #[.slice j d.length c1,.slice k f.length c2,.slice l g.length c3],fun v=>SB v (w.heap.size+1) 26 #[.slice none 0 0,.slice none 0 0,.slice none 0 0],Marks3]):=
  Hi (((((PBag.start w).put (P:=Marks3) A.o Marks3.stay).below C).put (P:=fun v=>SB v (w.heap.size+1) 26 #[.slice none 0 0,.slice none 0 0,.slice none 0 0]) E (SB.stay _ _ _)).put (P:=fun v=>SB v w.heap.size 26 #[.slice j d.length c1,.slice k f.length c2,.slice l g.length c3]) D (SB.stay _ _ _))
 have aa:w.heap.size+1≠w.heap.size:=by omega
 have ab:w.heap.size+1≠1:=by have:=World.block_lt_of_cell? _ _ A.o.s0;simp only at this;omega
 have ad:w.heap.size+1≠2:=by have:=World.block_lt_of_cell? _ _ A.o.b0;simp only at this;omega
 have ae:w.heap.size+1≠3:=by have:=World.block_lt_of_cell? _ _ A.o.h0;simp only at this;omega
 have af:w.heap.size≠0:=by have:=World.block_lt_of_cell? _ _ A.o.s0;simp only at this;omega
 clear B C D E;have i:SB W w.heap.size 26 #[.slice j d.length c1,.slice k f.length c2,.slice l g.length c3]:=c.o.get (fun v=>SB v w.heap.size 26 #[.slice j d.length c1,.slice k f.length c2,.slice l g.length c3]) (by
  (focus(repeat(first|exact mH|apply mT)))
  skip)
 have a:Marks3 W:=c.o.get Marks3 (by
  (focus(repeat(first|exact mH|apply mT)))
  skip)
 obtain⟨G,x1,x2,-⟩:=zc i;have H:=a.s0;have y1:=a.s1;have y2:=a.b0;have y3:=a.b1;have I:=a.b2;have J:=a.b3;have K:=a.b4;have L:=a.b5;have M:=a.h0;have N:=a.h1;have y:=a.h2;have b:SB W (w.heap.size+1) 26 #[.slice none 0 0,.slice none 0 0,.slice none 0 0]:=c.o.get (fun v=>SB v (w.heap.size+1) 26 #[.slice none 0 0,.slice none 0 0,.slice none 0 0]) (by
  (focus(repeat(first|exact mH|apply mT)))
  skip)
 obtain⟨Q,R,S,-⟩:=zc b;have f0:=b.free 0;have f1:=b.free 1;have f2:=b.free 2;clear i a b
 go_region_held3 (fun v=>v.cell? ⟨w.heap.size,0,none⟩=some (.slice j d.length c1)/\v.cell? ⟨w.heap.size,1,none⟩=some (.slice k f.length c2)/\v.cell? ⟨w.heap.size,2,none⟩=some (.slice l g.length c3)/\v.cell? ⟨1,0,none⟩=some (.string ⟨#[109,97,114,107]⟩)/\v.cell? ⟨1,1,none⟩=some (.string ⟨#[]⟩)/\v.cell? ⟨2,0,none⟩=some (.int .i64 (-9))/\v.cell? ⟨2,1,none⟩=some (.int .i64 0)/\v.cell? ⟨2,2,none⟩=some (.string ⟨#[]⟩)/\v.cell? ⟨2,3,none⟩=some (.string ⟨#[]⟩)/\v.cell? ⟨2,4,none⟩=some (.string ⟨#[]⟩)/\v.cell? ⟨2,5,none⟩=some (.string ⟨#[]⟩)/\v.cell? ⟨3,0,none⟩=some (.int .i64 (-9))/\v.cell? ⟨3,1,none⟩=some (.int .i64 0)/\v.cell? ⟨3,2,none⟩=some (.string ⟨#[]⟩)) ((first|(simp [*];done)|go_keep)) (first
  |
   (go_at_call_of 30 (Value.slice j d.length c1)
    apply cM;apply Qph j c1 d;(first|exact Y.o.below c.o.base|exact Y.o.below c.o.base.drew);exact n1;rintro e p ⟨s,m,rfl,h,n⟩;have q:w.heap.size+1≠s:=by
     have F:=(c.o.get (fun v=>SB v (w.heap.size+1) 26 #[.slice none 0 0,.slice none 0 0,.slice none 0 0]) (by
      (focus(repeat(first|exact mH|apply mT)))
      skip)).lt
     try simp only[World.size_drew] at m
     omega
    have x:=Hi (((by first|exact c.o|exact c.o.drew:PBag w _ _).below n).put (P:=fun v=>ARow S2.cells v (some ⟨s,0,none⟩) (d.length+3) (d++ [spotMark,spotMark,spotMark])) h (ARow.stay _ _ _ _));clear c h n m;have c:=x;clear x;have i:SB p w.heap.size 26 #[.slice j d.length c1,.slice k f.length c2,.slice l g.length c3]:=c.o.get (fun v=>SB v w.heap.size 26 #[.slice j d.length c1,.slice k f.length c2,.slice l g.length c3]) (by
     (focus(repeat(first|exact mH|apply mT)))
     skip)
    have a:Marks3 p:=c.o.get Marks3 (by
     (focus(repeat(first|exact mH|apply mT)))
     skip)
    obtain⟨G,x1,x2,-⟩:=zc i;have H:=a.s0;have y1:=a.s1;have y2:=a.b0;have y3:=a.b1;have I:=a.b2;have J:=a.b3;have K:=a.b4;have L:=a.b5;have M:=a.h0;have N:=a.h1;have y:=a.h2;have b:SB p (w.heap.size+1) 26 #[.slice none 0 0,.slice none 0 0,.slice none 0 0]:=c.o.get (fun v=>SB v (w.heap.size+1) 26 #[.slice none 0 0,.slice none 0 0,.slice none 0 0]) (by
     (focus(repeat(first|exact mH|apply mT)))
     skip)
    obtain⟨Q,R,S,-⟩:=zc b;have f0:=b.free 0;have f1:=b.free 1;have f2:=b.free 2;clear i a b
    skip)
  |
   (go_at_call_of 31 (Value.slice k f.length c2)
    apply cM;apply Qpj k c2 f;(first|exact z.o.below c.o.base|exact z.o.below c.o.base.drew);exact n2;rintro e p ⟨t,m,rfl,h,n⟩;have r:w.heap.size+1≠t:=by
     have F:=(c.o.get (fun v=>SB v (w.heap.size+1) 26 #[.slice none 0 0,.slice none 0 0,.slice none 0 0]) (by
      (focus(repeat(first|exact mH|apply mT)))
      skip)).lt
     try simp only[World.size_drew] at m
     omega
    have x:=Hi (((by first|exact c.o|exact c.o.drew:PBag w _ _).below n).put (P:=fun v=>ARow B6.cells v (some ⟨t,0,none⟩) (f.length+3) (f++ [barMark,barMark,barMark])) h (ARow.stay _ _ _ _));clear c h n m;have c:=x;clear x;have i:SB p w.heap.size 26 #[.slice j d.length c1,.slice k f.length c2,.slice l g.length c3]:=c.o.get (fun v=>SB v w.heap.size 26 #[.slice j d.length c1,.slice k f.length c2,.slice l g.length c3]) (by
     (focus(repeat(first|exact mH|apply mT)))
     skip)
    have a:Marks3 p:=c.o.get Marks3 (by
     (focus(repeat(first|exact mH|apply mT)))
     skip)
    obtain⟨G,x1,x2,-⟩:=zc i;have H:=a.s0;have y1:=a.s1;have y2:=a.b0;have y3:=a.b1;have I:=a.b2;have J:=a.b3;have K:=a.b4;have L:=a.b5;have M:=a.h0;have N:=a.h1;have y:=a.h2;have b:SB p (w.heap.size+1) 26 #[.slice none 0 0,.slice none 0 0,.slice none 0 0]:=c.o.get (fun v=>SB v (w.heap.size+1) 26 #[.slice none 0 0,.slice none 0 0,.slice none 0 0]) (by
     (focus(repeat(first|exact mH|apply mT)))
     skip)
    obtain⟨Q,R,S,-⟩:=zc b;have f0:=b.free 0;have f1:=b.free 1;have f2:=b.free 2;clear i a b
    skip)
  |
   (go_at_call_of 32 (Value.slice l g.length c3)
    apply cM;apply Qpl l c3 g;(first|exact Z.o.below c.o.base|exact Z.o.below c.o.base.drew);exact n3;rintro e p ⟨u,m,rfl,h,n⟩;have neg3:w.heap.size+1≠u:=by
     have F:=(c.o.get (fun v=>SB v (w.heap.size+1) 26 #[.slice none 0 0,.slice none 0 0,.slice none 0 0]) (by
      (focus(repeat(first|exact mH|apply mT)))
      skip)).lt
     try simp only[World.size_drew] at m
     omega
    have x:=Hi (((by first|exact c.o|exact c.o.drew:PBag w _ _).below n).put (P:=fun v=>ARow H3.cells v (some ⟨u,0,none⟩) (g.length+3) (g++ [holdMark,holdMark,holdMark])) h (ARow.stay _ _ _ _));clear c h n m;have c:=x;clear x;have i:SB p w.heap.size 26 #[.slice j d.length c1,.slice k f.length c2,.slice l g.length c3]:=c.o.get (fun v=>SB v w.heap.size 26 #[.slice j d.length c1,.slice k f.length c2,.slice l g.length c3]) (by
     (focus(repeat(first|exact mH|apply mT)))
     skip)
    have a:Marks3 p:=c.o.get Marks3 (by
     (focus(repeat(first|exact mH|apply mT)))
     skip)
    obtain⟨G,x1,x2,-⟩:=zc i;have H:=a.s0;have y1:=a.s1;have y2:=a.b0;have y3:=a.b1;have I:=a.b2;have J:=a.b3;have K:=a.b4;have L:=a.b5;have M:=a.h0;have N:=a.h1;have y:=a.h2;have b:SB p (w.heap.size+1) 26 #[.slice none 0 0,.slice none 0 0,.slice none 0 0]:=c.o.get (fun v=>SB v (w.heap.size+1) 26 #[.slice none 0 0,.slice none 0 0,.slice none 0 0]) (by
     (focus(repeat(first|exact mH|apply mT)))
     skip)
    obtain⟨Q,R,S,-⟩:=zc b;have f0:=b.free 0;have f1:=b.free 1;have f2:=b.free 2;clear i a b
    skip)
  )
 go_wp2;have b:SB p (w.heap.size+1) 26 #[.slice none 0 0,.slice none 0 0,.slice none 0 0]:=c.o.get (fun v=>SB v (w.heap.size+1) 26 #[.slice none 0 0,.slice none 0 0,.slice none 0 0]) (by
  (focus(repeat(first|exact mH|apply mT)))
  skip)
 have r1:=c.o.get (fun v=>ARow S2.cells v (some ⟨s,0,none⟩) (d.length+3) (d++ [spotMark,spotMark,spotMark])) (by
  (focus(repeat(first|exact mH|apply mT)))
  skip)
 have r2:=c.o.get (fun v=>ARow B6.cells v (some ⟨t,0,none⟩) (f.length+3) (f++ [barMark,barMark,barMark])) (by
  (focus(repeat(first|exact mH|apply mT)))
  skip)
 have r3:=c.o.get (fun v=>ARow H3.cells v (some ⟨u,0,none⟩) (g.length+3) (g++ [holdMark,holdMark,holdMark])) (by
  (focus(repeat(first|exact mH|apply mT)))
  skip)
 have hB:=c.o.base;refine bodyPost_ret (v:=.agg #[.slice (some ⟨s,0,none⟩) d.length (d.length+3),.slice (some ⟨t,0,none⟩) f.length (f.length+3),.slice (some ⟨u,0,none⟩) g.length (g.length+3)]) (results_cell_row rfl _ _ (w.heap.size+1) 26 #[.slice (some ⟨s,0,none⟩) d.length (d.length+3),.slice (some ⟨t,0,none⟩) f.length (f.length+3),.slice (some ⟨u,0,none⟩) g.length (g.length+3)] (0,0) _ rfl (((b.set 0 _).set 1 _).set 2 _) underlying26 rfl Tryz.frameInfo) rfl ?_;exact⟨s,t,u,rfl,((r1.far q).far q).far q,((r2.far r).far r).far r,((r3.far neg3).far neg3).far neg3,((hB.setCell (Nat.le_succ _) _).setCell (Nat.le_succ _) _).setCell (Nat.le_succ _) _⟩
end Go.Proofs.YtppkmifkpjkgpaaGreatDoor
