import Derived.Test.YtppkmifkpjkgpaaGreatDoorE09LendE
import Derived.WideKeyRuns
import Derived.MapKept
namespace Go.Proofs.YtppkmifkpjkgpaaGreatDoor
open Go.RowKit
open Go.Proofs.Tryz
set_option linter.unusedSimpArgs false
set_option linter.unusedVariables false
set_option maxHeartbeats 8000000
set_option maxRecDepth 1000000
theorem Qwj(g:Nat)(a:Vx)(cap:Nat)(c:List S2)(m:Vs)(n:Vs)(w:Vz)(hl:ARow S2.cells w (some ⟨g,0,none⟩) (c.length+3) (c++ [⟨m,n⟩,⟨m,n⟩,⟨m,n⟩]))(H:ARow S2.cells w a cap c)(Z:c.length<=1048576):
 Calls prog 45 #[.slice (some ⟨g,0,none⟩) c.length (c.length+3),.slice a c.length cap,.agg #[.string m,.string n]] w fun e w'=>e=.returned (.bool true)/\Below w.heap.size w w':=by
 obtain⟨K,L⟩:=Ia hl H;clear hl H;go_enter func45,ntmps45;go_wp2_with fail;obtain⟨W,A⟩:=nm (w.alloc (.cells #[.string m,.string n] 56));have j:=Ua A;have p:=Uc A;have M:=p.o.lt;rw[A];clear A;go_loopw [17] (fun B wr=>∃k:Nat,k<=c.length+3/\B=.int .i64 k/\Below W.heap.size W wr) (fun B _=>c.length+3 - (intOf B).toNat)
 case atStart=>exact⟨0,by omega,rfl,Below.refl _ _⟩
 case round=>
  obtain⟨k,hk,rfl,C⟩:=hrel;have t:=Hi C;have N:=C.size;clear C;by_cases u:k<c.length+3
  .
   obtain⟨f,d⟩:∃f,(c++ [⟨m,n⟩,⟨m,n⟩,⟨m,n⟩])[k]?=some f:=⟨_,gE (by simpa using u)⟩;obtain⟨fb,O,v,P,D,c1⟩:=(K.o.below (j.o.trans (t.o.mono j.o.size))).spot d;simp only[Option.some.injEq,Addr.mk.injEq,and_true] at v;obtain⟨rfl,rfl⟩:=v;rw[Nat.zero_add] at D c1;by_cases z:k<c.length
   .
    have s:c[k]?=some f:=by rw[List.getElem?_append_left z] at d;exact d
    obtain⟨ab,I,rfl,E,d0,d1⟩:=(L.o.below (j.o.trans (t.o.mono j.o.size))).spot s;have J:((k:Int)<(c.length:Int)):=by omega
    have Q:decide (c.length<=k)=false:=by simpa using z
    clear d s;go_wp2_with fail;obtain⟨V,r⟩:=nm (wr.alloc (.cells #[.string f.x,.string f.y] 56));obtain⟨F,i⟩:=nm wr.heap.size;have q:SB V F 56 #[.string f.x,.string f.y]:=by rw[<-r,<-i];exact SB.new wr _ _
    have l:Bl wr V:=by rw[<-r];exact(Below.refl _ _).alloc lZ _
    have b:=Hi (t.o.trans (l.mono t.o.size));obtain⟨R,S,-⟩:=zc q;obtain⟨T,U,-⟩:=zc (p.o.below b.o p.o.lt);rw[r,i];clear r q i;obtain⟨a0,a1⟩:=Ja l E d0 d1;clear D c1 d0 d1 l;go_quiet (fail);go_wp2;go_roundw
    case rel=>exact⟨k+1,by omega,by go_num,⟨b.o.os,b.o.tape,b.o.output,b.o.size,b.o.block⟩⟩
    case measure=>simp[intOf];omega
   .
    have X:f=⟨m,n⟩:=by
     rw[List.getElem?_append_right (by omega)] at d;have Y:k - c.length=0∨k - c.length=1∨k - c.length=2:=by omega
     rcases Y with h|h|h<;>rw[h] at d<;>exact(Option.some.inj d).symm
    subst X;have J:¬((k:Int)<(c.length:Int)):=by omega
    have Q:decide ((k:Int)<(c.length:Int))=false:=by simpa using J
    clear d;go_wp2_with fail;obtain⟨V,r⟩:=nm (wr.alloc (.cells #[.string m,.string n] 56));obtain⟨F,i⟩:=nm wr.heap.size;have q:SB V F 56 #[.string m,.string n]:=by rw[<-r,<-i];exact SB.new wr _ _
    have l:Bl wr V:=by rw[<-r];exact(Below.refl _ _).alloc lZ _
    have b:=Hi (t.o.trans (l.mono t.o.size));obtain⟨R,S,-⟩:=zc q;obtain⟨T,U,-⟩:=zc (p.o.below b.o p.o.lt);rw[r,i];clear r q i;clear D c1 l;go_quiet (fail);go_wp2;go_roundw
    case rel=>exact⟨k+1,by omega,by go_num,⟨b.o.os,b.o.tape,b.o.output,b.o.size,b.o.block⟩⟩
    case measure=>simp[intOf];omega
  .
   have G:k=c.length+3:=by omega
   subst G;go_wp2;go_ret;exact⟨rfl,j.o.trans (t.o.mono j.o.size)⟩
theorem Qwk(g:Nat)(a:Vx)(cap:Nat)(i:List B6)(r:Int)(s:Int)(t:Vs)(u:Vs)(v:Vs)(x:Vs)(w:Vz)(hl:ARow B6.cells w (some ⟨g,0,none⟩) (i.length+3) (i++ [⟨r,s,t,u,v,x⟩,⟨r,s,t,u,v,x⟩,⟨r,s,t,u,v,x⟩]))(N:ARow B6.cells w a cap i)(hn:i.length<=1048576):
 Calls prog 46 #[.slice (some ⟨g,0,none⟩) i.length (i.length+3),.slice a i.length cap,.agg #[.int .i64 r,.int .i64 s,.string t,.string u,.string v,.string x]] w fun e w'=>e=.returned (.bool true)/\Below w.heap.size w w':=by
 obtain⟨Q,R⟩:=Ia hl N;clear hl N;go_enter func46,ntmps46;go_wp2_with fail;obtain⟨W,G⟩:=nm (w.alloc (.cells #[.int .i64 r,.int .i64 s,.string t,.string u,.string v,.string x] 80));have p:=Ua G;have y:=Uc G;have S:=y.o.lt;rw[G];clear G;go_loopw [17] (fun H wr=>∃k:Nat,k<=i.length+3/\H=.int .i64 k/\Below W.heap.size W wr) (fun H _=>i.length+3 - (intOf H).toNat)
 case atStart=>exact⟨0,by omega,rfl,Below.refl _ _⟩
 case round=>
  obtain⟨k,hk,rfl,I⟩:=hrel;have C:=Hi I;have T:=I.size;clear I;by_cases D:k<i.length+3
  .
   obtain⟨f,j⟩:∃f,(i++ [⟨r,s,t,u,v,x⟩,⟨r,s,t,u,v,x⟩,⟨r,s,t,u,v,x⟩])[k]?=some f:=⟨_,gE (by simpa using D)⟩;obtain⟨fb,U,E,X,J,c1,c2,c3,c4,c5⟩:=(Q.o.below (p.o.trans (C.o.mono p.o.size))).bar j;simp only[Option.some.injEq,Addr.mk.injEq,and_true] at E;obtain⟨rfl,rfl⟩:=E;rw[Nat.zero_add] at J c1 c2 c3 c4 c5;by_cases F:k<i.length
   .
    have B:i[k]?=some f:=by rw[List.getElem?_append_left F] at j;exact j
    obtain⟨ab,O,rfl,K,d0,d1,d2,d3,d4,d5⟩:=(R.o.below (p.o.trans (C.o.mono p.o.size))).bar B;have P:((k:Int)<(i.length:Int)):=by omega
    have Y:decide (i.length<=k)=false:=by simpa using F
    clear j B;go_wp2_with fail;obtain⟨V,A⟩:=nm (wr.alloc (.cells #[.int .i64 f.a,.int .i64 f.b,.string f.c,.string f.e,.string f.l,.string f.m] 80));obtain⟨L,n⟩:=nm wr.heap.size;have z:SB V L 80 #[.int .i64 f.a,.int .i64 f.b,.string f.c,.string f.e,.string f.l,.string f.m]:=by rw[<-A,<-n];exact SB.new wr _ _
    have q:Bl wr V:=by rw[<-A];exact(Below.refl _ _).alloc lZ _
    have d:=Hi (C.o.trans (q.mono C.o.size));obtain⟨Z,e1,e2,e3,e4,e5,-⟩:=zc z;obtain⟨b0,b1,b2,b3,b4,b5,-⟩:=zc (y.o.below d.o y.o.lt);rw[A,n];clear A z n
    obtain⟨a0,a1,a2,a3,a4,a5⟩:=Je q K d0 d1 d2 d3 d4 d5;clear J c1 c2 c3 c4 c5 d0 d1 d2 d3 d4 d5 q;go_quiet (fail);go_wp2;go_roundw
    case rel=>exact⟨k+1,by omega,by go_num,⟨d.o.os,d.o.tape,d.o.output,d.o.size,d.o.block⟩⟩
    case measure=>simp[intOf];omega
   .
    have hm:f=⟨r,s,t,u,v,x⟩:=by
     rw[List.getElem?_append_right (by omega)] at j;have h3:k - i.length=0∨k - i.length=1∨k - i.length=2:=by omega
     rcases h3 with h|h|h<;>rw[h] at j<;>exact(Option.some.inj j).symm
    subst hm;have P:¬((k:Int)<(i.length:Int)):=by omega
    have Y:decide ((k:Int)<(i.length:Int))=false:=by simpa using P
    clear j;go_wp2_with fail;obtain⟨V,A⟩:=nm (wr.alloc (.cells #[.int .i64 r,.int .i64 s,.string t,.string u,.string v,.string x] 80));obtain⟨L,n⟩:=nm wr.heap.size;have z:SB V L 80 #[.int .i64 r,.int .i64 s,.string t,.string u,.string v,.string x]:=by rw[<-A,<-n];exact SB.new wr _ _
    have q:Bl wr V:=by rw[<-A];exact(Below.refl _ _).alloc lZ _
    have d:=Hi (C.o.trans (q.mono C.o.size));obtain⟨Z,e1,e2,e3,e4,e5,-⟩:=zc z;obtain⟨b0,b1,b2,b3,b4,b5,-⟩:=zc (y.o.below d.o y.o.lt);rw[A,n];clear A z n
    clear J c1 c2 c3 c4 c5 q;go_quiet (fail);go_wp2;go_roundw
    case rel=>exact⟨k+1,by omega,by go_num,⟨d.o.os,d.o.tape,d.o.output,d.o.size,d.o.block⟩⟩
    case measure=>simp[intOf];omega
  .
   have M:k=i.length+3:=by omega
   subst M;go_wp2;go_ret;exact⟨rfl,p.o.trans (C.o.mono p.o.size)⟩
theorem Qwl(g:Nat)(a:Vx)(cap:Nat)(c:List H3)(n:Int)(p:Int)(r:Vs)(w:Vz)(hl:ARow H3.cells w (some ⟨g,0,none⟩) (c.length+3) (c++ [⟨n,p,r⟩,⟨n,p,r⟩,⟨n,p,r⟩]))(I:ARow H3.cells w a cap c)(hn:c.length<=1048576):
 Calls prog 47 #[.slice (some ⟨g,0,none⟩) c.length (c.length+3),.slice a c.length cap,.agg #[.int .i64 n,.int .i64 p,.string r]] w fun e w'=>e=.returned (.bool true)/\Below w.heap.size w w':=by
 obtain⟨L,M⟩:=Ia hl I;clear hl I;go_enter func47,ntmps47;go_wp2_with fail;obtain⟨W,B⟩:=nm (w.alloc (.cells #[.int .i64 n,.int .i64 p,.string r] 83));have l:=Ua B;have s:=Uc B;have N:=s.o.lt;rw[B];clear B;go_loopw [17] (fun C wr=>∃k:Nat,k<=c.length+3/\C=.int .i64 k/\Below W.heap.size W wr) (fun C _=>c.length+3 - (intOf C).toNat)
 case atStart=>exact⟨0,by omega,rfl,Below.refl _ _⟩
 case round=>
  obtain⟨k,hk,rfl,D⟩:=hrel;have x:=Hi D;have O:=D.size;clear D;by_cases y:k<c.length+3
  .
   obtain⟨f,d⟩:∃f,(c++ [⟨n,p,r⟩,⟨n,p,r⟩,⟨n,p,r⟩])[k]?=some f:=⟨_,gE (by simpa using y)⟩;obtain⟨fb,P,z,Q,E,c1,c2⟩:=(L.o.below (l.o.trans (x.o.mono l.o.size))).hold d;simp only[Option.some.injEq,Addr.mk.injEq,and_true] at z;obtain⟨rfl,rfl⟩:=z;rw[Nat.zero_add] at E c1 c2;by_cases A:k<c.length
   .
    have v:c[k]?=some f:=by rw[List.getElem?_append_left A] at d;exact d
    obtain⟨ab,J,rfl,F,d0,d1,d2⟩:=(M.o.below (l.o.trans (x.o.mono l.o.size))).hold v;have K:((k:Int)<(c.length:Int)):=by omega
    have R:decide (c.length<=k)=false:=by simpa using A
    clear d v;go_wp2_with fail;obtain⟨V,u⟩:=nm (wr.alloc (.cells #[.int .i64 f.j,.int .i64 f.w,.string f.q] 83));obtain⟨G,i⟩:=nm wr.heap.size;have t:SB V G 83 #[.int .i64 f.j,.int .i64 f.w,.string f.q]:=by rw[<-u,<-i];exact SB.new wr _ _
    have m:Bl wr V:=by rw[<-u];exact(Below.refl _ _).alloc lZ _
    have b:=Hi (x.o.trans (m.mono x.o.size));obtain⟨S,T,U,-⟩:=zc t;obtain⟨X,Y,Z,-⟩:=zc (s.o.below b.o s.o.lt);rw[u,i];clear u t i;obtain⟨a0,a1,a2⟩:=Jb m F d0 d1 d2;clear E c1 c2 d0 d1 d2 m;go_quiet (fail);go_wp2;go_roundw
    case rel=>exact⟨k+1,by omega,by go_num,⟨b.o.os,b.o.tape,b.o.output,b.o.size,b.o.block⟩⟩
    case measure=>simp[intOf];omega
   .
    have hm:f=⟨n,p,r⟩:=by
     rw[List.getElem?_append_right (by omega)] at d;have h3:k - c.length=0∨k - c.length=1∨k - c.length=2:=by omega
     rcases h3 with h|h|h<;>rw[h] at d<;>exact(Option.some.inj d).symm
    subst hm;have K:¬((k:Int)<(c.length:Int)):=by omega
    have R:decide ((k:Int)<(c.length:Int))=false:=by simpa using K
    clear d;go_wp2_with fail;obtain⟨V,u⟩:=nm (wr.alloc (.cells #[.int .i64 n,.int .i64 p,.string r] 83));obtain⟨G,i⟩:=nm wr.heap.size;have t:SB V G 83 #[.int .i64 n,.int .i64 p,.string r]:=by rw[<-u,<-i];exact SB.new wr _ _
    have m:Bl wr V:=by rw[<-u];exact(Below.refl _ _).alloc lZ _
    have b:=Hi (x.o.trans (m.mono x.o.size));obtain⟨S,T,U,-⟩:=zc t;obtain⟨X,Y,Z,-⟩:=zc (s.o.below b.o s.o.lt);rw[u,i];clear u t i;clear E c1 c2 m;go_quiet (fail);go_wp2;go_roundw
    case rel=>exact⟨k+1,by omega,by go_num,⟨b.o.os,b.o.tape,b.o.output,b.o.size,b.o.block⟩⟩
    case measure=>simp[intOf];omega
  .
   have H:k=c.length+3:=by omega
   subst H;go_wp2;go_ret;exact⟨rfl,l.o.trans (x.o.mono l.o.size)⟩
structure Stay (P:World->Prop):Prop where
 step:∀u v:Vz,Below u.heap.size u v->P u->P v
structure PBag (w0 w:Vz) (L:List (World->Prop)):Prop where
 base:Bl w0 w
 ps:∀P,P∈ L->P w/\Stay P
theorem PBag.start(w:Vz):PBag w w []:=⟨Below.refl _ _,fun P h=>by cases h⟩
theorem PBag.below{w0 w w':Vz}{L:List (World->Prop)}(h:PBag w0 w L)(b:Bl w w'):PBag w0 w' L:=
 ⟨h.base.trans (b.mono h.base.size),fun P a=>⟨(h.ps P a).2.step w w' b (h.ps P a).1,(h.ps P a).2⟩⟩
theorem PBag.put{w0 w:Vz}{L:List (World->Prop)}{P:World->Prop}(h:PBag w0 w L)(b:P w)(hs:Stay P):PBag w0 w (P :: L):=
 ⟨h.base,fun Q a=>by
   rcases List.mem_cons.1 a with rfl|a
   . exact⟨b,hs⟩
   . exact h.ps Q a⟩
theorem PBag.drew{w0 w:Vz}{L:List (World->Prop)}(h:PBag w0 w L):PBag w0 w.drew L:=h.below (bR.drew)
theorem PBag.get{w0 w:Vz}{L:List (World->Prop)}(h:PBag w0 w L)(P:World->Prop)(a:P∈ L):P w:=(h.ps P a).1
theorem SB.stay(b:Nat)(t:Vr)(C:Vw):Stay (fun w=>SB w b t C):=⟨fun _ _ a h=>h.below a h.lt⟩
theorem ARow.far{α:Type}{c:α->List Value}{w:Vz}{g cap b i:Nat}{d:List α}{v:Value}(h:ARow c w (some ⟨g,0,none⟩) cap d)(a:b≠g):ARow c (w.setCell ⟨b,i,none⟩ v) (some ⟨g,0,none⟩) cap d:=by
 refine⟨h.fit,⟨fun j u f=>?_⟩⟩;obtain⟨o,k,l,m,n⟩:=h.row.cell j u f;cases l;exact⟨g,0,rfl,by simpa using m,by rw[World.cell?_of_block (w:=w) (Below.heap_setCell w ⟨b,i,none⟩ v g (fun e=>a e.symm))];exact n⟩
theorem ARow.stay{α:Type}(c:α->List Value)(a:Vx)(cap:Nat)(b:List α):Stay (fun w=>ARow c w a cap b):=⟨fun _ _ d h=>h.below d⟩
structure Marks3 (w:Vz):Prop where
 s0:w.cell? ⟨1,0,none⟩=some (.string ⟨#[109,97,114,107]⟩)
 s1:w.cell? ⟨1,1,none⟩=some (.string ⟨#[]⟩)
 b0:w.cell? ⟨2,0,none⟩=some (.int .i64 (-9))
 b1:w.cell? ⟨2,1,none⟩=some (.int .i64 0)
 b2:w.cell? ⟨2,2,none⟩=some (.string ⟨#[]⟩)
 b3:w.cell? ⟨2,3,none⟩=some (.string ⟨#[]⟩)
 b4:w.cell? ⟨2,4,none⟩=some (.string ⟨#[]⟩)
 b5:w.cell? ⟨2,5,none⟩=some (.string ⟨#[]⟩)
 h0:w.cell? ⟨3,0,none⟩=some (.int .i64 (-9))
 h1:w.cell? ⟨3,1,none⟩=some (.int .i64 0)
 h2:w.cell? ⟨3,2,none⟩=some (.string ⟨#[]⟩)
theorem Qa5{w w':Vz}(a:Bl w w'){b i:Nat}{v:Value}(h:w.cell? ⟨b,i,none⟩=some v):w'.cell? ⟨b,i,none⟩=some v:=
 ce a (World.block_lt_of_cell? _ _ h) h
theorem Marks3.stay:Stay Marks3:=⟨fun _ _ a h=>⟨Qa5 a h.s0,Qa5 a h.s1,Qa5 a h.b0,Qa5 a h.b1,Qa5 a h.b2,Qa5 a h.b3,Qa5 a h.b4,Qa5 a h.b5,Qa5 a h.h0,Qa5 a h.h1,Qa5 a h.h2⟩⟩
abbrev spotMark:S2:=⟨⟨#[109,97,114,107]⟩,⟨#[]⟩⟩
abbrev barMark:B6:=⟨-9,0,⟨#[]⟩,⟨#[]⟩,⟨#[]⟩,⟨#[]⟩⟩
abbrev holdMark:H3:=⟨-9,0,⟨#[]⟩⟩
theorem Tryz.frameInfo:(prog.info? 26).map (·.size)=some 3:=by kernel_rfl
theorem Qsk(k l m:Vx)(c1 c2 c3:Nat)(f:List S2)(g:List B6)(hs:List H3)(w:Vz)(Q:Marks3 w)(R:ARow S2.cells w k c1 f)(S:ARow B6.cells w l c2 g)(T:ARow H3.cells w m c3 hs)
 (n1:f.length<=1048576) (Y:g.length<=1048576) (Z:hs.length<=1048576):
 Calls prog 6 #[.agg #[.slice k f.length c1,.slice l g.length c2,.slice m hs.length c3]] w fun e w'=>∃q r s,e=.returned (.agg #[.slice (some ⟨q,0,none⟩) f.length (f.length+3),.slice (some ⟨r,0,none⟩) g.length (g.length+3),.slice (some ⟨s,0,none⟩) hs.length (hs.length+3)])/\
  ARow S2.cells w' (some ⟨q,0,none⟩) (f.length+3) (f++ [spotMark,spotMark,spotMark])/\ARow B6.cells w' (some ⟨r,0,none⟩) (g.length+3) (g++ [barMark,barMark,barMark])/\ARow H3.cells w' (some ⟨s,0,none⟩) (hs.length+3) (hs++ [holdMark,holdMark,holdMark])/\Below w.heap.size w w':=by
 obtain⟨U,x,V,y⟩:=Ic R S T Q;clear R S T Q;go_enter func6,ntmps6;go_wp2_with fail;obtain⟨W,z⟩:=nm ((w.alloc (.cells #[.slice k f.length c1,.slice l g.length c2,.slice m hs.length c3] 26)).alloc (.cells #[.slice none 0 0,.slice none 0 0,.slice none 0 0] 26));have A:Bl w W:=by rw[<-z];exact Below.new2 w _ _
 have B:SB W w.heap.size 26 #[.slice k f.length c1,.slice l g.length c2,.slice m hs.length c3]:=by rw[<-z];exact(SB.new w _ _).alloc _
 have C:SB W (w.heap.size+1) 26 #[.slice none 0 0,.slice none 0 0,.slice none 0 0]:=by rw[<-z];exact SB.new2 w _ _ _ _
 rw[z];have c:=
  Hi (((((PBag.start w).put (P:=Marks3) y.o Marks3.stay).below A).put (P:=fun v=>SB v (w.heap.size+1) 26 #[.slice none 0 0,.slice none 0 0,.slice none 0 0]) C (SB.stay _ _ _)).put (P:=fun v=>SB v w.heap.size 26 #[.slice k f.length c1,.slice l g.length c2,.slice m hs.length c3]) B (SB.stay _ _ _))
 have aa:w.heap.size+1≠w.heap.size:=by omega
 have ab:w.heap.size+1≠1:=by have:=World.block_lt_of_cell? _ _ y.o.s0;simp only at this;omega
 have ad:w.heap.size+1≠2:=by have:=World.block_lt_of_cell? _ _ y.o.b0;simp only at this;omega
 have ae:w.heap.size+1≠3:=by have:=World.block_lt_of_cell? _ _ y.o.h0;simp only at this;omega
 have af:w.heap.size≠0:=by have:=World.block_lt_of_cell? _ _ y.o.s0;simp only at this;omega
 clear z A B C;have h:=c.o.get (fun v=>SB v w.heap.size 26 #[.slice k f.length c1,.slice l g.length c2,.slice m hs.length c3]) (by
  (repeat(first|exact mH|apply mT))
  skip)
 have a:=c.o.get Marks3 (by
  (repeat(first|exact mH|apply mT))
  skip)
 obtain⟨E,x1,x2,-⟩:=zc h;have F:=a.s0;have y1:=a.s1;have y2:=a.b0;have y3:=a.b1;have G:=a.b2;have H:=a.b3;have I:=a.b4;have J:=a.b5;have K:=a.h0;have L:=a.h1;have u:=a.h2;have b:=c.o.get (fun v=>SB v (w.heap.size+1) 26 #[.slice none 0 0,.slice none 0 0,.slice none 0 0]) (by
  (repeat(first|exact mH|apply mT))
  skip)
 obtain⟨M,N,O,-⟩:=zc b;have f0:=b.free 0;have f1:=b.free 1;have f2:=b.free 2;clear h a b
 go_region_held3 (fun v=>v.cell? ⟨w.heap.size,0,none⟩=some (.slice k f.length c1)/\v.cell? ⟨w.heap.size,1,none⟩=some (.slice l g.length c2)/\v.cell? ⟨w.heap.size,2,none⟩=some (.slice m hs.length c3)/\v.cell? ⟨1,0,none⟩=some (.string ⟨#[109,97,114,107]⟩)/\v.cell? ⟨1,1,none⟩=some (.string ⟨#[]⟩)/\v.cell? ⟨2,0,none⟩=some (.int .i64 (-9))/\v.cell? ⟨2,1,none⟩=some (.int .i64 0)/\v.cell? ⟨2,2,none⟩=some (.string ⟨#[]⟩)/\v.cell? ⟨2,3,none⟩=some (.string ⟨#[]⟩)/\v.cell? ⟨2,4,none⟩=some (.string ⟨#[]⟩)/\v.cell? ⟨2,5,none⟩=some (.string ⟨#[]⟩)/\v.cell? ⟨3,0,none⟩=some (.int .i64 (-9))/\v.cell? ⟨3,1,none⟩=some (.int .i64 0)/\v.cell? ⟨3,2,none⟩=some (.string ⟨#[]⟩)) ((first|(simp [*];done)|go_keep)) (first
  |
   (go_at_call_of 30 (Value.slice k f.length c1)
    apply cM;apply Qqa k c1 f;(first|exact U.o.below c.o.base|exact U.o.below c.o.base.drew);exact n1;rintro e X ⟨q,i,rfl,d,j⟩;have n:w.heap.size+1≠q:=by
     have D:=(c.o.get (fun v=>SB v (w.heap.size+1) 26 #[.slice none 0 0,.slice none 0 0,.slice none 0 0]) (by
      (repeat(first|exact mH|apply mT))
      skip)).lt
     try simp only[World.size_drew] at i
     omega
    have t:=Hi (((by first|exact c.o|exact c.o.drew:PBag w _ _).below j).put (P:=fun v=>ARow S2.cells v (some ⟨q,0,none⟩) (f.length+3) (f++ [spotMark,spotMark,spotMark])) d (ARow.stay _ _ _ _));clear c d j i;have c:=t;clear t;have h:=c.o.get (fun v=>SB v w.heap.size 26 #[.slice k f.length c1,.slice l g.length c2,.slice m hs.length c3]) (by
     (repeat(first|exact mH|apply mT))
     skip)
    have a:=c.o.get Marks3 (by
     (repeat(first|exact mH|apply mT))
     skip)
    obtain⟨E,x1,x2,-⟩:=zc h;have F:=a.s0;have y1:=a.s1;have y2:=a.b0;have y3:=a.b1;have G:=a.b2;have H:=a.b3;have I:=a.b4;have J:=a.b5;have K:=a.h0;have L:=a.h1;have u:=a.h2;have b:=c.o.get (fun v=>SB v (w.heap.size+1) 26 #[.slice none 0 0,.slice none 0 0,.slice none 0 0]) (by
     (repeat(first|exact mH|apply mT))
     skip)
    obtain⟨M,N,O,-⟩:=zc b;have f0:=b.free 0;have f1:=b.free 1;have f2:=b.free 2;clear h a b
    skip)
  |
   (go_at_call_of 31 (Value.slice l g.length c2)
    apply cM;apply Qqc l c2 g;(first|exact x.o.below c.o.base|exact x.o.below c.o.base.drew);exact Y;rintro e X ⟨r,i,rfl,d,j⟩;have p:w.heap.size+1≠r:=by
     have D:=(c.o.get (fun v=>SB v (w.heap.size+1) 26 #[.slice none 0 0,.slice none 0 0,.slice none 0 0]) (by
      (repeat(first|exact mH|apply mT))
      skip)).lt
     try simp only[World.size_drew] at i
     omega
    have t:=Hi (((by first|exact c.o|exact c.o.drew:PBag w _ _).below j).put (P:=fun v=>ARow B6.cells v (some ⟨r,0,none⟩) (g.length+3) (g++ [barMark,barMark,barMark])) d (ARow.stay _ _ _ _));clear c d j i;have c:=t;clear t;have h:=c.o.get (fun v=>SB v w.heap.size 26 #[.slice k f.length c1,.slice l g.length c2,.slice m hs.length c3]) (by
     (repeat(first|exact mH|apply mT))
     skip)
    have a:=c.o.get Marks3 (by
     (repeat(first|exact mH|apply mT))
     skip)
    obtain⟨E,x1,x2,-⟩:=zc h;have F:=a.s0;have y1:=a.s1;have y2:=a.b0;have y3:=a.b1;have G:=a.b2;have H:=a.b3;have I:=a.b4;have J:=a.b5;have K:=a.h0;have L:=a.h1;have u:=a.h2;have b:=c.o.get (fun v=>SB v (w.heap.size+1) 26 #[.slice none 0 0,.slice none 0 0,.slice none 0 0]) (by
     (repeat(first|exact mH|apply mT))
     skip)
    obtain⟨M,N,O,-⟩:=zc b;have f0:=b.free 0;have f1:=b.free 1;have f2:=b.free 2;clear h a b
    skip)
  |
   (go_at_call_of 32 (Value.slice m hs.length c3)
    apply cM;apply Qqe m c3 hs;(first|exact V.o.below c.o.base|exact V.o.below c.o.base.drew);exact Z;rintro e X ⟨s,i,rfl,d,j⟩;have neg3:w.heap.size+1≠s:=by
     have D:=(c.o.get (fun v=>SB v (w.heap.size+1) 26 #[.slice none 0 0,.slice none 0 0,.slice none 0 0]) (by
      (repeat(first|exact mH|apply mT))
      skip)).lt
     try simp only[World.size_drew] at i
     omega
    have t:=Hi (((by first|exact c.o|exact c.o.drew:PBag w _ _).below j).put (P:=fun v=>ARow H3.cells v (some ⟨s,0,none⟩) (hs.length+3) (hs++ [holdMark,holdMark,holdMark])) d (ARow.stay _ _ _ _));clear c d j i;have c:=t;clear t;have h:=c.o.get (fun v=>SB v w.heap.size 26 #[.slice k f.length c1,.slice l g.length c2,.slice m hs.length c3]) (by
     (repeat(first|exact mH|apply mT))
     skip)
    have a:=c.o.get Marks3 (by
     (repeat(first|exact mH|apply mT))
     skip)
    obtain⟨E,x1,x2,-⟩:=zc h;have F:=a.s0;have y1:=a.s1;have y2:=a.b0;have y3:=a.b1;have G:=a.b2;have H:=a.b3;have I:=a.b4;have J:=a.b5;have K:=a.h0;have L:=a.h1;have u:=a.h2;have b:=c.o.get (fun v=>SB v (w.heap.size+1) 26 #[.slice none 0 0,.slice none 0 0,.slice none 0 0]) (by
     (repeat(first|exact mH|apply mT))
     skip)
    obtain⟨M,N,O,-⟩:=zc b;have f0:=b.free 0;have f1:=b.free 1;have f2:=b.free 2;clear h a b
    skip)
  )
 go_wp2;have b:=c.o.get (fun v=>SB v (w.heap.size+1) 26 #[.slice none 0 0,.slice none 0 0,.slice none 0 0]) (by
  (repeat(first|exact mH|apply mT))
  skip)
 have r1:=c.o.get (fun v=>ARow S2.cells v (some ⟨q,0,none⟩) (f.length+3) (f++ [spotMark,spotMark,spotMark])) (by
  (repeat(first|exact mH|apply mT))
  skip)
 have r2:=c.o.get (fun v=>ARow B6.cells v (some ⟨r,0,none⟩) (g.length+3) (g++ [barMark,barMark,barMark])) (by
  (repeat(first|exact mH|apply mT))
  skip)
 have r3:=c.o.get (fun v=>ARow H3.cells v (some ⟨s,0,none⟩) (hs.length+3) (hs++ [holdMark,holdMark,holdMark])) (by
  (repeat(first|exact mH|apply mT))
  skip)
 have hB:=c.o.base;refine bodyPost_ret (v:=.agg #[.slice (some ⟨q,0,none⟩) f.length (f.length+3),.slice (some ⟨r,0,none⟩) g.length (g.length+3),.slice (some ⟨s,0,none⟩) hs.length (hs.length+3)]) (results_cell_row rfl _ _ (w.heap.size+1) 26 #[.slice (some ⟨q,0,none⟩) f.length (f.length+3),.slice (some ⟨r,0,none⟩) g.length (g.length+3),.slice (some ⟨s,0,none⟩) hs.length (hs.length+3)] (0,0) _ rfl (((b.set 0 _).set 1 _).set 2 _) underlying26 rfl Tryz.frameInfo) rfl ?_;exact⟨q,r,s,rfl,((r1.far n).far n).far n,((r2.far p).far p).far p,((r3.far neg3).far neg3).far neg3,((hB.setCell (Nat.le_succ _) _).setCell (Nat.le_succ _) _).setCell (Nat.le_succ _) _⟩
structure Lent (w:Vz) (g1 g2 g3:Nat) (js:List S2) (bs:List B6) (hs:List H3):Prop where
 j:ARow S2.cells w (some ⟨g1,0,none⟩) (js.length+3) (js++ [spotMark,spotMark,spotMark])
 b:ARow B6.cells w (some ⟨g2,0,none⟩) (bs.length+3) (bs++ [barMark,barMark,barMark])
 h:ARow H3.cells w (some ⟨g3,0,none⟩) (hs.length+3) (hs++ [holdMark,holdMark,holdMark])
theorem Lent.below{w w':Vz}{c d e:Nat}{f:List S2}{g:List B6}{hs:List H3}(h:Lent w c d e f g hs)(a:Bl w w'):Lent w' c d e f g hs:=⟨h.j.below a,h.b.below a,h.h.below a⟩
structure FrRow (w:Vz) (a1 a2 a3:Vx) (c1 c2 c3:Nat) (js:List S2) (bs:List B6) (hs:List H3):Prop where
 j:ARow S2.cells w a1 c1 js
 b:ARow B6.cells w a2 c2 bs
 h:ARow H3.cells w a3 c3 hs
theorem FrRow.below{w w':Vz}{c d e:Vx}{c1 c2 c3:Nat}{f:List S2}{g:List B6}{hs:List H3}(h:FrRow w c d e c1 c2 c3 f g hs)(a:Bl w w'):FrRow w' c d e c1 c2 c3 f g hs:=⟨h.j.below a,h.b.below a,h.h.below a⟩
theorem Lent.row{w:Vz}{d e f:Nat}{a:List S2}{c:List B6}{hs:List H3}(h:Lent w d e f a c hs):FrRow w (some ⟨d,0,none⟩) (some ⟨e,0,none⟩) (some ⟨f,0,none⟩) (a.length+3) (c.length+3) (hs.length+3) a c hs:=⟨h.j.left,h.b.left,h.h.left⟩
theorem Qpu(I J K:Nat)(L M N:Vx)(c1 c2 c3:Nat)(l:List S2)(m:List B6)(hs:List H3)(w:Vz)(T:Marks3 w)(hl:Lent w I J K l m hs)(U:FrRow w L M N c1 c2 c3 l m hs)
 (n1:l.length<=1048576) (V:m.length<=1048576) (X:hs.length<=1048576):
 Calls prog 11 #[.agg #[.slice (some ⟨I,0,none⟩) l.length (l.length+3),.slice (some ⟨J,0,none⟩) m.length (m.length+3),.slice (some ⟨K,0,none⟩) hs.length (hs.length+3)],.agg #[.slice L l.length c1,.slice M m.length c2,.slice N hs.length c3]] w fun e w'=>e=.returned (.bool true)/\Below w.heap.size w w':=by
 obtain⟨P,Q,Y⟩:=Ib hl U T;clear hl U T;go_enter func11,ntmps11;obtain⟨W,r⟩:=nm ((w.alloc (.cells #[.slice (some ⟨I,0,none⟩) l.length (l.length+3),.slice (some ⟨J,0,none⟩) m.length (m.length+3),.slice (some ⟨K,0,none⟩) hs.length (hs.length+3)] 26)).alloc (.cells #[.slice L l.length c1,.slice M m.length c2,.slice N hs.length c3] 26));have c:=Ub r;have g:=Ud r;have i:=Ue r;have q:=Hi (Marks3.stay.step _ _ c.o Y.o)
 have R:O (Bl W W):=Hi bR;have n:=g.o.below R.o g.o.lt;have p:=i.o.below R.o i.o.lt;have a:=Marks3.stay.step _ _ R.o q.o;obtain⟨s,x1,x2,-⟩:=zc n;obtain⟨t,y1,y2,-⟩:=zc p;have u:=a.s0;have v:=a.s1;have x:=a.b0;have y:=a.b1;have z:=a.b2;have A:=a.b3;have B:=a.b4;have C:=a.b5;have D:=a.h0;have E:=a.h1
 have k:=a.h2;clear n p a;rw[<-r] at s x1 x2 t y1 y2 u v x y z A B C D E k;have Z:=Hi r;clear r;go_wp2_with fail;rw[Z.o];clear s x1 x2 t y1 y2 u v x y z A B C D E k;go_fit (Qwj I L c1 l _ _ W (P.o.j.below c.o) (Q.o.j.below c.o) n1);rintro e w1 ⟨rfl,F⟩;have d:=Hi F;clear F;have n:=g.o.below d.o g.o.lt;have p:=i.o.below d.o i.o.lt;have a:=Marks3.stay.step _ _ d.o q.o;obtain⟨s,x1,x2,-⟩:=zc n;obtain⟨t,-⟩:=zc p
 obtain⟨-,y1,y2,-⟩:=zc p;have u:=a.s0;have v:=a.s1;have x:=a.b0;have y:=a.b1;have z:=a.b2;have A:=a.b3;have B:=a.b4;have C:=a.b5;have D:=a.h0;have E:=a.h1;have k:=a.h2;clear n p a;go_wp2_with fail;clear s x1 x2 t y1 y2 u v x y z A B C D E k;go_fit (Qwk J M c2 m _ _ _ _ _ _ w1 ((P.o.b.below c.o).below d.o) ((Q.o.b.below c.o).below d.o) V);rintro e w2 ⟨rfl,G⟩;have f:=Hi (d.o.trans (G.mono d.o.size));clear G;have n:=g.o.below f.o g.o.lt;have p:=i.o.below f.o i.o.lt;have a:=Marks3.stay.step _ _ f.o q.o;obtain⟨s,-⟩:=zc n
 obtain⟨-,x1,x2,-⟩:=zc n;obtain⟨t,y1,y2,-⟩:=zc p;have u:=a.s0;have v:=a.s1;have x:=a.b0;have y:=a.b1;have z:=a.b2;have A:=a.b3;have B:=a.b4;have C:=a.b5;have D:=a.h0;have E:=a.h1;have k:=a.h2;clear n p a;go_wp2_with fail;clear s x1 x2 t y1 y2 u v x y z A B C D E k;go_fit (Qwl K N c3 hs _ _ _ w2 ((P.o.h.below c.o).below f.o) ((Q.o.h.below c.o).below f.o) X);rintro e w3 ⟨rfl,H⟩
 have S:=Hi (f.o.trans (H.mono f.o.size));clear H;go_wp2;go_ret;exact⟨rfl,c.o.trans (S.o.mono c.o.size)⟩
theorem Qub{q:Rat}(h:¬q=0):sgn3 q.num=if q.num<0 then -1 else 1:=by
 have b:q.num≠0:=fun c=>h (Rat.num_eq_zero.1 c)
 unfold sgn3;by_cases a:q.num<0
 . rw[if_pos a,if_pos a]
 . rw[if_neg a,if_neg a,if_neg b]
theorem Quc{v:Value}{q:Rat}{w:Vz}(k:FracV w v q):Calls prog 122 #[v] w fun e w'=>e=.returned (.int .i64 (sgn3 q.num))/\Below w.heap.size w w':=by
 have x:=Hi k;obtain⟨neg,a,n,c,b,m,d,rfl,k⟩:=k;have p:=Hi k.neg;clear k;go_enter func122,ntmps122;go_wp2_with fail;obtain⟨W,r⟩:=nm (w.alloc (.cells #[.bool neg,.slice a n c,.slice b m d] 141));have f:=Ua r;have l:=Uc r;rw[r];clear r;go_fit (Qcd (x.o.below f.o));rintro e y ⟨rfl,g⟩;obtain⟨z,-⟩:=zc (l.o.below g l.o.lt);have i:=Hi (f.o.trans (g.mono f.o.size));clear g;by_cases h:q=0
 .
  have t:=decide_eq_true h;rw[t];go_wp2;go_ret;exact⟨by rw[h];rfl,i.o⟩
 .
  have t:=decide_eq_false h;rw[t];have j:=Qub h;by_cases s:q.num<0
  .
   obtain rfl:neg=true:=by rw[p.o];exact decide_eq_true s
   rw[if_pos s] at j;have u:=Hi j;clear j p;go_wp2;go_ret;exact⟨by rw[u.o];rfl,i.o⟩
  .
   obtain rfl:neg=false:=by rw[p.o];exact decide_eq_false s
   rw[if_neg s] at j;have u:=Hi j;clear j p;go_wp2;go_ret;exact⟨by rw[u.o];rfl,i.o⟩
theorem FBag.sign{w0 w:Vz}{L:List FE}{x1 x2 x3:Value}{j:Nat}{p:Rat}(h:FBag w0 w L)(a:⟨x1,x2,x3,p,j⟩∈ L):
 Calls prog 122 #[.agg #[x1,x2,x3]] w (fun e w'=>e=.returned (.int .i64 (sgn3 p.num))/\FBag w0 w' L):=by
 obtain⟨a,c,d⟩:=h.get a;refine(Quc a).mono ?_;rintro e w' ⟨rfl,b⟩;exact⟨rfl,h.below b⟩
theorem FBag.equalT{w0 w:Vz}{L:List FE}{x1 x2 x3 y1 y2 y3:Value}{j k:Nat}{p q:Rat}(h:FBag w0 w L)(a:⟨x1,x2,x3,p,j⟩∈ L)(b:⟨y1,y2,y3,q,k⟩∈ L)(c:p=q):
 Calls prog 158 #[.agg #[x1,x2,x3],.agg #[y1,y2,y3]] w (fun e w'=>e=.returned (.bool true)/\FBag w0 w' L):=by
 have:=h.equal a b;rw[decide_eq_true c] at this;exact this
theorem FBag.equalF{w0 w:Vz}{L:List FE}{x1 x2 x3 y1 y2 y3:Value}{j k:Nat}{p q:Rat}(h:FBag w0 w L)(a:⟨x1,x2,x3,p,j⟩∈ L)(b:⟨y1,y2,y3,q,k⟩∈ L)(c:¬p=q):
 Calls prog 158 #[.agg #[x1,x2,x3],.agg #[y1,y2,y3]] w (fun e w'=>e=.returned (.bool false)/\FBag w0 w' L):=by
 have:=h.equal a b;rw[decide_eq_false c] at this;exact this
def IsJ(n:Nat)(k:Int):Prop:=0<=k/\k<n
theorem Qbc(a:Vx)(n c:Nat)(k:Int)(w:Vz)(h:IsJ n k):Calls prog 99 #[.slice a n c,.int .i64 k] w fun e w'=>e=.returned (.bool true)/\w'=w:=by
 obtain⟨b,d⟩:=h;go_enter func99,ntmps99;go_wp2;go_ret;exact⟨by simp[b,d],rfl⟩
theorem Qeo(a:Vx)(n c:Nat)(k:Int)(w:Vz)(h:¬IsJ n k):Calls prog 99 #[.slice a n c,.int .i64 k] w fun e w'=>e=.returned (.bool false)/\w'=w:=by
 by_cases d:0<=k
 .
  have b:¬(k<(n:Int)):=fun b=>h ⟨d,b⟩
  go_enter func99,ntmps99;go_wp2;go_ret;exact⟨by simp<;>omega,rfl⟩
 .
  have b:=decide_eq_false d;go_enter func99,ntmps99;go_wp2;go_ret;exact⟨by simp<;>omega,rfl⟩
theorem Qud(s t t0 t1:Vs)(L M N O:Rat)(w:Vz)(A:Glob w)(P:s.size<=1048576)(Q:t.size<=1048576)(R:t0.size<=1048576)(S:t1.size<=1048576)
 (B:QOf s.data.toList L) (C:QOf t.data.toList M) (D:QOf t0.data.toList N) (E:QOf t1.data.toList O):
 Calls prog 121 #[.agg #[.string s,.string t],.agg #[.string t0,.string t1]] w fun e w'=>e=.returned (.bool (decide (L=N/\M=O)))/\Below w.heap.size w w':=by
 by_cases y:L=N
 .
  have x:=Hi y;by_cases F:M=O
  .
   have z:=Hi F;rw[decide_eq_true ⟨y,F⟩];clear y F;obtain⟨G,H,I,J,K⟩:=Id A B C D E;clear A B C D E;go_enter func121,ntmps121;go_wp2_with fail;obtain⟨W,q⟩:=nm ((w.alloc (.cells #[.string s,.string t] 56)).alloc (.cells #[.string t0,.string t1] 56));have j:=Ub q;have f:=Ud q;have g:=Ue q;rw[q];have d:=Hi (FBag.start (G.o.below j.o));clear q;have b:=f.o.below d.o.base f.o.lt;have c:=g.o.below d.o.base g.o.lt;obtain⟨k,l,-⟩:=zc b
   obtain⟨m,p,-⟩:=zc c;clear b c
   first
    |(
     go_region_held3 (fun v=>v.cell? ⟨w.heap.size,0,none⟩=some (.string s)/\v.cell? ⟨w.heap.size,1,none⟩=some (.string t)/\v.cell? ⟨w.heap.size+1,0,none⟩=some (.string t0)/\v.cell? ⟨w.heap.size+1,1,none⟩=some (.string t1)) ((first|(simp [*];done)|go_keep)) (first
      |
       (go_at_call_of 82 (Value.string s)
        apply cM;apply FBag.of (w0:=W) (n:=1048576);(focus(first|exact d.o|exact d.o.drew));assumption;decide;rintro e r ⟨u,i,x1,x2,x3,rfl,a⟩;obtain rfl:=H.o.inj i;clear d;have d:=Hi a;clear i a;have b:=f.o.below d.o.base f.o.lt;have c:=g.o.below d.o.base g.o.lt;obtain⟨k,l,-⟩:=zc b;obtain⟨m,p,-⟩:=zc c;clear b c
        skip)
      |
       (go_at_call_of 82 (Value.string t)
        apply cM;apply FBag.of (w0:=W) (n:=1048576);(focus(first|exact d.o|exact d.o.drew));assumption;decide;rintro e r ⟨u,i,x1,x2,x3,rfl,a⟩;obtain rfl:=I.o.inj i;clear d;have d:=Hi a;clear i a;have b:=f.o.below d.o.base f.o.lt;have c:=g.o.below d.o.base g.o.lt;obtain⟨k,l,-⟩:=zc b;obtain⟨m,p,-⟩:=zc c;clear b c
        skip)
      |
       (go_at_call_of 82 (Value.string t0)
        apply cM;apply FBag.of (w0:=W) (n:=1048576);(focus(first|exact d.o|exact d.o.drew));assumption;decide;rintro e r ⟨u,i,x1,x2,x3,rfl,a⟩;obtain rfl:=J.o.inj i;clear d;have d:=Hi a;clear i a;have b:=f.o.below d.o.base f.o.lt;have c:=g.o.below d.o.base g.o.lt;obtain⟨k,l,-⟩:=zc b;obtain⟨m,p,-⟩:=zc c;clear b c
        skip)
      |
       (go_at_call_of 82 (Value.string t1)
        apply cM;apply FBag.of (w0:=W) (n:=1048576);(focus(first|exact d.o|exact d.o.drew));assumption;decide;rintro e r ⟨u,i,x1,x2,x3,rfl,a⟩;obtain rfl:=K.o.inj i;clear d;have d:=Hi a;clear i a;have b:=f.o.below d.o.base f.o.lt;have c:=g.o.below d.o.base g.o.lt;obtain⟨k,l,-⟩:=zc b;obtain⟨m,p,-⟩:=zc c;clear b c
        skip)
      |
       (go_at_call 158
        apply cM;apply FBag.equalT (w0:=W);(focus(first|exact d.o|exact d.o.drew));(repeat(first|exact mH|apply mT));exact x.o;rintro e r ⟨rfl,a⟩;clear d;have d:=Hi a;clear a;have b:=f.o.below d.o.base f.o.lt;have c:=g.o.below d.o.base g.o.lt;obtain⟨k,l,-⟩:=zc b;obtain⟨m,p,-⟩:=zc c;clear b c
        skip)
      |
       (go_at_call 158
        apply cM;apply FBag.equalT (w0:=W);(focus(first|exact d.o|exact d.o.drew));(repeat(first|exact mH|apply mT));exact z.o;rintro e r ⟨rfl,a⟩;clear d;have d:=Hi a;clear a;have b:=f.o.below d.o.base f.o.lt;have c:=g.o.below d.o.base g.o.lt;obtain⟨k,l,-⟩:=zc b;obtain⟨m,p,-⟩:=zc c;clear b c
        skip)
      ))
    |fail
   all_goals
    go_wp2;go_ret;exact⟨rfl,j.o.trans (d.o.base.mono j.o.size)⟩
  .
   have z:=Hi F;rw[decide_eq_false (fun h=>F h.2)];clear y F;obtain⟨G,H,I,J,K⟩:=Id A B C D E;clear A B C D E;go_enter func121,ntmps121;go_wp2_with fail;obtain⟨W,q⟩:=nm ((w.alloc (.cells #[.string s,.string t] 56)).alloc (.cells #[.string t0,.string t1] 56));have j:=Ub q;have f:=Ud q;have g:=Ue q;rw[q];have d:=Hi (FBag.start (G.o.below j.o));clear q;have b:=f.o.below d.o.base f.o.lt;have c:=g.o.below d.o.base g.o.lt;obtain⟨k,-⟩:=zc b
   obtain⟨-,l,-⟩:=zc b;obtain⟨m,p,-⟩:=zc c;clear b c
   first
    |(
     go_region_held3 (fun v=>v.cell? ⟨w.heap.size,0,none⟩=some (.string s)/\v.cell? ⟨w.heap.size,1,none⟩=some (.string t)/\v.cell? ⟨w.heap.size+1,0,none⟩=some (.string t0)/\v.cell? ⟨w.heap.size+1,1,none⟩=some (.string t1)) ((first|(simp [*];done)|go_keep)) (first
      |
       (go_at_call_of 82 (Value.string s)
        apply cM;apply FBag.of (w0:=W) (n:=1048576);(focus(first|exact d.o|exact d.o.drew));assumption;decide;rintro e r ⟨u,i,x1,x2,x3,rfl,a⟩;obtain rfl:=H.o.inj i;clear d;have d:=Hi a;clear i a;have b:=f.o.below d.o.base f.o.lt;have c:=g.o.below d.o.base g.o.lt;obtain⟨k,l,-⟩:=zc b;obtain⟨m,p,-⟩:=zc c;clear b c
        skip)
      |
       (go_at_call_of 82 (Value.string t)
        apply cM;apply FBag.of (w0:=W) (n:=1048576);(focus(first|exact d.o|exact d.o.drew));assumption;decide;rintro e r ⟨u,i,x1,x2,x3,rfl,a⟩;obtain rfl:=I.o.inj i;clear d;have d:=Hi a;clear i a;have b:=f.o.below d.o.base f.o.lt;have c:=g.o.below d.o.base g.o.lt;obtain⟨k,l,-⟩:=zc b;obtain⟨m,p,-⟩:=zc c;clear b c
        skip)
      |
       (go_at_call_of 82 (Value.string t0)
        apply cM;apply FBag.of (w0:=W) (n:=1048576);(focus(first|exact d.o|exact d.o.drew));assumption;decide;rintro e r ⟨u,i,x1,x2,x3,rfl,a⟩;obtain rfl:=J.o.inj i;clear d;have d:=Hi a;clear i a;have b:=f.o.below d.o.base f.o.lt;have c:=g.o.below d.o.base g.o.lt;obtain⟨k,l,-⟩:=zc b;obtain⟨m,p,-⟩:=zc c;clear b c
        skip)
      |
       (go_at_call_of 82 (Value.string t1)
        apply cM;apply FBag.of (w0:=W) (n:=1048576);(focus(first|exact d.o|exact d.o.drew));assumption;decide;rintro e r ⟨u,i,x1,x2,x3,rfl,a⟩;obtain rfl:=K.o.inj i;clear d;have d:=Hi a;clear i a;have b:=f.o.below d.o.base f.o.lt;have c:=g.o.below d.o.base g.o.lt;obtain⟨k,l,-⟩:=zc b;obtain⟨m,p,-⟩:=zc c;clear b c
        skip)
      |
       (go_at_call 158
        apply cM;apply FBag.equalT (w0:=W);(focus(first|exact d.o|exact d.o.drew));(repeat(first|exact mH|apply mT));exact x.o;rintro e r ⟨rfl,a⟩;clear d;have d:=Hi a;clear a;have b:=f.o.below d.o.base f.o.lt;have c:=g.o.below d.o.base g.o.lt;obtain⟨k,l,-⟩:=zc b;obtain⟨m,p,-⟩:=zc c;clear b c
        skip)
      |
       (go_at_call 158
        apply cM;apply FBag.equalF (w0:=W);(focus(first|exact d.o|exact d.o.drew));(repeat(first|exact mH|apply mT));exact z.o;rintro e r ⟨rfl,a⟩;clear d;have d:=Hi a;clear a;have b:=f.o.below d.o.base f.o.lt;have c:=g.o.below d.o.base g.o.lt;obtain⟨k,l,-⟩:=zc b;obtain⟨m,p,-⟩:=zc c;clear b c
        skip)
      ))
    |fail
   all_goals
    go_wp2;go_ret;exact⟨rfl,j.o.trans (d.o.base.mono j.o.size)⟩
 .
  have x:=Hi y;rw[decide_eq_false (fun h=>y h.1)];clear y;obtain⟨G,H,I,J,K⟩:=Id A B C D E;clear A B C D E;go_enter func121,ntmps121;go_wp2_with fail;obtain⟨W,q⟩:=nm ((w.alloc (.cells #[.string s,.string t] 56)).alloc (.cells #[.string t0,.string t1] 56));have j:=Ub q;have f:=Ud q;have g:=Ue q;rw[q];have d:=Hi (FBag.start (G.o.below j.o));clear q;have b:=f.o.below d.o.base f.o.lt;have c:=g.o.below d.o.base g.o.lt;obtain⟨k,-⟩:=zc b
  obtain⟨-,l,-⟩:=zc b;obtain⟨m,p,-⟩:=zc c;clear b c
  first
   |(
    go_region_with (first
     |
      (go_at_call_of 82 (Value.string s)
       apply cM;apply FBag.of (w0:=W) (n:=1048576);(focus(first|exact d.o|exact d.o.drew));assumption;decide;rintro e r ⟨u,i,x1,x2,x3,rfl,a⟩;obtain rfl:=H.o.inj i;clear d;have d:=Hi a;clear i a;have b:=f.o.below d.o.base f.o.lt;have c:=g.o.below d.o.base g.o.lt;obtain⟨k,l,-⟩:=zc b;obtain⟨m,p,-⟩:=zc c;clear b c
       skip)
     |
      (go_at_call_of 82 (Value.string t)
       apply cM;apply FBag.of (w0:=W) (n:=1048576);(focus(first|exact d.o|exact d.o.drew));assumption;decide;rintro e r ⟨u,i,x1,x2,x3,rfl,a⟩;obtain rfl:=I.o.inj i;clear d;have d:=Hi a;clear i a;have b:=f.o.below d.o.base f.o.lt;have c:=g.o.below d.o.base g.o.lt;obtain⟨k,l,-⟩:=zc b;obtain⟨m,p,-⟩:=zc c;clear b c
       skip)
     |
      (go_at_call_of 82 (Value.string t0)
       apply cM;apply FBag.of (w0:=W) (n:=1048576);(focus(first|exact d.o|exact d.o.drew));assumption;decide;rintro e r ⟨u,i,x1,x2,x3,rfl,a⟩;obtain rfl:=J.o.inj i;clear d;have d:=Hi a;clear i a;have b:=f.o.below d.o.base f.o.lt;have c:=g.o.below d.o.base g.o.lt;obtain⟨k,l,-⟩:=zc b;obtain⟨m,p,-⟩:=zc c;clear b c
       skip)
     |
      (go_at_call_of 82 (Value.string t1)
       apply cM;apply FBag.of (w0:=W) (n:=1048576);(focus(first|exact d.o|exact d.o.drew));assumption;decide;rintro e r ⟨u,i,x1,x2,x3,rfl,a⟩;obtain rfl:=K.o.inj i;clear d;have d:=Hi a;clear i a;have b:=f.o.below d.o.base f.o.lt;have c:=g.o.below d.o.base g.o.lt;obtain⟨k,l,-⟩:=zc b;obtain⟨m,p,-⟩:=zc c;clear b c
       skip)
     |
      (go_at_call 158
       apply cM;apply FBag.equalF (w0:=W);(focus(first|exact d.o|exact d.o.drew));(repeat(first|exact mH|apply mT));exact x.o;rintro e r ⟨rfl,a⟩;clear d;have d:=Hi a;clear a;have b:=f.o.below d.o.base f.o.lt;have c:=g.o.below d.o.base g.o.lt;obtain⟨k,l,-⟩:=zc b;obtain⟨m,p,-⟩:=zc c;clear b c
       skip)
     ))
   |fail
  all_goals
   go_wp2;go_ret;exact⟨rfl,j.o.trans (d.o.base.mono j.o.size)⟩
def BarVal(p q:S2)(b:B6)(c:Int):Prop:=
 ∃px py qx qy vc vl vm,QOf p.x.data.toList px/\QOf p.y.data.toList py/\QOf q.x.data.toList qx/\QOf q.y.data.toList qy/\QOf b.c.data.toList vc/\QOf b.l.data.toList vl/\QOf b.m.data.toList vm/\
  c=if px=qx/\py=qy then 5 else if sgn3 vc.num<=0∨0<sgn3 vl.num∨sgn3 vm.num<0 then 5 else 0
def BarCode(js:List S2)(b:B6)(c:Int):Prop:=
 (¬(IsJ js.length b.a/\IsJ js.length b.b)/\c=4)∨
 (IsJ js.length b.a/\IsJ js.length b.b/\∃p q,js[b.a.toNat]?=some p/\js[b.b.toNat]?=some q/\BarVal p q b c)
theorem BarVal.inj{p q:S2}{b:B6}{c d:Int}(h:BarVal p q b c)(k:BarVal p q b d):c=d:=by
 obtain⟨C,D,E,F,G,H,I,a,e,f,g,i,j,l,rfl⟩:=h;obtain⟨m,n,o,r,s,t,u,v,w,x,y,z,A,B,rfl⟩:=k;obtain rfl:=a.inj v;obtain rfl:=e.inj w;obtain rfl:=f.inj x;obtain rfl:=g.inj y;obtain rfl:=i.inj z;obtain rfl:=j.inj A;obtain rfl:=l.inj B;rfl
theorem BarCode.inj{i:List S2}{b:B6}{c d:Int}(h:BarCode i b c)(k:BarCode i b d):c=d:=by
 rcases h with ⟨f,rfl⟩|⟨f,j,p,q,l,m,n⟩
 .
  rcases k with ⟨_,rfl⟩|⟨g,o,_⟩
  . rfl
  . exact absurd ⟨g,o⟩ f
 .
  rcases k with ⟨g,_⟩|⟨_,_,s,t,a,e,r⟩
  . exact absurd ⟨f,j⟩ g
  .
   rw[l] at a;rw[m] at e;cases a;cases e;exact n.inj r
structure FrSized (js:List S2) (bs:List B6) (hs:List H3):Prop where
 j:∀p,p∈ js->p.x.size<=1048576/\p.y.size<=1048576
 b:∀b,b∈ bs->b.c.size<=1048576/\b.e.size<=1048576/\b.l.size<=1048576/\b.m.size<=1048576
 h:∀x,x∈ hs->x.q.size<=1048576
theorem Que(a:Vx)(n cap:Nat)(b d:Int)(j l m p:Vs)(w:Vz)(q:¬(IsJ n b/\IsJ n d)):
 Calls prog 74 #[.slice a n cap,.agg #[.int .i64 b,.int .i64 d,.string j,.string l,.string m,.string p]] w fun e w'=>e=.returned (.int .i64 4)/\Below w.heap.size w w':=by
 rcases(show IsJ n b/\¬IsJ n d∨¬IsJ n b from Classical.byCases (fun h:IsJ n b=>.inl ⟨h,fun k=>q ⟨h,k⟩⟩) .inr) with ⟨h1,h2⟩|h1
 all_goals
  have r:=Hi h1
  try have s:=Hi h2
  try clear h2
  clear h1 q;go_enter func74,ntmps74;obtain⟨W,f⟩:=nm (w.alloc (.cells #[.int .i64 b,.int .i64 d,.string j,.string l,.string m,.string p] 80));have i:=Ua f;have g:=Uc f;have t:O (Bl W W):=Hi bR;have c:=g.o.below t.o g.o.lt;obtain⟨u,v,x,y,z,-⟩:=zc c
  obtain⟨-,-,-,-,-,A,-⟩:=zc c;clear c;rw[<-f] at u v x y z A;have B:=Hi f;clear f;go_wp2_with fail
  first
   |(
    go_fit (Qbc a n cap b _ r.o);rintro e C ⟨rfl,rfl⟩;go_wp2_with fail
    go_fit (Qeo a n cap d _ s.o))
   |go_fit (Qeo a n cap b _ r.o)
  rintro e D ⟨rfl,rfl⟩;go_wp2;go_ret;exact⟨rfl,by rw[B.o];exact i.o⟩
theorem Quf(a:Vx)(cap k l:Nat)(r:List S2)(p q:S2)(J be K L:Vs)(s t u z X Y Z:Rat)(w:Vz)(hg:Glob w)(hj:ARow S2.cells w a cap r)(hp:r[k]?=some p)(i:r[l]?=some q)
 (z1:p.x.size<=1048576/\p.y.size<=1048576) (z2:q.x.size<=1048576/\q.y.size<=1048576) (z3:J.size<=1048576/\K.size<=1048576/\L.size<=1048576)
 (q1:QOf p.x.data.toList s) (q2:QOf p.y.data.toList t) (q3:QOf q.x.data.toList u) (q4:QOf q.y.data.toList z) (q5:QOf J.data.toList X) (q6:QOf K.data.toList Y) (q7:QOf L.data.toList Z):
 Calls prog 74 #[.slice a r.length cap,.agg #[.int .i64 k,.int .i64 l,.string J,.string be,.string K,.string L]] w fun e w'=>e=.returned (.int .i64 (if s=u/\t=z then 5 else if sgn3 X.num<=0∨0<sgn3 Y.num∨sgn3 Z.num<0 then 5 else 0))/\Below w.heap.size w w':=by
 have Z3:=Hi z3;clear z3;obtain⟨M,A⟩:=nm (sgn3 X.num);obtain⟨S,B⟩:=nm (sgn3 Y.num);obtain⟨sm,C⟩:=nm (sgn3 Z.num);rw[A,B,C];obtain⟨SC,SL,SM⟩:=Ib A B C;clear A B C;have gg:∀v:Int,(if s=u/\t=z then 5 else if M<=0∨0<S∨sm<0 then 5 else 0)=v->decide (s=u/\t=z)=true/\v=5∨decide (s=u/\t=z)=false/\(M<=0/\v=5∨¬M<=0/\0<S/\v=5∨¬M<=0/\¬0<S/\sm<0/\v=5∨¬M<=0/\¬0<S/\¬sm<0/\v=0):=by
  intro v T;by_cases m:s=u/\t=z
  . rw[if_pos m] at T
    exact .inl ⟨decide_eq_true m,T.symm⟩
  .
   rw[if_neg m] at T;refine .inr ⟨decide_eq_false m,?_⟩
   split at T<;>omega
 rcases gg _ rfl with ⟨hd,e⟩|⟨hd,⟨c1,e⟩|⟨c1,c2,e⟩|⟨c1,c2,c3,e⟩|⟨c1,c2,c3,e⟩⟩
 all_goals
  rw[e];have HD:=Hi hd;clear hd e gg;obtain⟨HG,HJ,HP,HQ,Z1,Z2,Q1,Q2,Q3⟩:=Ih hg hj hp i z1 z2 q1 q2 q3;obtain⟨Q4,Q5,Q6,Q7⟩:=Ic q4 q5 q6 q7;have i1:((0:Int)<=(k:Int)):=by omega
  have i2:((0:Int)<=(l:Int)):=by omega
  have i3:((k:Int)<(r.length:Int)):=by have:=(gZ hp).1;omega
  have i4:((l:Int)<(r.length:Int)):=by have:=(gZ i).1;omega
  clear hg hj hp i z1 z2 q1 q2 q3 q4 q5 q6 q7;go_enter func74,ntmps74;obtain⟨W,N⟩:=nm (w.alloc (.cells #[.int .i64 (k:Int),.int .i64 (l:Int),.string J,.string be,.string K,.string L] 80));have g:=Ua N;have d:=Uc N;have HR:O (Bl W W):=Hi bR;have b:=d.o.below HR.o d.o.lt;obtain⟨D,E,F,G,-⟩:=zc b
  obtain⟨-,-,-,-,H,I,-⟩:=zc b;clear b;obtain⟨U,V,ha,l1,d0,d1⟩:=(HJ.o.below g.o).spot HP.o;obtain⟨b2,o2,aa,l2,d2,d3⟩:=(HJ.o.below g.o).spot HQ.o;subst ha;cases aa;rw[<-N] at D E F G H I d0 d1 d2 d3;have HW:=Hi N;clear N;go_wp2_with fail;go_fit (Qbc _ r.length cap k _ ⟨i1,i3⟩);rintro e w1 ⟨rfl,rfl⟩;go_wp2_with fail;go_fit (Qbc _ r.length cap l _ ⟨i2,i4⟩);rintro e w2 ⟨rfl,rfl⟩;go_wp2_with fail;rw[HW.o];rw[HW.o] at D E F G H I d0 d1 d2 d3
  go_region_held3 (fun v=>v.cell? ⟨w.heap.size,0,none⟩=some (.int .i64 k)/\v.cell? ⟨w.heap.size,1,none⟩=some (.int .i64 l)/\v.cell? ⟨U,V+k*2,none⟩=some (.string p.x)/\v.cell? ⟨U,V+k*2+1,none⟩=some (.string p.y)/\v.cell? ⟨U,V+l*2,none⟩=some (.string q.x)/\v.cell? ⟨U,V+l*2+1,none⟩=some (.string q.y)) ((first|(simp [*];done)|go_keep)) (first
   |(
    go_at_call 121;apply cM;apply Qud p.x p.y q.x q.y s t u z;(first|exact HG.o.below g.o|exact HG.o.below g.o.drew);exact Z1.o.1;exact Z1.o.2;exact Z2.o.1;exact Z2.o.2;exact Q1.o;exact Q2.o;exact Q3.o;exact Q4.o;rintro e P ⟨rfl,Q⟩;rw[HD.o];have h:O (Bl W P):=Hi ((bR.drew).trans Q);have R:=Hi ((HJ.o.below g.o).below h.o);obtain⟨b3,o3,ab,l3,d0,d1⟩:=R.o.spot HP.o;obtain⟨b4,o4,ad,l4,d2,d3⟩:=R.o.spot HQ.o;cases ab;cases ad;have b:=d.o.below h.o d.o.lt;obtain⟨D,E,F,G,-⟩:=zc b
    obtain⟨-,-,-,-,H,I,-⟩:=zc b;clear b
    clear Q)
   )
  have f:=Hi (FBag.start ((HG.o.below g.o).below h.o));go_wp2_with (first
   |
    (go_at_call_of 82 (Value.string J)
     apply cM;apply FBag.of (w0:=P) (n:=1048576);(focus(first|exact f.o|exact f.o.drew));exact Z3.o.1;decide;rintro e wm ⟨qq,i,x1,x2,x3,rfl,c⟩;obtain rfl:=Q5.o.inj i;clear f;have f:=Hi c;clear i c;have j:=Hi (h.o.trans (f.o.base.mono h.o.size));have b:=d.o.below j.o d.o.lt;obtain⟨D,E,F,G,H,I,-⟩:=zc b;clear b
     clear j)
   |
    (go_at_call_of 82 (Value.string K)
     apply cM;apply FBag.of (w0:=P) (n:=1048576);(focus(first|exact f.o|exact f.o.drew));exact Z3.o.2.1;decide;rintro e wm ⟨qq,i,x1,x2,x3,rfl,c⟩;obtain rfl:=Q6.o.inj i;clear f;have f:=Hi c;clear i c;have j:=Hi (h.o.trans (f.o.base.mono h.o.size));have b:=d.o.below j.o d.o.lt;obtain⟨D,E,F,G,H,I,-⟩:=zc b;clear b
     clear j)
   |
    (go_at_call_of 82 (Value.string L)
     apply cM;apply FBag.of (w0:=P) (n:=1048576);(focus(first|exact f.o|exact f.o.drew));exact Z3.o.2.2;decide;rintro e wm ⟨qq,i,x1,x2,x3,rfl,c⟩;obtain rfl:=Q7.o.inj i;clear f;have f:=Hi c;clear i c;have j:=Hi (h.o.trans (f.o.base.mono h.o.size));have b:=d.o.below j.o d.o.lt;obtain⟨D,E,F,G,H,I,-⟩:=zc b;clear b
     clear j)
   |
    (go_at_call 122
     apply cM;apply FBag.sign (w0:=P);(focus(first|exact f.o|exact f.o.drew));(repeat(first|exact mH|apply mT));rintro e wm ⟨rfl,c⟩;(first|rw[SC.o]|rw[SL.o]|rw[SM.o]);clear f;have f:=Hi c;clear c;have j:=Hi (h.o.trans (f.o.base.mono h.o.size));have b:=d.o.below j.o d.o.lt;obtain⟨D,E,F,G,H,I,-⟩:=zc b;clear b
     clear j)
   |fail)
  go_ret;exact⟨rfl,g.o.trans ((h.o.trans (f.o.base.mono h.o.size)).mono g.o.size)⟩
section
open Go.RowKit Go.MapKept
abbrev pairV(p:Int × Int):Value:=.agg #[.int .i64 p.1,.int .i64 p.2]
theorem Qjh:(prog.info? 3).map (fun i=>(i.zero,i.size,i.bytes))=some (some (.int .i64 0),1,8):=by kernel_rfl
theorem Qji:prog.plainKey 3=true:=by kernel_rfl
theorem cellsInt:prog.cellsOf 3=1:=by kernel_rfl
theorem Qql(b:Bool)(n:Nat)(p:Int × Int)(w:Vz):(Instr.checkKey b (n+2) 177 (pairV p)).run prog w=.ok () w:=by
 obtain⟨i,d,h⟩:=Option.map_eq_some_iff.1 Qjh;simp only[Prod.mk.injEq] at h;obtain⟨f,hs,g⟩:=h;have c:∀(v:Int) (w:Vz),(Instr.checkKey b (n+1) 3 (.int .i64 v)).run prog w=.ok () w:=fun v w=>Go.MapKept.run_checkKey (k:=.int .i64 v) underlying3 (by simp[IsKey]) b n
 have a:∀(j:Nat) (v:Value) (w:Vz),#[Value.int .i64 p.1,.int .i64 p.2][j]?=some v->(part 3 #[.int .i64 p.1,.int .i64 p.2] j).run prog w=.ok v w:=fun j v w e=>run_part_plain w Qji e
 simp only[Instr.checkKey,Sem.run_bind,run_underlying underlying177,Result.andThen_ok];simp only[Std.Legacy.Range.forIn_eq_forIn_range',Std.Legacy.Range.size];simp[List.range',run_sizeOf _ d,hs,c,cellsInt,a 0 _ _ rfl,a 1 _ _ rfl]
theorem Qf2(b:Bool)(p:Int × Int)(w:Vz):(Instr.checkKey b 10000 177 (pairV p)).run prog w=.ok () w:=Qql b 9998 p w
theorem Qqm(n:Nat)(p q:Int × Int)(w:Vz):(Op.equalIn (n+2) 177 (pairV p) (pairV q)).run prog w=.ok (decide (p=q)) w:=by
 obtain⟨i,e,h⟩:=Option.map_eq_some_iff.1 Qjh;rw[run_equalIn_array w (n+1) _ _ underlying177 e];have a:∀(r:Int × Int) (j:Nat) (v:Value) (w:Vz),#[Value.int .i64 r.1,.int .i64 r.2][j]?=some v->(part 3 #[.int .i64 r.1,.int .i64 r.2] j).run prog w=.ok v w:=fun r j v w f=>run_part_plain w Qji f
 have b:∀(x y:Int) (w:Vz),(Op.equalIn (n+1) 3 (.int .i64 x) (.int .i64 y)).run prog w=.ok (x == y) w:=by
  intro x y w;simp[Op.equalIn,run_underlying underlying3]
 simp[List.range,List.range.loop,Op.eqItems,cellsInt,a p 0 _ _ rfl,a p 1 _ _ rfl,a q 0 _ _ rfl,a q 1 _ _ rfl,b];obtain⟨g,k⟩:=p;obtain⟨l,m⟩:=q;by_cases c:g=l
 .
  by_cases d:k=m
  . simp[c,d]
  . simp[c,d]
 . simp[c]
theorem Qjj(p q:Int × Int)(w:Vz):(Op.equal 177 (pairV p) (pairV q)).run prog w=.ok (decide (p=q)) w:=Qqm 9998 p q w
def PairSet(es:Array MapEntry)(ps:List (Int × Int)):Prop:=es.toList.map (fun e=>(e.key,e.val))=ps.map fun p=>(pairV p,Value.agg #[])
theorem Qf3(p:Int × Int)(w:Vz):∀(c:List MapEntry) (b:List (Int × Int)) (k:Nat),c.map (fun e=>(e.key,e.val))=b.map (fun p=>(pairV p,Value.agg #[]))->
 ∃r:Option (Nat × Value),(Instr.findAsking 177 (pairV p) c k).run prog w=.ok r w/\(p∈ b->∃j,r=some (j,.agg #[]))/\(p ∉ b->r=none)
 | [],b,k,h=>by
   have:b= []:=by simpa using h.symm
   subst this;exact⟨none,by simp[Instr.findAsking],by simp,fun _=>rfl⟩
 |e :: c,[],k,h=>by simp at h
 |e :: c,q :: b,k,h=>by
  simp only[List.map_cons,List.cons.injEq,Prod.mk.injEq] at h;obtain⟨⟨hk,g⟩,i⟩:=h;by_cases a:p=q
  . exact⟨some (k,.agg #[]),by simp[Instr.findAsking,hk,g,Qjj,a],fun _=>⟨k,rfl⟩,fun d=>absurd (by simp[a]) d⟩
  .
   obtain⟨r,l,m,n⟩:=Qf3 p w c b (k+1) i;refine⟨r,?_,fun f=>m ?_,fun d=>n ?_⟩
   . simp only[Instr.findAsking,hk,Sem.run_bind,Qjj,Result.andThen_ok,a,decide_false]
     simpa using l
   .
    rcases List.mem_cons.1 f with h|h
    . exact absurd h a
    . exact h
   . intro f
     exact d (List.mem_cons_of_mem _ f)
theorem Qqn:∀w,(zeroValue 178).run prog w=.ok (.agg #[]) w:=Tryz.zeroValue178
theorem Qqo(r a:Nat)(b:Array MapEntry)(c:List (Int × Int))(p:Int × Int)(w:Vz)(e:w.heap[r]?=some (.map b a))(hs:PairSet b c):
 (Instr.lookup 176 (.map (some r)) (pairV p) true).run prog w=.ok (.tuple #[.agg #[],.bool (decide (p∈ c))]) w:=by
 obtain⟨x,g,h,i⟩:=Qf3 p w b.toList c 0 hs;have f:(Instr.findKey 177 (pairV p) b.toList).run prog w=.ok x w:=by
  rw[run_findKey_eq w (by rw[underlying177])];exact g
 by_cases d:p∈ c
 . obtain⟨j,rfl⟩:=h d
   simp[Instr.lookup,run_underlying underlying176,Go.MapKept.run_getObj_map e,Qf2,f,d]
 . obtain rfl:=i d
   simp[Instr.lookup,run_underlying underlying176,Go.MapKept.run_getObj_map e,Qf2,f,d,Qqn]
theorem Qqp(r a:Nat)(b:Array MapEntry)(c:List (Int × Int))(p:Int × Int)(w:Vz)(d:w.heap[r]?=some (.map b a))(hs:PairSet b c)(e:p ∉ c):
 (Instr.mapUpdate 176 (.map (some r)) (pairV p) (.agg #[])).run prog w=.ok () { w with heap:=w.heap.setIfInBounds r (.map (b.push { key:=pairV p,val:=.agg #[],born:=a }) (a+1)) }:=by
 obtain⟨x,f,i,g⟩:=Qf3 p w b.toList c 0 hs;have h:(Instr.findKey 177 (pairV p) b.toList).run prog w=.ok x w:=by
  rw[run_findKey_eq w (by rw[underlying177])];exact f
 obtain rfl:=g e;simp[Instr.mapUpdate,run_underlying underlying176,Go.MapKept.run_getObj_map d,Qf2,h,Go.MapKept.run_setObj_map _ d,Result.andThen]
end
def holdC(n:Nat)(j wy:Int)(tw:Bool):Int:=if 0<=j/\j<n then (if wy≠1/\wy≠2 then 3 else if tw=true then 7 else 0) else 4
theorem Qug(a:Vx)(n cap:Nat)(j k:Int)(q:Vs)(r:Bool)(w:Vz):
 Calls prog 123 #[.slice a n cap,.agg #[.int .i64 j,.int .i64 k,.string q],.bool r] w fun e w'=>e=.returned (.int .i64 (holdC n j k r))/\Below w.heap.size w w':=by
 unfold holdC;by_cases m:IsJ n j
 .
  rw[if_pos (show 0<=j/\j<(n:Int) from m)];have l:=Hi m;clear m;by_cases s:k=1
  .
   subst s;rw[if_neg (by simp)];cases r with
   |true=>
    rw[if_pos rfl];go_enter func123,ntmps123;obtain⟨W,b⟩:=nm (w.alloc (.cells #[.int .i64 j,.int .i64 1,.string q] 83));have d:=Ua b;have c:SB W w.heap.size 83 #[.int .i64 j,.int .i64 1,.string q]:=by rw[<-b];exact SB.new w _ _
    obtain⟨f,g,h,-⟩:=zc c;rw[<-b] at f g h;have i:=Hi b;clear b c;go_wp2_with fail;go_fit (Qbc a n cap j _ l.o);rintro e p ⟨rfl,rfl⟩;go_wp2;go_ret;exact⟨rfl,by rw[i.o];exact d.o⟩
   |false=>
    rw[if_neg (by simp)];go_enter func123,ntmps123;obtain⟨W,b⟩:=nm (w.alloc (.cells #[.int .i64 j,.int .i64 1,.string q] 83));have d:=Ua b;have c:SB W w.heap.size 83 #[.int .i64 j,.int .i64 1,.string q]:=by rw[<-b];exact SB.new w _ _
    obtain⟨f,g,h,-⟩:=zc c;rw[<-b] at f g h;have i:=Hi b;clear b c;go_wp2_with fail;go_fit (Qbc a n cap j _ l.o);rintro e p ⟨rfl,rfl⟩;go_wp2;go_ret;exact⟨rfl,by rw[i.o];exact d.o⟩
  .
   by_cases t:k=2
   .
    subst t;rw[if_neg (by simp)];cases r with
    |true=>
     rw[if_pos rfl];go_enter func123,ntmps123;obtain⟨W,b⟩:=nm (w.alloc (.cells #[.int .i64 j,.int .i64 2,.string q] 83));have d:=Ua b;have c:SB W w.heap.size 83 #[.int .i64 j,.int .i64 2,.string q]:=by rw[<-b];exact SB.new w _ _
     obtain⟨f,g,h,-⟩:=zc c;rw[<-b] at f g h;have i:=Hi b;clear b c;go_wp2_with fail;go_fit (Qbc a n cap j _ l.o);rintro e p ⟨rfl,rfl⟩;go_wp2;go_ret;exact⟨rfl,by rw[i.o];exact d.o⟩
    |false=>
     rw[if_neg (by simp)];go_enter func123,ntmps123;obtain⟨W,b⟩:=nm (w.alloc (.cells #[.int .i64 j,.int .i64 2,.string q] 83));have d:=Ua b;have c:SB W w.heap.size 83 #[.int .i64 j,.int .i64 2,.string q]:=by rw[<-b];exact SB.new w _ _
     obtain⟨f,g,h,-⟩:=zc c;rw[<-b] at f g h;have i:=Hi b;clear b c;go_wp2_with fail;go_fit (Qbc a n cap j _ l.o);rintro e p ⟨rfl,rfl⟩;go_wp2;go_ret;exact⟨rfl,by rw[i.o];exact d.o⟩
   .
    rw[if_pos ⟨s,t⟩];have u:(k != 1)=true:=by simpa using s
    have v:(k != 2)=true:=by simpa using t
    clear s t;go_enter func123,ntmps123;obtain⟨W,b⟩:=nm (w.alloc (.cells #[.int .i64 j,.int .i64 k,.string q] 83));have d:=Ua b;have c:SB W w.heap.size 83 #[.int .i64 j,.int .i64 k,.string q]:=by rw[<-b];exact SB.new w _ _
    obtain⟨f,g,h,-⟩:=zc c;rw[<-b] at f g h;have i:=Hi b;clear b c;go_wp2_with fail;go_fit (Qbc a n cap j _ l.o);rintro e p ⟨rfl,rfl⟩;go_wp2;go_ret;exact⟨rfl,by rw[i.o];exact d.o⟩
 .
  rw[if_neg (show ¬(0<=j/\j<(n:Int)) from m)];have l:=Hi m;clear m;go_enter func123,ntmps123;obtain⟨W,b⟩:=nm (w.alloc (.cells #[.int .i64 j,.int .i64 k,.string q] 83));have d:=Ua b;have c:SB W w.heap.size 83 #[.int .i64 j,.int .i64 k,.string q]:=by rw[<-b];exact SB.new w _ _
  obtain⟨f,g,h,-⟩:=zc c;rw[<-b] at f g h;have i:=Hi b;clear b c;go_wp2_with fail;go_fit (Qeo a n cap j _ l.o);rintro e p ⟨rfl,rfl⟩;go_wp2;go_ret;exact⟨rfl,by rw[i.o];exact d.o⟩
def places(hs:List H3):List (Int × Int):=hs.map fun h=>(h.j,h.w)
def holdAt(n:Nat)(hs:List H3)(k:Nat)(h:H3):Int:=holdC n h.j h.w (decide ((h.j,h.w)∈ places (hs.take k)))
def HoldsFault(n m:Nat)(hs:List H3)(c at_:Int):Prop:=
 (∃k h,hs[k]?=some h/\(∀i x,i<k->hs[i]?=some x->holdAt n hs i x=0)/\holdAt n hs k h=c/\c≠0/\at_=m+k)∨
 ((∀i x,hs[i]?=some x->holdAt n hs i x=0)/\c=0/\at_=0)
theorem PairSet.push{a:Array MapEntry}{c:List (Int × Int)}{p:Int × Int}{b:Nat}(h:PairSet a c):PairSet (a.push { key:=pairV p,val:=.agg #[],born:=b }) (c++ [p]):=by
 unfold PairSet at*;rw[Array.toList_push,List.map_append,h,List.map_append];rfl
theorem Quh{hs:List H3}{k:Nat}{h:H3}(hk:hs[k]?=some h):places (hs.take (k+1))=places (hs.take k)++ [(h.j,h.w)]:=by
 unfold places;rw[List.take_add_one,hk];simp
theorem Tryz.faultInfo:(prog.info? 31).map (·.size)=some 2:=by kernel_rfl
theorem Qui{w:Vz}{r b:Nat}{o:Obj}(h:b≠r):({ w with heap:=w.heap.setIfInBounds r o }:World).heap[b]?=w.heap[b]?:=by
 simp[Array.getElem?_setIfInBounds,h.symm]
theorem Only.map{w:Vz}{r:Nat}(o:Obj):Only r w { w with heap:=w.heap.setIfInBounds r o }:=⟨rfl,rfl,rfl,by simp,fun k hk a=>Qui a⟩
theorem Quj{w:Vz}{r:Nat}{o:Obj}(h:r<w.heap.size):({ w with heap:=w.heap.setIfInBounds r o }:World).heap[r]?=some o:=by
 simp[Array.getElem?_setIfInBounds,h]
theorem Quk(Z a2 a3:Vx)(n c1 m c2 c3:Nat)(hs:List H3)(w:Vz)(hh:ARow H3.cells w a3 c3 hs)(hl:hs.length<=20)(hm:m<=24):
 Calls prog 75 #[.agg #[.slice Z n c1,.slice a2 m c2,.slice a3 hs.length c3]] w fun e w'=>∃c aa,e=.returned (.agg #[.int .i64 c,.int .i64 aa])/\HoldsFault n m hs c aa/\Below w.heap.size w w':=by
 have HH:=Hi hh;clear hh;go_enter func75,ntmps75;obtain⟨W,J⟩:=nm (((w.alloc (.cells #[.slice Z n c1,.slice a2 m c2,.slice a3 hs.length c3] 26)).alloc (.cells #[.int .i64 0,.int .i64 0] 31)).alloc (.map #[] 0));have z:O (Bl w W):=Hi (by rw[<-J];exact(Below.new2 w _ _).alloc (by simp<;>omega) _);have A:O (SB W w.heap.size 26 #[.slice Z n c1,.slice a2 m c2,.slice a3 hs.length c3]):=Hi (by rw[<-J];exact((SB.new w _ _).alloc _).alloc _);have ab:O (SB W (w.heap.size+1) 31 #[.int .i64 0,.int .i64 0]):=Hi (by rw[<-J];exact(SB.new2 w _ _ _ _).alloc _);have ad:O (W.heap[w.heap.size+2]?=some (.map #[] 0)):=Hi (by
  rw[<-J];have:=(Go.MapKept.heap_alloc ((w.alloc (.cells #[.slice Z n c1,.slice a2 m c2,.slice a3 hs.length c3] 26)).alloc (.cells #[.int .i64 0,.int .i64 0] 31)) (.map #[] 0)).1
  simpa using this)
 obtain⟨-,-,k2,-⟩:=zc A.o;rw[<-J] at k2;have HW:=Hi J;have K:∀v:Vz,(Instr.makeMap 176 none).run prog v=.ok (.map (some v.heap.size)) (v.alloc (.map #[] 0)):=fun v=>rfl
 clear J;go_wp2_with fail;rw[HW.o];clear k2 K;obtain⟨r,hr⟩:=nm (w.heap.size+1+1);have ax:w.heap.size+1<r:=by omega
 have ao:O (W.heap[r]?=some (.map #[] 0)):=Hi (by rw[<-hr];exact ad.o);rw[hr];clear hr ad;go_loopw [14] (fun iv wr=>∃(k:Nat) (E:Array MapEntry) (a:Nat),k<=hs.length/\iv=.int .i64 k/\(∀i x,i<k->hs[i]?=some x->holdAt n hs i x=0)/\PairSet E (places (hs.take k))/\wr.heap[r]?=some (.map E a)/\Only r W wr) (fun iv _=>hs.length - (intOf iv).toNat)
 case atStart=>exact⟨0,#[],0,by omega,rfl,fun i x hi=>by omega,rfl,ao.o,Only.refl _ _⟩
 case round=>
  obtain⟨k,E,a,hk,rfl,F,ae,l,ho⟩:=hrel;obtain⟨s,L,G,HO,af⟩:=Id F ae l ho (z.o.trans (ho.below (by omega) z.o.size));have ag:r<wr.heap.size:=by
   rcases Nat.lt_or_ge r wr.heap.size with h|h
   . exact h
   . rw[Array.getElem?_eq_none h] at l
     cases l
  clear F ae l ho;by_cases ap:k<hs.length
  .
   obtain⟨f,hf⟩:∃f,hs[k]?=some f:=⟨hs[k],gE ap⟩;obtain⟨fb,ay,rfl,az,d0,d1,d2⟩:=(HH.o.below af.o).hold hf;have M:=Hi hf;obtain⟨V,hV⟩:=nm ((wr.alloc (.cells #[.int .i64 f.j,.int .i64 f.w,.string f.q] 83)).alloc (.cells #[.int .i64 f.j,.int .i64 f.w] 177));have t:Bl wr V:=by rw[<-hV];exact Below.new2 wr _ _
   have ah:=(t.block r ag).trans G.o;have u:(Instr.lookup 176 (.map (some r)) (.agg #[.int .i64 f.j,.int .i64 f.w]) true).run prog V=.ok (.tuple #[.agg #[],.bool (decide ((f.j,f.w)∈ places (hs.take k)))]) V:=Qqo r a E _ (f.j,f.w) V ah L.o;obtain⟨tw,N⟩:=nm (decide ((f.j,f.w)∈ places (hs.take k)));rw[N,<-hV] at u;obtain⟨P,HV,a0⟩:=Ib N hV t;have q1:((k:Int)<(hs.length:Int)):=by omega
   obtain⟨V3,B⟩:=nm (V.alloc (.cells #[] 178));have Q:Bl wr V3:=by rw[<-B];exact t.alloc t.size _
   have ai:=Hi Q;have y:=(A.o.only HO.o (by omega)).below Q (A.o.only HO.o (by omega)).lt;obtain⟨k0,k1,-⟩:=zc y;rw[<-B,<-hV] at k0 k1;have aj:=Hi B;clear hf N hV t ah B Q y;go_wp2_with fail;rw[HV.o,aj.o];clear k0 k1 u d0 d1 d2;obtain⟨Y,g⟩:=nm (holdC n f.j f.w tw);have ak:=Hi (Qug Z n c1 f.j f.w f.q tw V3);rw[g] at ak;have R:O (holdAt n hs k f=Y):=Hi (by unfold holdAt;rw[P.o];exact g);clear g;go_fit ak.o;rintro e S ⟨rfl,T⟩;obtain⟨U,al⟩:=Ia (ai.o.trans (T.mono ai.o.size)) T;obtain⟨C,aq⟩:=Ia (HO.o.trans (Only.of_below U.o)) ((U.o.block r ag).trans G.o);have y:=A.o.only C.o (by omega);have d:=ab.o.only C.o (by omega)
   obtain⟨-,k1,-⟩:=zc y;obtain⟨z0,z1,-⟩:=zc d;have f0:=d.free 0;have f1:=d.free 1;have X:=Hi d;clear y d T;by_cases g:Y=0
   .
    subst g;have am:tw=false:=by
     cases tw with
     |false=>rfl
     |true=>
      exfalso
      have h:=R.o;unfold holdAt holdC at h;rw[P.o] at h
      split at h
      .
       split at h
       . simp at h
       . simp at h
      . simp at h
    have H:=of_decide_eq_false (P.o.trans am);have an:(Instr.mapUpdate 176 (.map (some r)) (.agg #[.int .i64 f.j,.int .i64 f.w]) (.agg #[])).run prog S=.ok () { S with heap:=S.heap.setIfInBounds r (.map (E.push { key:=.agg #[.int .i64 f.j,.int .i64 f.w],val:=.agg #[],born:=a }) (a+1)) }:=Qqp r a E _ (f.j,f.w) S aq.o L.o H;obtain⟨w5,D⟩:∃w5,({ S with heap:=S.heap.setIfInBounds r (.map (E.push { key:=.agg #[.int .i64 f.j,.int .i64 f.w],val:=.agg #[],born:=a }) (a+1)) }:World)=w5:=⟨_,rfl⟩;have ar:O (Only r W w5):=Hi (by rw[<-D];exact C.o.trans (Only.map _));have au:O (w5.heap[r]?=some (.map (E.push { key:=.agg #[.int .i64 f.j,.int .i64 f.w],val:=.agg #[],born:=a }) (a+1))):=Hi (by rw[<-D];exact Quj (by have:=U.o.size;omega));rw[D] at an
    have hv:=(HV.o ▸ SB.new2 wr 83 177 #[.int .i64 f.j,.int .i64 f.w,.string f.q] #[.int .i64 f.j,.int .i64 f.w]:SB V (wr.heap.size+1) 177 #[.int .i64 f.j,.int .i64 f.w]);have I:Bl V S:=by
     have h1:Bl V V3:=by rw[<-aj.o];exact(Below.refl _ _).alloc lZ _
     exact h1.trans (al.o.mono h1.size)
    obtain⟨p0,p1,-⟩:=zc (hv.below I hv.lt);clear am D H hv I;go_wp2;go_roundw
    case rel=>
     refine⟨k+1,_,_,by omega,by go_num,?_,?_,au.o,ar.o⟩
     .
      intro i x hi hx;rcases Nat.lt_or_ge i k with h|h
      . exact s.o i x h hx
      .
       obtain rfl:i=k:=by omega
       obtain rfl:=Option.some.inj (M.o.symm.trans hx);exact R.o
     . rw[Quh M.o]
       exact L.o.push (p:=(f.j,f.w)) (b:=a)
    case measure=>simp[intOf];omega
   .
    have e0:(Y != 0)=true:=by simpa using g
    go_wp2;have av:=Hi (z.o.trans (C.o.below (by omega) z.o.size));refine bodyPost_ret (v:=.agg #[.int .i64 Y,.int .i64 ((m:Int)+(k:Int))]) (results_cell_row rfl _ _ (w.heap.size+1) 31 #[.int .i64 Y,.int .i64 ((m:Int)+(k:Int))] (0,0) _ rfl ((X.o.set 0 _).set 1 _) underlying31 rfl Tryz.faultInfo) rfl ?_;exact⟨Y,_,rfl,.inl ⟨k,f,M.o,s.o,R.o,g,rfl⟩,(av.o.setCell (Nat.le_succ _) _).setCell (Nat.le_succ _) _⟩
  .
   have aw:k=hs.length:=by omega
   subst aw;have d:=ab.o.only HO.o (by omega);obtain⟨z0,z1,-⟩:=zc d;have f0:=d.free 0;have f1:=d.free 1;have X:=Hi d;clear d;go_wp2;refine bodyPost_ret (v:=.agg #[.int .i64 0,.int .i64 0]) (results_cell_row rfl _ _ (w.heap.size+1) 31 #[.int .i64 0,.int .i64 0] (0,0) _ rfl ((X.o.set 0 _).set 1 _) underlying31 rfl Tryz.faultInfo) rfl ?_;refine⟨0,0,rfl,.inr ⟨fun i x hx=>s.o i x (gZ hx).1 hx,rfl,rfl⟩,(af.o.setCell (Nat.le_succ _) _).setCell (Nat.le_succ _) _⟩
theorem Qul(a:Vx)(cap:Nat)(d:List S2)(b:B6)(w:Vz)(K:Glob w)(L:ARow S2.cells w a cap d)(C:∀p,p∈ d->p.x.size<=1048576/\p.y.size<=1048576)(t:b.c.size<=1048576/\b.e.size<=1048576/\b.l.size<=1048576/\b.m.size<=1048576):
 Calls prog 74 #[.slice a d.length cap,.agg #[.int .i64 b.a,.int .i64 b.b,.string b.c,.string b.e,.string b.l,.string b.m]] w fun e w'=>∃c,e=.returned (.int .i64 c)/\BarCode d b c/\Below w.heap.size w w':=by
 by_cases h:IsJ d.length b.a/\IsJ d.length b.b
 .
  obtain⟨u,f⟩:=Int.eq_ofNat_of_zero_le h.1.1;obtain⟨v,g⟩:=Int.eq_ofNat_of_zero_le h.2.1;have M:u<d.length:=by have:=h.1.2;omega
  have N:v<d.length:=by have:=h.2.2;omega
  obtain⟨p,z⟩:∃p,d[u]?=some p:=⟨_,gE M⟩;obtain⟨q,A⟩:∃q,d[v]?=some q:=⟨_,gE N⟩;obtain⟨D,i⟩:=QOf.ex p.x.data.toList;obtain⟨E,j⟩:=QOf.ex p.y.data.toList;obtain⟨F,k⟩:=QOf.ex q.x.data.toList;obtain⟨G,n⟩:=QOf.ex q.y.data.toList;obtain⟨H,o⟩:=QOf.ex b.c.data.toList;obtain⟨I,r⟩:=QOf.ex b.l.data.toList;obtain⟨J,s⟩:=QOf.ex b.m.data.toList;rw[f,g];refine(Quf a cap u v d p q b.c b.e b.l b.m D E F G H I J w K L z A (C p (mO z)) (C q (mO A)) ⟨t.1,t.2.2.1,t.2.2.2⟩ i j k n o r s).mono ?_;rintro e w' ⟨rfl,B⟩;exact⟨_,rfl,.inr ⟨h.1,h.2,p,q,by rw[f];exact z,by rw[g];exact A,D,E,F,G,H,I,J,i,j,k,n,o,r,s,rfl⟩,B⟩
 .
  refine(Que a d.length cap b.a b.b b.c b.e b.l b.m w h).mono ?_;rintro e w' ⟨rfl,B⟩;exact⟨_,rfl,.inl ⟨h,rfl⟩,B⟩
def Many(j b h:Nat):Prop:=j<1∨10<j∨24<b∨20<h
def FrameFault(js:List S2)(bs:List B6)(hs:List H3)(c at_:Int):Prop:=
 (Many js.length bs.length hs.length/\c=2/\at_=0)∨
 (¬Many js.length bs.length hs.length/\∃(k:Nat) (b:B6),bs[k]?=some b/\(∀(i:Nat) (x:B6),i<k->bs[i]?=some x->BarCode js x 0)/\BarCode js b c/\c≠0/\at_=(k:Int))∨
 (¬Many js.length bs.length hs.length/\(∀(i:Nat) (x:B6),bs[i]?=some x->BarCode js x 0)/\HoldsFault js.length bs.length hs c at_)
theorem HoldsFault.inj{n m:Nat}{hs:List H3}{c d x y:Int}(h:HoldsFault n m hs c x)(k:HoldsFault n m hs d y):c=d/\x=y:=by
 rcases h with ⟨i,f,l,b,rfl,p,rfl⟩|⟨b,rfl,rfl⟩
 .
  rcases k with ⟨j,g,e,a,rfl,o,rfl⟩|⟨a,_,_⟩
  .
   rcases Nat.lt_trichotomy i j with h|rfl|h
   . exact absurd (a i f h l) p
   .
    rw[l] at e;cases e;exact⟨rfl,rfl⟩
   . exact absurd (b j g h e) o
  . exact absurd (a i f l) p
 .
  rcases k with ⟨j,g,e,a,rfl,o,rfl⟩|⟨a,rfl,rfl⟩
  . exact absurd (b j g e) o
  . exact⟨rfl,rfl⟩
theorem FrameFault.inj{r:List S2}{s:List B6}{hs:List H3}{c d x y:Int}(h:FrameFault r s hs c x)(k:FrameFault r s hs d y):c=d/\x=y:=by
 rcases h with ⟨l,rfl,rfl⟩|⟨l,i,f,o,b,p,t,rfl⟩|⟨l,b,u⟩
 .
  rcases k with ⟨_,rfl,rfl⟩|⟨e,_⟩|⟨e,_⟩
  . exact⟨rfl,rfl⟩
  . exact absurd l e
  . exact absurd l e
 .
  rcases k with ⟨e,_⟩|⟨_,j,g,m,a,n,q,rfl⟩|⟨_,a,_⟩
  . exact absurd e l
  .
   rcases Nat.lt_trichotomy i j with h|rfl|h
   . exact absurd (p.inj (a i f h o)) t
   .
    rw[o] at m;cases m;exact⟨p.inj n,rfl⟩
   . exact absurd (n.inj (b j g h m)) q
  . exact absurd (p.inj (a i f o)) t
 .
  rcases k with ⟨e,_⟩|⟨_,j,g,m,a,n,q,rfl⟩|⟨_,a,v⟩
  . exact absurd e l
  . exact absurd (n.inj (b j g m)) q
  . exact u.inj v
theorem Qdi(M Q R:Vx)(c1 c2 c3:Nat)(s:List S2)(t:List B6)(hs:List H3)(w:Vz)(J:Glob w)(K:FrRow w M Q R c1 c2 c3 s t hs)(L:FrSized s t hs):
 Calls prog 36 #[.agg #[.slice M s.length c1,.slice Q t.length c2,.slice R hs.length c3]] w fun e w'=>∃c D,e=.returned (.agg #[.int .i64 c,.int .i64 D])/\FrameFault s t hs c D/\Below w.heap.size w w':=by
 by_cases h1:s.length<1
 .
  have A:O (Many s.length t.length hs.length):=Hi (.inl h1);have q1:((s.length:Int)<1):=by omega
  obtain⟨HG,T,Y⟩:=Ib J K L;clear J K L;go_enter func36,ntmps36;obtain⟨W,n⟩:=nm ((w.alloc (.cells #[.slice M s.length c1,.slice Q t.length c2,.slice R hs.length c3] 26)).alloc (.cells #[.int .i64 0,.int .i64 0] 31));have u:=Ub n;have g:=Ud n;have d:=Ue n;have r:O (Bl W W):=Hi bR;have p:=g.o.below r.o g.o.lt;have q:=d.o.below r.o d.o.lt;obtain⟨z,x1,-⟩:=zc p
  obtain⟨-,-,x2,-⟩:=zc p;obtain⟨B,C,-⟩:=zc q;have f0:=q.free 0;have f1:=q.free 1;clear p q;rw[<-n] at z x1 x2 B C f0 f1;have HW:=Hi n;clear n;go_wp2;refine bodyPost_ret (v:=.agg #[.int .i64 2,.int .i64 0]) (results_cell_row rfl _ _ (w.heap.size+1) 31 #[.int .i64 2,.int .i64 0] (0,0) _ rfl (SB.new2 w _ _ _ _) underlying31 rfl Tryz.faultInfo) rfl ?_;exact⟨2,0,rfl,Or.inl ⟨A.o,rfl,rfl⟩,Below.new2 w _ _⟩
 by_cases h2:10<s.length
 .
  have A:O (Many s.length t.length hs.length):=Hi (.inr (.inl h2));have q1:¬((s.length:Int)<1):=by omega
  have q2:((10:Int)<(s.length:Int)):=by omega
  obtain⟨HG,T,Y⟩:=Ib J K L;clear J K L;go_enter func36,ntmps36;obtain⟨W,n⟩:=nm ((w.alloc (.cells #[.slice M s.length c1,.slice Q t.length c2,.slice R hs.length c3] 26)).alloc (.cells #[.int .i64 0,.int .i64 0] 31));have u:=Ub n;have g:=Ud n;have d:=Ue n;have r:O (Bl W W):=Hi bR;have p:=g.o.below r.o g.o.lt;have q:=d.o.below r.o d.o.lt;obtain⟨z,x1,-⟩:=zc p
  obtain⟨-,-,x2,-⟩:=zc p;obtain⟨B,C,-⟩:=zc q;have f0:=q.free 0;have f1:=q.free 1;clear p q;rw[<-n] at z x1 x2 B C f0 f1;have HW:=Hi n;clear n;go_wp2;refine bodyPost_ret (v:=.agg #[.int .i64 2,.int .i64 0]) (results_cell_row rfl _ _ (w.heap.size+1) 31 #[.int .i64 2,.int .i64 0] (0,0) _ rfl (SB.new2 w _ _ _ _) underlying31 rfl Tryz.faultInfo) rfl ?_;exact⟨2,0,rfl,Or.inl ⟨A.o,rfl,rfl⟩,Below.new2 w _ _⟩
 by_cases h3:24<t.length
 .
  have A:O (Many s.length t.length hs.length):=Hi (.inr (.inr (.inl h3)));have q1:¬((s.length:Int)<1):=by omega
  have q2:¬((10:Int)<(s.length:Int)):=by omega
  have q3:((24:Int)<(t.length:Int)):=by omega
  obtain⟨HG,T,Y⟩:=Ib J K L;clear J K L;go_enter func36,ntmps36;obtain⟨W,n⟩:=nm ((w.alloc (.cells #[.slice M s.length c1,.slice Q t.length c2,.slice R hs.length c3] 26)).alloc (.cells #[.int .i64 0,.int .i64 0] 31));have u:=Ub n;have g:=Ud n;have d:=Ue n;have r:O (Bl W W):=Hi bR;have p:=g.o.below r.o g.o.lt;have q:=d.o.below r.o d.o.lt;obtain⟨z,x1,-⟩:=zc p
  obtain⟨-,-,x2,-⟩:=zc p;obtain⟨B,C,-⟩:=zc q;have f0:=q.free 0;have f1:=q.free 1;clear p q;rw[<-n] at z x1 x2 B C f0 f1;have HW:=Hi n;clear n;go_wp2;refine bodyPost_ret (v:=.agg #[.int .i64 2,.int .i64 0]) (results_cell_row rfl _ _ (w.heap.size+1) 31 #[.int .i64 2,.int .i64 0] (0,0) _ rfl (SB.new2 w _ _ _ _) underlying31 rfl Tryz.faultInfo) rfl ?_;exact⟨2,0,rfl,Or.inl ⟨A.o,rfl,rfl⟩,Below.new2 w _ _⟩
 by_cases h4:20<hs.length
 .
  have A:O (Many s.length t.length hs.length):=Hi (.inr (.inr (.inr h4)));have q1:¬((s.length:Int)<1):=by omega
  have q2:¬((10:Int)<(s.length:Int)):=by omega
  have q3:¬((24:Int)<(t.length:Int)):=by omega
  have q4:((20:Int)<(hs.length:Int)):=by omega
  obtain⟨HG,T,Y⟩:=Ib J K L;clear J K L;go_enter func36,ntmps36;obtain⟨W,n⟩:=nm ((w.alloc (.cells #[.slice M s.length c1,.slice Q t.length c2,.slice R hs.length c3] 26)).alloc (.cells #[.int .i64 0,.int .i64 0] 31));have u:=Ub n;have g:=Ud n;have d:=Ue n;have r:O (Bl W W):=Hi bR;have p:=g.o.below r.o g.o.lt;have q:=d.o.below r.o d.o.lt;obtain⟨z,x1,-⟩:=zc p
  obtain⟨-,-,x2,-⟩:=zc p;obtain⟨B,C,-⟩:=zc q;have f0:=q.free 0;have f1:=q.free 1;clear p q;rw[<-n] at z x1 x2 B C f0 f1;have HW:=Hi n;clear n;go_wp2;refine bodyPost_ret (v:=.agg #[.int .i64 2,.int .i64 0]) (results_cell_row rfl _ _ (w.heap.size+1) 31 #[.int .i64 2,.int .i64 0] (0,0) _ rfl (SB.new2 w _ _ _ _) underlying31 rfl Tryz.faultInfo) rfl ?_;exact⟨2,0,rfl,Or.inl ⟨A.o,rfl,rfl⟩,Below.new2 w _ _⟩
 have aa:O (¬Many s.length t.length hs.length):=Hi (by rintro(h|h|h|h)<;>omega);have q1:¬((s.length:Int)<1):=by omega
 have q2:¬((10:Int)<(s.length:Int)):=by omega
 have q3:¬((24:Int)<(t.length:Int)):=by omega
 have q4:¬((20:Int)<(hs.length:Int)):=by omega
 obtain⟨HG,T,Y⟩:=Ib J K L;clear J K L;go_enter func36,ntmps36;obtain⟨W,n⟩:=nm ((w.alloc (.cells #[.slice M s.length c1,.slice Q t.length c2,.slice R hs.length c3] 26)).alloc (.cells #[.int .i64 0,.int .i64 0] 31));have u:=Ub n;have g:=Ud n;have d:=Ue n;have r:O (Bl W W):=Hi bR;have p:=g.o.below r.o g.o.lt;have q:=d.o.below r.o d.o.lt;obtain⟨z,x1,-⟩:=zc p
 obtain⟨-,-,x2,-⟩:=zc p;obtain⟨B,C,-⟩:=zc q;have f0:=q.free 0;have f1:=q.free 1;clear p q;rw[<-n] at z x1 x2 B C f0 f1;have HW:=Hi n;clear n;go_wp2_with fail;rw[HW.o];clear z x1 x2 B C f0 f1;go_loopw [32] (fun iv wr=>∃k:Nat,k<=t.length/\iv=.int .i64 k/\(∀(i:Nat) (x:B6),i<k->t[i]?=some x->BarCode s x 0)/\Below W.heap.size W wr) (fun iv _=>t.length - (intOf iv).toNat)
 case atStart=>exact⟨0,by omega,rfl,fun i x hi=>by omega,Below.refl _ _⟩
 case round=>
  obtain⟨k,hk,rfl,S,hb⟩:=hrel;obtain⟨F,Z,ab⟩:=Ib S hb (u.o.trans (hb.mono u.o.size));clear S hb;by_cases ad:k<t.length
  .
   obtain⟨f,U⟩:∃f,t[k]?=some f:=⟨t[k],gE ad⟩;obtain⟨fb,af,rfl,ag,d0,d1,d2,d3,d4,d5⟩:=(T.o.b.below ab.o).bar U;have X:=Hi U;have q5:((k:Int)<(t.length:Int)):=by omega
   obtain⟨V,hV⟩:=nm (wr.alloc (.cells #[.int .i64 f.a,.int .i64 f.b,.string f.c,.string f.e,.string f.l,.string f.m] 80));have G:O (Bl W V):=Hi (by rw[<-hV];exact Z.o.alloc Z.o.size _);have p:=g.o.below G.o g.o.lt;obtain⟨z,-⟩:=zc p;rw[<-hV] at z;have HV:=Hi hV;clear U hV p;go_wp2_with fail;rw[HV.o];clear z d0 d1 d2 d3 d4 d5;go_fit (Qul M c1 s f V ((HG.o.below u.o).below G.o) ((T.o.j.below u.o).below G.o) Y.o.j (Y.o.b f (mO X.o)));rintro e w1 ⟨N,rfl,H,I⟩;obtain⟨P,y⟩:=Ia H (G.o.trans (I.mono G.o.size));clear H I;by_cases hc:N=0
   .
    subst hc;go_wp2;go_roundw
    case rel=>
     refine⟨k+1,by omega,by go_num,?_,y.o⟩;intro i x hi p;rcases Nat.lt_or_ge i k with h|h
     . exact F.o i x h p
     .
      obtain rfl:i=k:=by omega
      obtain rfl:=Option.some.inj (X.o.symm.trans p);exact P.o
    case measure=>simp[intOf];omega
   .
    have e0:(N != 0)=true:=by simpa using hc
    have E:=Hi (d.o.below y.o d.o.lt);obtain⟨B,C,-⟩:=zc E.o;have f0:=E.o.free 0;have f1:=E.o.free 1;go_wp2;refine bodyPost_ret (v:=.agg #[.int .i64 N,.int .i64 (k:Int)]) (results_cell_row rfl _ _ (w.heap.size+1) 31 #[.int .i64 N,.int .i64 (k:Int)] (0,0) _ rfl ((E.o.set 0 _).set 1 _) underlying31 rfl Tryz.faultInfo) rfl ?_;exact⟨N,_,rfl,Or.inr (Or.inl ⟨aa.o,k,f,X.o,F.o,P.o,hc,rfl⟩),((u.o.trans (y.o.mono u.o.size)).setCell (Nat.le_succ _) _).setCell (Nat.le_succ _) _⟩
  .
   have ae:k=t.length:=by omega
   subst ae;have p:=g.o.below Z.o g.o.lt;have q:=d.o.below Z.o d.o.lt;obtain⟨z,x1,x2,-⟩:=zc p;obtain⟨B,C,-⟩:=zc q;have f0:=q.free 0;have f1:=q.free 1;clear p q;go_wp2_with fail;clear z x1 x2 B C f0 f1;go_fit (Quk M Q R s.length c1 t.length c2 c3 hs wr (T.o.h.below ab.o) (by omega) (by omega));rintro e w1 ⟨N,D,rfl,H,I⟩;obtain⟨P,y⟩:=Ia H (Z.o.trans (I.mono Z.o.size));clear H I;have p:=g.o.below y.o g.o.lt;have q:=d.o.below y.o d.o.lt
   obtain⟨z,x1,x2,-⟩:=zc p;obtain⟨B,C,-⟩:=zc q;have f0:=q.free 0;have f1:=q.free 1;clear p q;have E:=Hi (d.o.below y.o d.o.lt);go_wp2;refine bodyPost_ret (v:=.agg #[.int .i64 N,.int .i64 D]) (results_cell_row rfl _ _ (w.heap.size+1) 31 #[.int .i64 N,.int .i64 D] (0,0) _ rfl ((E.o.set 0 _).set 1 _) underlying31 rfl Tryz.faultInfo) rfl ?_
   exact⟨N,D,rfl,Or.inr (Or.inr ⟨aa.o,fun i x p=>F.o i x (gZ p).1 p,P.o⟩),((u.o.trans (y.o.mono u.o.size)).setCell (Nat.le_succ _) _).setCell (Nat.le_succ _) _⟩
theorem Qct{P:Program}{e:Func}{p u:Tmp}{ty:Vr}(h:e.results=#[.tmp u,.cell p ty])(a:Vw)(w:Vz)(g:Nat)(t:Vr)(b:Vw)(f:Nat × Nat)(d:TypeDesc)
 (i:a.getD p undef=.pointer (some ⟨g,0,none⟩)) (j:w.heap[g]?=some (.cells b t f))
 (k:P.underlying ty=some d) (l:(match d with| .struct _| .array _ _=>true|_=>false)=true) (m:(P.info? ty).map (·.size)=some b.size):
 (results e a).run P w=.ok (.tuple #[a.getD u undef,.agg b]) w:=by
 have c:a[p]?.getD undef=.pointer (some ⟨g,0,none⟩):=by simpa using i
 simp[results,h,c,asAddr,run_loadVar_row w g t ty b f d j k l m]
theorem ref_F(c a:Int)(w:Vz):Calls prog 23 #[.int .i64 c,.int .i64 a] w fun e w'=>e=.returned (.agg #[.int .i64 c,.int .i64 a])/\Below w.heap.size w w':=by
 go_enter func23,ntmps23;go_wp2;refine bodyPost_ret (results_cell_row rfl _ _ w.heap.size 31 #[.int .i64 c,.int .i64 a] (0,0) _ rfl (SB.new w _ _) underlying31 rfl Tryz.faultInfo) rfl ?_;exact⟨rfl,bR.alloc lZ _⟩
theorem Qep(a b c:Vx)(c1 c2 c3 n m k:Nat)(w:Vz)(d:m<=24)(hk:k<=20):
 Calls prog 14 #[.agg #[.slice a n c1,.slice b m c2,.slice c k c3]] w fun e w'=>e=.returned (.int .i64 ((m:Int)+(k:Int)))/\Below w.heap.size w w':=by
 go_enter func14,ntmps14;go_wp2;go_ret;exact⟨rfl,bR.alloc lZ _⟩
theorem Qum(y z A:Vx)(c1 c2 c3:Nat)(g:List S2)(i:List B6)(hs:List H3)(w:Vz)(D:Glob w)(E:FrRow w y z A c1 c2 c3 g i hs)(F:FrSized g i hs):
 Calls prog 27 #[.agg #[.slice y g.length c1,.slice z i.length c2,.slice A hs.length c3]] w fun e w'=>∃c a k,e=.returned (.tuple #[.int .i64 k,.agg #[.int .i64 c,.int .i64 a]])/\FrameFault g i hs c a/\(c≠0->k=0)/\(c=0->k=(i.length:Int)+(hs.length:Int) - 2*(g.length:Int))/\Below w.heap.size w w':=by
 obtain⟨H,I,J⟩:=Ib D E F;clear D E F;go_enter func27,ntmps27;obtain⟨W,r⟩:=nm ((w.alloc (.cells #[.slice y g.length c1,.slice z i.length c2,.slice A hs.length c3] 26)).alloc (.cells #[.int .i64 0,.int .i64 0] 31));have d:=Ub r;have s:=Ud r;have q:=Ue r;have K:=Hi r;clear r;go_wp2_with fail;rw[K.o];go_fit (Qdi y z A c1 c2 c3 g i hs W (H.o.below d.o) (I.o.below d.o) J.o);rintro e B ⟨c,a,rfl,t,j⟩;have l:=Hi t;obtain⟨V,u⟩:=nm (B.alloc (.cells #[.int .i64 c,.int .i64 a] 31))
 have m:O (Bl W V):=Hi (by rw[<-u];exact j.alloc j.size _);have v:SB V B.heap.size 31 #[.int .i64 c,.int .i64 a]:=by rw[<-u];exact SB.new B _ _
 have f:=q.o.below m.o q.o.lt;obtain⟨L,M,-⟩:=zc v;obtain⟨N,x1,x2,-⟩:=zc (s.o.below m.o s.o.lt);obtain⟨P,Q,-⟩:=zc f;have f0:=f.free 0;have f1:=f.free 1;rw[<-u] at L M N x1 x2 P Q f0 f1;obtain⟨x,G⟩:=Ia f u;have R:w.heap.size+1≠B.heap.size:=by have:=q.o.lt;have:=j.size;omega
 clear t u v f j;by_cases C:c=0
 .
  subst C;have n:¬Many g.length i.length hs.length:=by
   rcases l.o with ⟨_,h,_⟩|⟨h,_⟩|⟨h,_⟩
   . exact absurd h (by decide)
   . exact h
   . exact h
  have n1:g.length<=10:=Nat.le_of_not_lt fun h=>n (.inr (.inl h))
  have T:i.length<=24:=Nat.le_of_not_lt fun h=>n (.inr (.inr (.inl h)))
  have U:hs.length<=20:=Nat.le_of_not_lt fun h=>n (.inr (.inr (.inr h)))
  clear n;go_wp2;rw[G.o];have S:O (a=0):=Hi (by
   rcases l.o with ⟨_,h,_⟩|⟨_,k,b,_,_,_,h,_⟩|⟨_,_,h⟩
   . exact absurd h (by decide)
   . exact absurd rfl h
   .
    rcases h with ⟨_,_,_,_,_,h,_⟩|⟨_,_,h⟩
    . exact absurd rfl h
    . exact h)
  refine bodyPost_ret (Qct rfl _ _ (w.heap.size+1) 31 #[.int .i64 0,.int .i64 0] (0,0) _ rfl ((x.o.set 0 _).set 1 _) underlying31 rfl Tryz.faultInfo) rfl ?_;exact⟨0,0,_,rfl,S.o ▸ l.o,fun h=>absurd rfl h,fun _=>rfl,((d.o.trans (m.o.mono d.o.size)).setCell (Nat.le_succ _) _).setCell (Nat.le_succ _) _⟩
 .
  have X:(c != 0)=true:=by simpa using C
  go_wp2;go_region
  all_goals
   go_wp2;rw[G.o];refine bodyPost_ret (Qct rfl _ _ (w.heap.size+1) 31 #[.int .i64 c,.int .i64 a] (0,0) _ rfl ((x.o.set 0 _).set 1 _) underlying31 rfl Tryz.faultInfo) rfl ?_;exact⟨c,a,0,rfl,l.o,fun _=>rfl,fun h=>absurd h C,(((d.o.trans (m.o.mono d.o.size)).setCell (p:=⟨w.heap.size+1,0,none⟩) (Nat.le_succ _) _).setCell (p:=⟨w.heap.size+1,1,none⟩) (Nat.le_succ _) _).drew⟩
theorem Bag.pair{w:Vz}{bx a j k:Nat}{p q:Rat}(b:RatVal w bx p)(c:RatVal w a q)(d:Fits p j)(e:Fits q k):
 Bag w w [] [.int bx 0 p.num j,.rat bx p.den j,.int a 0 q.num k,.rat a q.den k]:=by
 refine⟨Below.refl _ _,fun n g=>(by cases g),fun t f=>⟨?_,List.not_mem_nil⟩⟩;simp only[List.mem_cons,List.not_mem_nil,or_false] at f;rcases f with rfl|rfl|rfl|rfl
 . exact b.int d
 . exact b.rat d
 . exact c.int e
 . exact c.rat e
theorem Bag.cmp{w0 w:Vz}{Z:Vy}{L:List Thing}{bx d f g i j:Nat}{X Y:Int}(h:Bag w0 w Z L)(k:.int bx d X i∈ L)(n:.int f g Y j∈ L):
 Calls prog 71 #[.pointer (some ⟨bx,d,none⟩),.pointer (some ⟨f,g,none⟩)] w fun e w'=>e=.returned (.int .i64 (cmpZ X Y))/\Bag w0 w' Z L/\w.heap.size<=w'.heap.size:=by
 obtain⟨⟨a,cap,l,o,s⟩,p⟩:=h.ts _ k;obtain⟨⟨b,cap',m,q,t⟩,r⟩:=h.ts _ n;refine(Qkt bx d X a cap l f g Y b cap' m w o q).mono ?_;rintro e w' ⟨rfl,c⟩;exact⟨rfl,h.below c,c.size⟩
theorem Qek(X Y:Int):cmpZ X Y=0↔X=Y:=by
 unfold cmpZ;by_cases b:X<Y
 .
  rw[if_pos b];constructor
  . intro h;omega
  . intro h;omega
 .
  rw[if_neg b];by_cases a:X=Y
  . rw[if_pos a];simp[a]
  . rw[if_neg a];simp[a]
theorem Qs4(p q:Rat):p.num*(q.den:Int)=q.num*(p.den:Int)↔p=q:=by
 constructor
 .
  intro h;rw[<-Rat.mkRat_self p,<-Rat.mkRat_self q];exact(Rat.mkRat_eq_iff p.den_nz q.den_nz).2 h
 . rintro rfl
   rfl
theorem Qkq(bx m j k:Nat)(p q:Rat)(w:Vz)(n:RatVal w bx p)(r:RatVal w m q)(s:Fits p j)(t:Fits q k)(D:j+k<274877906000):
 Calls prog 34 #[.pointer (some ⟨bx,0,none⟩),.pointer (some ⟨m,0,none⟩)] w fun e w'=>(∃c,e=.returned (.int .i64 c)/\(c=0↔p=q))/\Below w.heap.size w w':=by
 obtain⟨d,u⟩:=Ia (Bag.pair n r s t) (Qs4 p q);clear n r s t;by_cases f:(p.den:Int)=(q.den:Int)
 .
  have g:O (cmpZ (p.den:Int) (q.den:Int)=0):=Hi ((Qek _ _).2 f);have y:=Hi f;clear f;go_enter func34,ntmps34;go_wp2_with (first
   |
    (go_at_call 70
     apply cM;apply Bag.den (w0:=w);(focus(repeat(first|exact d.o|apply Bag.alloc|apply Bag.drew)));(focus(repeat(first|exact mH|apply mT)));rintro e i ⟨v,x,rfl,a,b⟩;clear d;have d:=Hi a;clear a
     (try simp only[size_drew,World.size_alloc] at b))
   |
    (go_at_call 71
     apply cM;apply Bag.cmp (w0:=w);(focus(repeat(first|exact d.o|apply Bag.alloc|apply Bag.drew)));(focus(repeat(first|exact mH|apply mT)));(focus(repeat(first|exact mH|apply mT)));rintro e i ⟨rfl,a,b⟩;rw[g.o];clear d;have d:=Hi a
     clear a)
   |fail)
  go_region_held3 (fun _=>True) (trivial) (first
   |
    (go_at_call 71
     apply cM;apply Bag.cmp (w0:=w);(focus(repeat(first|exact d.o|apply Bag.alloc|apply Bag.drew)));(focus(repeat(first|exact mH|apply mT)));(focus(repeat(first|exact mH|apply mT)));rintro e i ⟨rfl,a,b⟩;clear d;have d:=Hi a;clear a
     (try simp only[size_drew,World.size_alloc] at b))
   )
  go_wp2;go_ret;refine⟨⟨_,rfl,?_⟩,d.o.base⟩;have f:=y.o;have z:(q.den:Int)≠0:=by have:=q.den_nz;omega
  rw[Qek,<-u.o,f];exact⟨fun h=>by rw[h],fun h=>Int.eq_of_mul_eq_mul_right z h⟩
 .
  obtain⟨A,l⟩:=nm (cmpZ (p.den:Int) (q.den:Int));have B:(A == 0)=false:=by
   rw[beq_eq_false_iff_ne];intro h;exact f ((Qek _ _).1 (l.trans h))
  have g:=Hi l;clear f l;go_enter func34,ntmps34;go_wp2_with (first
   |
    (go_at_call 70
     apply cM;apply Bag.den (w0:=w);(focus(repeat(first|exact d.o|apply Bag.alloc|apply Bag.drew)));(focus(repeat(first|exact mH|apply mT)));rintro e i ⟨v,x,rfl,a,b⟩;clear d;have d:=Hi a;clear a
     (try simp only[size_drew,World.size_alloc] at b))
   |
    (go_at_call 71
     apply cM;apply Bag.cmp (w0:=w);(focus(repeat(first|exact d.o|apply Bag.alloc|apply Bag.drew)));(focus(repeat(first|exact mH|apply mT)));(focus(repeat(first|exact mH|apply mT)));rintro e i ⟨rfl,a,b⟩;rw[g.o];clear d;have d:=Hi a
     clear a)
   |fail)
  go_region_held3 (fun _=>True) (trivial) (first
   |
    (go_at_call 72
     apply cM;apply Bag.mul (w0:=w);(focus(repeat(first|exact d.o|apply Bag.alloc|apply Bag.drew)));(focus(simp only[mem_less,List.mem_cons,List.not_mem_nil,or_false,size_drew,World.size_alloc,true_or,or_true,true_and,and_true]<;>omega));(focus(repeat(first|exact mH|apply mT)));(focus(repeat(first|exact mH|apply mT)));omega;rintro e i ⟨rfl,a,b,C⟩;clear d;have d:=Hi a;clear a
     (try simp only[size_drew,World.size_alloc] at b))
   |
    (go_at_call 70
     apply cM;apply Bag.den (w0:=w);(focus(repeat(first|exact d.o|apply Bag.alloc|apply Bag.drew)));(focus(repeat(first|exact mH|apply mT)));rintro e i ⟨v,x,rfl,a,b⟩;clear d;have d:=Hi a;clear a
     (try simp only[size_drew,World.size_alloc] at b))
   |
    (go_at_call 71
     apply cM;apply Bag.cmp (w0:=w);(focus(repeat(first|exact d.o|apply Bag.alloc|apply Bag.drew)));(focus(repeat(first|exact mH|apply mT)));(focus(repeat(first|exact mH|apply mT)));rintro e i ⟨rfl,a,b⟩;clear d;have d:=Hi a;clear a
     (try simp only[size_drew,World.size_alloc] at b))
   )
  all_goals
   go_wp2;go_ret;exact⟨⟨_,rfl,(Qek _ _).trans u.o⟩,d.o.base⟩
end Go.Proofs.YtppkmifkpjkgpaaGreatDoor
