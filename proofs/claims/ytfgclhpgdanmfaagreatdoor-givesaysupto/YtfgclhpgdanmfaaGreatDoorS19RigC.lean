import Derived.Test.YtfgclhpgdanmfaaGreatDoorS18ArsD
import Derived.WideKeyRuns
import Derived.MapKept
namespace Go.Proofs.YtfgclhpgdanmfaaGreatDoor
set_option linter.defProp false
open Go.RowKit
open Go.Proofs.Tryz
set_option linter.unusedSimpArgs false
set_option linter.unusedVariables false
set_option maxHeartbeats 8000000
set_option maxRecDepth 1000000
variable{w w' w0:Vz}{L:AG}{P:AB}{α:Type}{c d:Int}{b g i j k r:Nat}{v x1 x2 x3:Ac}{e:Ad}{f:Ap}{p:Rat}
structure ue (P:AB):Prop where
 step:∀u v:Vz,Below u.heap.size u v->P u->P v
structure nN (w0 w:Vz) (L:AG):Prop where
 base:Bl w0 w
 ps:∀P,P∈ L->P w/\ue P
def nN.start(w:Vz):nN w w []:=⟨ac _ _,fun P h=>by cases h⟩
def nN.below(h:nN w0 w L)(hb:Bl w w'):nN w0 w' L:=
 ⟨h.base.trans (hb.mono h.base.size),fun P a=>⟨(h.ps P a).2.step w w' hb (h.ps P a).1,(h.ps P a).2⟩⟩
def nN.put(h:nN w0 w L)(b:P w)(c:ue P):nN w0 w (P :: L):=
 ⟨h.base,fun Q a=>by
   rcases aY.1 a with rfl|a
   . exact⟨b,c⟩
   . exact h.ps Q a⟩
def nN.drew(h:nN w0 w L):nN w0 w.drew L:=h.below (bR.drew)
def nN.get(h:nN w0 w L)(P:AB)(a:P∈ L):P w:=(h.ps P a).1
def SB.nu(b:Nat)(t:Vr)(C:Vw):ue (fun w=>SB w b t C):=⟨fun _ _ hb h=>h.below hb h.lt⟩
def eO.Cu{c:α->List Value}{cap:Nat}{d:List α}(h:eO c w (some ⟨g,0,none⟩) cap d)(a:b≠g):eO c (w.setCell ⟨b,i,none⟩ v) (some ⟨g,0,none⟩) cap d:=by refine⟨h.fit,⟨fun j u f=>?_⟩⟩;obtain⟨n,k,l,hb,m⟩:=h.row.cell j u f;cases l;exact⟨g,0,rfl,by simpa using hb,by rw[bJ (w:=w) (gF w ⟨b,i,none⟩ v g (fun e=>a e.symm))];exact m⟩
def eO.nu(c:α->List Value)(a:Vx)(cap:Nat)(b:List α):ue (fun w=>eO c w a cap b):=⟨fun _ _ hb h=>h.below hb⟩
structure kS (w:Vz):Prop where
 s0:w.cell? ⟨1,0,none⟩=some (.string ⟨#[109,97,114,107]⟩)
 s1:w.cell? ⟨1,1,none⟩=some (.string ⟨#[]⟩)
 b0:w.cell? ⟨2,0,none⟩=some (.int .i64 (-9))
 b1:w.cell? ⟨2,1,none⟩=some (.int .i64 0)
 b2:w.cell? ⟨2,2,none⟩=some (.string ⟨#[]⟩)
 b3:w.cell? ⟨2,3,none⟩=some (.string ⟨#[]⟩)
 b4:w.cell? ⟨2,4,none⟩=some (.string ⟨#[]⟩)
 b5:w.cell? ⟨2,5,none⟩=some (.string ⟨#[]⟩)
 h0:w.cell? ⟨3,0,none⟩=some (.int .i64 (-9))
 h1:w.cell? ⟨3,1,none⟩=some (.int .i64 0)
 h2:w.cell? ⟨3,2,none⟩=some (.string ⟨#[]⟩)
def yB(hb:Bl w w')(h:w.cell? ⟨b,i,none⟩=some v):w'.cell? ⟨b,i,none⟩=some v:=
 ce hb (bI _ _ h) h
def kS.nu:ue kS:=⟨fun _ _ hb h=>⟨yB hb h.s0,yB hb h.s1,yB hb h.b0,yB hb h.b1,yB hb h.b2,yB hb h.b3,yB hb h.b4,yB hb h.b5,yB hb h.h0,yB hb h.h1,yB hb h.h2⟩⟩
abbrev kU:S2:=⟨⟨#[109,97,114,107]⟩,⟨#[]⟩⟩
abbrev mG:B6:=⟨-9,0,⟨#[]⟩,⟨#[]⟩,⟨#[]⟩,⟨#[]⟩⟩
abbrev kV:H3:=⟨-9,0,⟨#[]⟩⟩
def Tryz.yG:(prog.info? 26).map (·.size)=some 3:=kK
def T8(j k l:Vx)(c1 c2 c3:Nat)(d:Ad)(f:Ap)(g:Ak)(w:Vz)(N:kS w)(O:eO S2.cells w j c1 d)(hb:eO B6.cells w k c2 f)(Q:eO H3.cells w l c3 g)(n1:d.length<=1048576)(U:f.length<=1048576)(V:g.length<=1048576):
 Calls prog 5 #[.agg #[.slice j d.length c1,.slice k f.length c2,.slice l g.length c3]] w fun e w'=>∃p q r,e=.returned (.agg #[.slice (some ⟨p,0,none⟩) d.length (d.length+3),.slice (some ⟨q,0,none⟩) f.length (f.length+3),.slice (some ⟨r,0,none⟩) g.length (g.length+3)])/\
  eO S2.cells w' (some ⟨p,0,none⟩) (d.length+3) (d++ [kU,kU,kU])/\eO B6.cells w' (some ⟨q,0,none⟩) (f.length+3) (f++ [mG,mG,mG])/\eO H3.cells w' (some ⟨r,0,none⟩) (g.length+3) (g++ [kV,kV,kV])/\Below w.heap.size w w':=by
 obtain⟨R,u,S,x⟩:=Ic O hb Q N;clear O hb Q N;go_enter func5,ntmps5;go_wp2_with fail;obtain⟨W,hW⟩:=nm ((w.alloc (.cells #[.slice j d.length c1,.slice k f.length c2,.slice l g.length c3] 26)).alloc (.cells #[.slice none 0 0,.slice none 0 0,.slice none 0 0] 26));have y:Bl w W:=by rw[<-hW];exact lN w _ _
 have z:SB W w.heap.size 26 #[.slice j d.length c1,.slice k f.length c2,.slice l g.length c3]:=by rw[<-hW];exact(cK w _ _).alloc _
 have A:SB W (w.heap.size+1) 26 #[.slice none 0 0,.slice none 0 0,.slice none 0 0]:=by rw[<-hW];exact xE w _ _ _ _
 rw[hW];have b:=
  Hi (((((nN.start w).put (P:=kS) x.o kS.nu).below y).put (P:=fun v=>SB v (w.heap.size+1) 26 #[.slice none 0 0,.slice none 0 0,.slice none 0 0]) A (SB.nu _ _ _)).put (P:=fun v=>SB v w.heap.size 26 #[.slice j d.length c1,.slice k f.length c2,.slice l g.length c3]) z (SB.nu _ _ _))
 have X:w.heap.size+1≠w.heap.size:=oO;have Y:w.heap.size+1≠1:=by have:=bI _ _ x.o.s0;simp only at this;omega
 have Z:w.heap.size+1≠2:=by have:=bI _ _ x.o.b0;simp only at this;omega
 have aa:w.heap.size+1≠3:=by have:=bI _ _ x.o.h0;simp only at this;omega
 have ab:w.heap.size≠0:=by have:=bI _ _ x.o.s0;simp only at this;omega
 clear hW y z A;obtain⟨C,x1,x2⟩:=lQ (b.o.get (fun v=>SB v w.heap.size 26 #[.slice j d.length c1,.slice k f.length c2,.slice l g.length c3]) (by
  (repeat(first|exact mH|apply mT))
  skip))
 obtain⟨D,y1,y2,y3,E,F,G,H,I,J,t⟩:=b.o.get kS (by
  (repeat(first|exact mH|apply mT))
  skip)
 have a:=b.o.get (fun v=>SB v (w.heap.size+1) 26 #[.slice none 0 0,.slice none 0 0,.slice none 0 0]) (by
  (repeat(first|exact mH|apply mT))
  skip)
 obtain⟨K,L,M⟩:=lQ a;have f0:=a.free 0;have f1:=a.free 1;have f2:=a.free 2;clear a;go_region_held3 (fun v=>v.cell? ⟨w.heap.size,0,none⟩=some (.slice j d.length c1)/\v.cell? ⟨w.heap.size,1,none⟩=some (.slice k f.length c2)/\v.cell? ⟨w.heap.size,2,none⟩=some (.slice l g.length c3)/\v.cell? ⟨1,0,none⟩=some (.string ⟨#[109,97,114,107]⟩)/\v.cell? ⟨1,1,none⟩=some (.string ⟨#[]⟩)/\v.cell? ⟨2,0,none⟩=some (.int .i64 (-9))/\v.cell? ⟨2,1,none⟩=some (.int .i64 0)/\v.cell? ⟨2,2,none⟩=some (.string ⟨#[]⟩)/\v.cell? ⟨2,3,none⟩=some (.string ⟨#[]⟩)/\v.cell? ⟨2,4,none⟩=some (.string ⟨#[]⟩)/\v.cell? ⟨2,5,none⟩=some (.string ⟨#[]⟩)/\v.cell? ⟨3,0,none⟩=some (.int .i64 (-9))/\v.cell? ⟨3,1,none⟩=some (.int .i64 0)/\v.cell? ⟨3,2,none⟩=some (.string ⟨#[]⟩)) ((first|(simp [*];done)|go_keep)) (first
  |
   (go_at_call_of 28 (Value.slice j d.length c1)
    apply cM;apply VE j c1 d;(first|exact R.o.below b.o.base|exact R.o.below b.o.base.drew);exact n1;rintro e T ⟨p,h,rfl,c,i⟩;have m:w.heap.size+1≠p:=by
     have B:=(b.o.get (fun v=>SB v (w.heap.size+1) 26 #[.slice none 0 0,.slice none 0 0,.slice none 0 0]) (by
      (repeat(first|exact mH|apply mT))
      skip)).lt
     try simp only[Fk]at h
     omega
    have s:=Hi (((by first|exact b.o|exact b.o.drew:nN w _ _).below i).put (P:=fun v=>eO S2.cells v (some ⟨p,0,none⟩) (d.length+3) (d++ [kU,kU,kU])) c (eO.nu _ _ _ _));clear b c i h;have b:=s;clear s;obtain⟨C,x1,x2⟩:=lQ (b.o.get (fun v=>SB v w.heap.size 26 #[.slice j d.length c1,.slice k f.length c2,.slice l g.length c3]) (by
     (repeat(first|exact mH|apply mT))
     skip))
    obtain⟨D,y1,y2,y3,E,F,G,H,I,J,t⟩:=b.o.get kS (by
     (repeat(first|exact mH|apply mT))
     skip)
    have a:=b.o.get (fun v=>SB v (w.heap.size+1) 26 #[.slice none 0 0,.slice none 0 0,.slice none 0 0]) (by
     (repeat(first|exact mH|apply mT))
     skip)
    obtain⟨K,L,M⟩:=lQ a;have f0:=a.free 0;have f1:=a.free 1;have f2:=a.free 2;clear a
    skip)
  |
   (go_at_call_of 29 (Value.slice k f.length c2)
    apply cM;apply VD k c2 f;(first|exact u.o.below b.o.base|exact u.o.below b.o.base.drew);exact U;rintro e T ⟨q,h,rfl,c,i⟩;have n:w.heap.size+1≠q:=by
     have B:=(b.o.get (fun v=>SB v (w.heap.size+1) 26 #[.slice none 0 0,.slice none 0 0,.slice none 0 0]) (by
      (repeat(first|exact mH|apply mT))
      skip)).lt
     try simp only[Fk]at h
     omega
    have s:=Hi (((by first|exact b.o|exact b.o.drew:nN w _ _).below i).put (P:=fun v=>eO B6.cells v (some ⟨q,0,none⟩) (f.length+3) (f++ [mG,mG,mG])) c (eO.nu _ _ _ _));clear b c i h;have b:=s;clear s;obtain⟨C,x1,x2⟩:=lQ (b.o.get (fun v=>SB v w.heap.size 26 #[.slice j d.length c1,.slice k f.length c2,.slice l g.length c3]) (by
     (repeat(first|exact mH|apply mT))
     skip))
    obtain⟨D,y1,y2,y3,E,F,G,H,I,J,t⟩:=b.o.get kS (by
     (repeat(first|exact mH|apply mT))
     skip)
    have a:=b.o.get (fun v=>SB v (w.heap.size+1) 26 #[.slice none 0 0,.slice none 0 0,.slice none 0 0]) (by
     (repeat(first|exact mH|apply mT))
     skip)
    obtain⟨K,L,M⟩:=lQ a;have f0:=a.free 0;have f1:=a.free 1;have f2:=a.free 2;clear a
    skip)
  |
   (go_at_call_of 30 (Value.slice l g.length c3)
    apply cM;apply VC l c3 g;(first|exact S.o.below b.o.base|exact S.o.below b.o.base.drew);exact V;rintro e T ⟨r,h,rfl,c,i⟩;have Bs:w.heap.size+1≠r:=by
     have B:=(b.o.get (fun v=>SB v (w.heap.size+1) 26 #[.slice none 0 0,.slice none 0 0,.slice none 0 0]) (by
      (repeat(first|exact mH|apply mT))
      skip)).lt
     try simp only[Fk]at h
     omega
    have s:=Hi (((by first|exact b.o|exact b.o.drew:nN w _ _).below i).put (P:=fun v=>eO H3.cells v (some ⟨r,0,none⟩) (g.length+3) (g++ [kV,kV,kV])) c (eO.nu _ _ _ _));clear b c i h;have b:=s;clear s;obtain⟨C,x1,x2⟩:=lQ (b.o.get (fun v=>SB v w.heap.size 26 #[.slice j d.length c1,.slice k f.length c2,.slice l g.length c3]) (by
     (repeat(first|exact mH|apply mT))
     skip))
    obtain⟨D,y1,y2,y3,E,F,G,H,I,J,t⟩:=b.o.get kS (by
     (repeat(first|exact mH|apply mT))
     skip)
    have a:=b.o.get (fun v=>SB v (w.heap.size+1) 26 #[.slice none 0 0,.slice none 0 0,.slice none 0 0]) (by
     (repeat(first|exact mH|apply mT))
     skip)
    obtain⟨K,L,M⟩:=lQ a;have f0:=a.free 0;have f1:=a.free 1;have f2:=a.free 2;clear a
    skip)
  )
 go_wp2;have a:=b.o.get (fun v=>SB v (w.heap.size+1) 26 #[.slice none 0 0,.slice none 0 0,.slice none 0 0]) (by
  (repeat(first|exact mH|apply mT))
  skip)
 have r1:=b.o.get (fun v=>eO S2.cells v (some ⟨p,0,none⟩) (d.length+3) (d++ [kU,kU,kU])) (by
  (repeat(first|exact mH|apply mT))
  skip)
 have r2:=b.o.get (fun v=>eO B6.cells v (some ⟨q,0,none⟩) (f.length+3) (f++ [mG,mG,mG])) (by
  (repeat(first|exact mH|apply mT))
  skip)
 have r3:=b.o.get (fun v=>eO H3.cells v (some ⟨r,0,none⟩) (g.length+3) (g++ [kV,kV,kV])) (by
  (repeat(first|exact mH|apply mT))
  skip)
 have hB:=b.o.base;refine bK (v:=.agg #[.slice (some ⟨p,0,none⟩) d.length (d.length+3),.slice (some ⟨q,0,none⟩) f.length (f.length+3),.slice (some ⟨r,0,none⟩) g.length (g.length+3)]) (bG rfl _ _ (w.heap.size+1) 26 #[.slice (some ⟨p,0,none⟩) d.length (d.length+3),.slice (some ⟨q,0,none⟩) f.length (f.length+3),.slice (some ⟨r,0,none⟩) g.length (g.length+3)] (0,0) _ rfl (((a.set 0 _).set 1 _).set 2 _) underlying26 rfl Tryz.yG) rfl ?_;exact⟨p,q,r,rfl,((r1.Cu m).Cu m).Cu m,((r2.Cu n).Cu n).Cu n,((r3.Cu Bs).Cu Bs).Cu Bs,((hB.setCell (dU _) _).setCell (dU _) _).setCell (dU _) _⟩
structure qG (w:Vz) (g1 g2 g3:Nat) (js:Ad) (bs:Ap) (hs:Ak):Prop where
 j:eO S2.cells w (some ⟨g1,0,none⟩) (js.length+3) (js++ [kU,kU,kU])
 b:eO B6.cells w (some ⟨g2,0,none⟩) (bs.length+3) (bs++ [mG,mG,mG])
 h:eO H3.cells w (some ⟨g3,0,none⟩) (hs.length+3) (hs++ [kV,kV,kV])
def qG.below{a c d:Nat}{g:Ak}(h:qG w a c d e f g)(hb:Bl w w'):qG w' a c d e f g:=⟨h.j.below hb,h.b.below hb,h.h.below hb⟩
structure ja (w:Vz) (a1 a2 a3:Vx) (c1 c2 c3:Nat) (js:Ad) (bs:Ap) (hs:Ak):Prop where
 j:eO S2.cells w a1 c1 js
 b:eO B6.cells w a2 c2 bs
 h:eO H3.cells w a3 c3 hs
def ja.below{a c d:Vx}{c1 c2 c3:Nat}{g:Ak}(h:ja w a c d c1 c2 c3 e f g)(hb:Bl w w'):ja w' a c d c1 c2 c3 e f g:=⟨h.j.below hb,h.b.below hb,h.h.below hb⟩
def qG.row{e f:Nat}{a:Ad}{c:Ap}{d:Ak}(h:qG w e f g a c d):ja w (some ⟨e,0,none⟩) (some ⟨f,0,none⟩) (some ⟨g,0,none⟩) (a.length+3) (c.length+3) (d.length+3) a c d:=⟨h.j.left,h.b.left,h.h.left⟩
def Ol(E F G:Nat)(H I J:Vx)(c1 c2 c3:Nat)(k:Ad)(l:Ap)(m:Ak)(w:Vz)(P:kS w)(hl:qG w E F G k l m)(Q:ja w H I J c1 c2 c3 k l m)(n1:k.length<=1048576)(R:l.length<=1048576)(S:m.length<=1048576):
 Calls prog 23 #[.agg #[.slice (some ⟨E,0,none⟩) k.length (k.length+3),.slice (some ⟨F,0,none⟩) l.length (l.length+3),.slice (some ⟨G,0,none⟩) m.length (m.length+3)],.agg #[.slice H k.length c1,.slice I l.length c2,.slice J m.length c3]] w fun e w'=>e=.returned (.bool true)/\Below w.heap.size w w':=by
 obtain⟨K,L,T⟩:=Ib hl Q P;clear hl Q P;go_enter func23,ntmps23;obtain⟨W,hW⟩:=nm ((w.alloc (.cells #[.slice (some ⟨E,0,none⟩) k.length (k.length+3),.slice (some ⟨F,0,none⟩) l.length (l.length+3),.slice (some ⟨G,0,none⟩) m.length (m.length+3)] 26)).alloc (.cells #[.slice H k.length c1,.slice I l.length c2,.slice J m.length c3] 26));have a:=Ub hW;have f:=Ud hW;have g:=Ue hW;have n:=Hi (kS.nu.step _ _ a.o T.o);have M:O (Bl W W):=Hi bR;obtain⟨p,x1,x2⟩:=lQ (f.o.below M.o f.o.lt);obtain⟨q,y1,y2⟩:=lQ (g.o.below M.o g.o.lt);obtain⟨m0,r,s,t,u,v,x,y,z,A,i⟩:=kS.nu.step _ _ M.o n.o;rw[<-hW]at p x1 x2 q y1 y2 m0 r s t u v x y z A i;have U:=Hi hW;clear hW;go_wp2_with fail;rw[U.o];clear p x1 x2 q y1 y2 m0 r s t u v x y z A i;go_fit (Rl E H c1 k _ _ W (K.o.j.below a.o) (L.o.j.below a.o) n1);rintro e w1 ⟨rfl,B⟩;have c:=Hi B;clear B;obtain⟨p,x1,x2⟩:=lQ (f.o.below c.o f.o.lt);obtain⟨q,y1,y2⟩:=lQ (g.o.below c.o g.o.lt);obtain⟨m0,r,s,t,u,v,x,y,z,A,i⟩:=kS.nu.step _ _ c.o n.o;go_wp2_with fail;clear p x1 x2 q y1 y2 m0 r s t u v x y z A i;go_fit (Rk F I c2 l _ _ _ _ _ _ w1 ((K.o.b.below a.o).below c.o) ((L.o.b.below a.o).below c.o) R);rintro e w2 ⟨rfl,C⟩;have d:=Hi (c.o.trans (C.mono c.o.size));clear C;obtain⟨p,x1,x2⟩:=lQ (f.o.below d.o f.o.lt);obtain⟨q,y1,y2⟩:=lQ (g.o.below d.o g.o.lt);obtain⟨m0,r,s,t,u,v,x,y,z,A,i⟩:=kS.nu.step _ _ d.o n.o;go_wp2_with fail;clear p x1 x2 q y1 y2 m0 r s t u v x y z A i;go_fit (Rj G J c3 m _ _ _ w2 ((K.o.h.below a.o).below d.o) ((L.o.h.below a.o).below d.o) S);rintro e V ⟨rfl,D⟩;have N:=Hi (d.o.trans (D.mono d.o.size));clear D;go_wp2;go_ret;exact⟨rfl,a.o.trans (N.o.mono a.o.size)⟩
def jq.nu:ue jq:=⟨fun _ _ hb h=>h.below hb⟩
def qG.nu(a b c:Nat)(d:Ad)(e:Ap)(f:Ak):ue (fun w=>qG w a b c d e f):=⟨fun _ _ hb h=>h.below hb⟩
def ja.nu(a b c:Vx)(c1 c2 c3:Nat)(d:Ad)(e:Ap)(f:Ak):ue (fun w=>ja w a b c c1 c2 c3 d e f):=⟨fun _ _ hb h=>h.below hb⟩
def nN.jP(h:nN w0 w L)(k:Nat)(e:L[k]?=some P):P w:=h.get P (mO e)
def nN.add(h:nN w0 w L)(b:P w)(c:ue P):nN w0 w (L++ [P]):=
 ⟨h.base,fun Q a=>by
   rcases bD.1 a with a|a
   . exact h.ps Q a
   . obtain rfl:=bE.1 a
     exact⟨b,c⟩⟩
def SV{q:Rat}(h:¬q=0):lJ q.num=if q.num<0 then -1 else 1:=by
 have b:q.num≠0:=fun c=>h (jA.1 c)
 unfold lJ;by_cases a:q.num<0
 . rw[aN a,aN a]
 . rw[aH a,aH a,aH b]
def SU{q:Rat}(k:eF w v q):Calls prog 140 #[v] w fun e w'=>e=.returned (.int .i64 (lJ q.num))/\Below w.heap.size w w':=by
 have u:=Hi k;obtain⟨neg,a,n,c,b,m,d,rfl,k⟩:=k;have p:=Hi k.neg;clear k;go_enter func140,ntmps140;go_wp2_with fail;obtain⟨W,hW⟩:=nm (w.alloc (.cells #[.bool neg,.slice a n c,.slice b m d] 99));have f:=Ua hW;have l:=Uc hW;rw[hW];clear hW;go_fit (EM (u.o.below f.o));rintro e w1 ⟨rfl,g⟩;obtain⟨x,-⟩:=zc (l.o.below g l.o.lt);have i:=Hi (f.o.trans (g.mono f.o.size));clear g;by_cases h:q=0
 . have s:=dC h;rw[s];go_wp2;go_ret;exact⟨by rw[h];rfl,i.o⟩
 .
  have s:=bS h;rw[s];have j:=SV h;by_cases r:q.num<0
  . obtain rfl:neg=true:=by rw[p.o];exact dC r
    rw[aN r]at j;have t:=Hi j;clear j p;go_wp2;go_ret;exact⟨by rw[t.o];rfl,i.o⟩
  . obtain rfl:neg=false:=by rw[p.o];exact bS r
    rw[aH r]at j;have t:=Hi j;clear j p;go_wp2;go_ret;exact⟨by rw[t.o];rfl,i.o⟩
def iH.yE{L:Ah}(h:iH w0 w L)(a:⟨x1,x2,x3,p,j⟩∈ L):
 Calls prog 140 #[.agg #[x1,x2,x3]] w (fun e w'=>e=.returned (.int .i64 (lJ p.num))/\iH w0 w' L):=by
 obtain⟨a,b,c⟩:=h.get a;refine(SU a).mono ?_;rintro e w' ⟨rfl,hb⟩;exact⟨rfl,h.below hb⟩
def iH.A9{L:Ah}{y1 y2 y3:Ac}{q:Rat}{b:Bool}(h:iH w0 w L)(a:⟨x1,x2,x3,p,j⟩∈ L)(c:⟨y1,y2,y3,q,k⟩∈ L)(d:decide (p=q)=b):
 Calls prog 186 #[.agg #[x1,x2,x3],.agg #[y1,y2,y3]] w (fun e w'=>e=.returned (.bool b)/\iH w0 w' L):=d ▸ h.equal a c
def qn(n:Nat)(k:Int):Prop:=0<=k/\k<n
def GG(a:Vx)(n c:Nat)(k:Int)(w:Vz)(h:qn n k):Calls prog 86 #[.slice a n c,.int .i64 k] w fun e w'=>e=.returned (.bool true)/\w'=w:=by obtain⟨b,d⟩:=h;go_enter func86,ntmps86;go_wp2;go_ret;exact⟨by simp[b,d],rfl⟩
def Hy(a:Vx)(n c:Nat)(k:Int)(w:Vz)(h:¬qn n k):Calls prog 86 #[.slice a n c,.int .i64 k] w fun e w'=>e=.returned (.bool false)/\w'=w:=by
 by_cases d:0<=k
 . have b:¬(k<(n:Int)):=fun b=>h ⟨d,b⟩
   go_enter func86,ntmps86;go_wp2;go_ret;exact⟨by simp<;>omega,rfl⟩
 . have b:=bS d;go_enter func86,ntmps86;go_wp2;go_ret;exact⟨by simp<;>omega,rfl⟩
def SS(i j t0 t1:Vs)(q r s t:Rat)(w:Vz)(z:jq w)(K:i.size<=1048576)(L:j.size<=1048576)(M:t0.size<=1048576)(N:t1.size<=1048576)(A:il i.data.toList q)(B:il j.data.toList r)(C:il t0.data.toList s)(D:il t1.data.toList t):
 Calls prog 139 #[.agg #[.string i,.string j],.agg #[.string t0,.string t1]] w fun e w'=>e=.returned (.bool (decide (q=s/\r=t)))/\Below w.heap.size w w':=by
 obtain⟨b1,u⟩:∃b,decide (q=s)=b:=⟨_,rfl⟩;obtain⟨b2,x⟩:∃b,decide (r=t)=b:=⟨_,rfl⟩;rw[Bool.decide_and,u,x];obtain⟨k,l⟩:=Ia u x;clear u x;obtain⟨I,E,F,G,H⟩:=Id z A B C D;clear z A B C D;go_enter func139,ntmps139;go_wp2_with fail;obtain⟨W,hW⟩:=nm ((w.alloc (.cells #[.string i,.string j] 34)).alloc (.cells #[.string t0,.string t1] 34));have h:=Ub hW;have d:=Ud hW;have f:=Ue hW;rw[hW];have c:=Hi (FR (I.o.below h.o));clear hW;obtain⟨m,k1,-⟩:=zc (d.o.below c.o.base d.o.lt);obtain⟨k2,p,-⟩:=zc (f.o.below c.o.base f.o.lt);cases b1
 case' false=>
  first
   |(
    go_region_with (first
     |(
      go_at_call 53;apply cM;apply zT (w0:=W) (n:=1048576);(focus(first|exact c.o|exact c.o.drew));assumption;decide;rintro e y ⟨J,g,x1,x2,x3,rfl,a⟩
      first|obtain rfl:=E.o.inj g|obtain rfl:=F.o.inj g|obtain rfl:=G.o.inj g|obtain rfl:=H.o.inj g
      clear c;have c:=Hi a;clear g a;obtain⟨m,k1,-⟩:=zc (d.o.below c.o.base d.o.lt);obtain⟨k2,p,-⟩:=zc (f.o.below c.o.base f.o.lt)
      skip)
     |(
      go_at_call 186;apply cM;apply iH.A9 (w0:=W);(focus(first|exact c.o|exact c.o.drew));(repeat(first|exact mH|apply mT))
      first|exact k.o|exact l.o
      rintro e y ⟨rfl,a⟩;clear c;have c:=Hi a;clear a;obtain⟨m,k1,-⟩:=zc (d.o.below c.o.base d.o.lt);obtain⟨k2,p,-⟩:=zc (f.o.below c.o.base f.o.lt)
      skip)
     ))
   |fail
 case' true=>
  cases b2
  all_goals
   first
    |(
     go_region_held3 (fun v=>v.cell? ⟨w.heap.size,0,none⟩=some (.string i)/\v.cell? ⟨w.heap.size,1,none⟩=some (.string j)/\v.cell? ⟨w.heap.size+1,0,none⟩=some (.string t0)/\v.cell? ⟨w.heap.size+1,1,none⟩=some (.string t1)) ((first|(simp [*];done)|go_keep)) (first
      |(
       go_at_call 53;apply cM;apply zT (w0:=W) (n:=1048576);(focus(first|exact c.o|exact c.o.drew));assumption;decide;rintro e y ⟨J,g,x1,x2,x3,rfl,a⟩
       first|obtain rfl:=E.o.inj g|obtain rfl:=F.o.inj g|obtain rfl:=G.o.inj g|obtain rfl:=H.o.inj g
       clear c;have c:=Hi a;clear g a;obtain⟨m,k1,-⟩:=zc (d.o.below c.o.base d.o.lt);obtain⟨k2,p,-⟩:=zc (f.o.below c.o.base f.o.lt)
       skip)
      |(
       go_at_call 186;apply cM;apply iH.A9 (w0:=W);(focus(first|exact c.o|exact c.o.drew));(repeat(first|exact mH|apply mT))
       first|exact k.o|exact l.o
       rintro e y ⟨rfl,a⟩;clear c;have c:=Hi a;clear a;obtain⟨m,k1,-⟩:=zc (d.o.below c.o.base d.o.lt);obtain⟨k2,p,-⟩:=zc (f.o.below c.o.base f.o.lt)
       skip)
      ))
    |fail
 all_goals
  go_wp2;go_ret;exact⟨rfl,h.o.trans (c.o.base.mono h.o.size)⟩
def vq(p q:S2)(b:B6)(c:Int):Prop:=
 ∃px py qx qy vc vl vm,il p.x.data.toList px/\il p.y.data.toList py/\il q.x.data.toList qx/\il q.y.data.toList qy/\il b.c.data.toList vc/\il b.l.data.toList vl/\il b.m.data.toList vm/\
  c=if px=qx/\py=qy then 5 else if lJ vc.num<=0∨0<lJ vl.num∨lJ vm.num<0 then 5 else 0
def jc(js:Ad)(b:B6)(c:Int):Prop:=
 (¬(qn js.length b.a/\qn js.length b.b)/\c=4)∨
 (qn js.length b.a/\qn js.length b.b/\∃p q,js[b.a.toNat]?=some p/\js[b.b.toNat]?=some q/\vq p q b c)
def vq.inj{p q:S2}{b:B6}(h:vq p q b c)(k:vq p q b d):c=d:=by obtain⟨A,B,C,D,E,F,G,a,e,f,g,i,j,l,rfl⟩:=h;obtain⟨m,n,o,r,s,t,u,k1,k2,v,w,x,y,z,rfl⟩:=k;obtain rfl:=a.inj k1;obtain rfl:=e.inj k2;obtain rfl:=f.inj v;obtain rfl:=g.inj w;obtain rfl:=i.inj x;obtain rfl:=j.inj y;obtain rfl:=l.inj z;rfl
def jc.inj{g:Ad}{b:B6}(h:jc g b c)(k:jc g b d):c=d:=by
 rcases h with ⟨f,rfl⟩|⟨f,i,p,q,j,l,m⟩
 .
  rcases k with ⟨_,rfl⟩|⟨k1,k2,_⟩
  . rfl
  . exact absurd ⟨k1,k2⟩ f
 .
  rcases k with ⟨k1,_⟩|⟨_,_,o,r,a,e,n⟩
  . exact absurd ⟨f,i⟩ k1
  . rw[j]at a;rw[l]at e;cases a;cases e;exact m.inj n
structure jL (js:Ad) (bs:Ap) (hs:Ak):Prop where
 j:∀p,p∈ js->p.x.size<=1048576/\p.y.size<=1048576
 b:∀b,b∈ bs->b.c.size<=1048576/\b.e.size<=1048576/\b.l.size<=1048576/\b.m.size<=1048576
 h:∀x,x∈ hs->x.q.size<=1048576
def SR(a:Vx)(n cap:Nat)(b c:Int)(g i j l:Vs)(w:Vz)(m:¬(qn n b/\qn n c)):
 Calls prog 84 #[.slice a n cap,.agg #[.int .i64 b,.int .i64 c,.string g,.string i,.string j,.string l]] w fun e w'=>e=.returned (.int .i64 4)/\Below w.heap.size w w':=by
 rcases(show qn n b/\¬qn n c∨¬qn n b from Classical.byCases (fun h:qn n b=>.inl ⟨h,fun k=>m ⟨h,k⟩⟩) .inr) with ⟨h1,h2⟩|h1
 all_goals
  have p:=Hi h1
  try have q:=Hi h2
  try clear h2
  clear h1 m;go_enter func84,ntmps84;obtain⟨W,hW⟩:=nm (w.alloc (.cells #[.int .i64 b,.int .i64 c,.string g,.string i,.string j,.string l] 72));have f:=Ua hW;have d:=Uc hW;have r:O (Bl W W):=Hi bR;obtain⟨s,k1,k2,t,u,v,-⟩:=zc (d.o.below r.o d.o.lt);rw[<-hW]at s k1 k2 t u v;have x:=Hi hW;clear hW;go_wp2_with fail
  first
   |(
    go_fit (GG a n cap b _ p.o);rintro e w1 ⟨rfl,rfl⟩;go_wp2_with fail
    go_fit (Hy a n cap c _ q.o))
   |go_fit (Hy a n cap b _ p.o)
  rintro e w2 ⟨rfl,rfl⟩;go_wp2;go_ret;exact⟨rfl,by rw[x.o];exact f.o⟩
def SQ(a:Vx)(cap j k:Nat)(m:Ad)(p q:S2)(G be H I:Vs)(r s t u R S T:Rat)(w:Vz)(hg:jq w)(hj:eO S2.cells w a cap m)(U:m[j]?=some p)(h:m[k]?=some q)(z1:p.x.size<=1048576/\p.y.size<=1048576)(z2:q.x.size<=1048576/\q.y.size<=1048576)(z3:G.size<=1048576/\H.size<=1048576/\I.size<=1048576)(q1:il p.x.data.toList r)(q2:il p.y.data.toList s)(q3:il q.x.data.toList t)(q4:il q.y.data.toList u)(q5:il G.data.toList R)(q6:il H.data.toList S)(q7:il I.data.toList T):
 Calls prog 84 #[.slice a m.length cap,.agg #[.int .i64 j,.int .i64 k,.string G,.string be,.string H,.string I]] w fun e w'=>e=.returned (.int .i64 (if r=t/\s=u then 5 else if lJ R.num<=0∨0<lJ S.num∨lJ T.num<0 then 5 else 0))/\Below w.heap.size w w':=by
 have V:=Hi z3;clear z3;obtain⟨J,z⟩:=nm (lJ R.num);obtain⟨N,A⟩:=nm (lJ S.num);obtain⟨X,B⟩:=nm (lJ T.num);rw[z,A,B];obtain⟨SC,SL,SM⟩:=Ib z A B;clear z A B;have gg:∀v:Int,(if r=t/\s=u then 5 else if J<=0∨0<N∨X<0 then 5 else 0)=v->decide (r=t/\s=u)=true/\v=5∨decide (r=t/\s=u)=false/\(J<=0/\v=5∨¬J<=0/\0<N/\v=5∨¬J<=0/\¬0<N/\X<0/\v=5∨¬J<=0/\¬0<N/\¬X<0/\v=0):=by
  intro v P;by_cases l:r=t/\s=u
  . rw[aN l]at P
    exact .inl ⟨dC l,P.symm⟩
  . rw[aH l]at P;refine .inr ⟨bS l,?_⟩
    split at P<;>omega
 rcases gg _ rfl with ⟨Y,e⟩|⟨Y,⟨c1,e⟩|⟨c1,c2,e⟩|⟨c1,c2,c3,e⟩|⟨c1,c2,c3,e⟩⟩
 all_goals
  rw[e];have HD:=Hi Y;clear Y e gg;obtain⟨Z,HJ,HP,HQ,Z1,Z2,Q1,Q2,Q3⟩:=Ih hg hj U h z1 z2 q1 q2 q3;obtain⟨Q4,Q5,Q6,Q7⟩:=Ic q4 q5 q6 q7;have i1:((0:Int)<=(j:Int)):=oO;have i2:((0:Int)<=(k:Int)):=oO;have i3:((j:Int)<(m.length:Int)):=oB ((gZ U).1);have i4:((k:Int)<(m.length:Int)):=oB ((gZ h).1);clear hg hj U h z1 z2 q1 q2 q3 q4 q5 q6 q7;go_enter func84,ntmps84;obtain⟨W,hW⟩:=nm (w.alloc (.cells #[.int .i64 (j:Int),.int .i64 (k:Int),.string G,.string be,.string H,.string I] 72));have f:=Ua hW;have c:=Uc hW;have HR:O (Bl W W):=Hi bR;obtain⟨C,k1,k2,D,E,F,-⟩:=zc (c.o.below HR.o c.o.lt);obtain⟨b1,Q,ha,l1,d0,d1⟩:=(HJ.o.below f.o).spot HP.o;obtain⟨b2,o2,aa,l2,d2,d3⟩:=(HJ.o.below f.o).spot HQ.o;subst ha;cases aa;rw[<-hW]at C k1 k2 D E F d0 d1 d2 d3;have HW:=Hi hW;clear hW;go_wp2_with fail;go_fit (GG _ m.length cap j _ ⟨i1,i3⟩);rintro e w1 ⟨rfl,rfl⟩;go_wp2_with fail;go_fit (GG _ m.length cap k _ ⟨i2,i4⟩);rintro e w2 ⟨rfl,rfl⟩;go_wp2_with fail;rw[HW.o];rw[HW.o]at C k1 k2 D E F d0 d1 d2 d3;go_region_held3 (fun v=>v.cell? ⟨w.heap.size,0,none⟩=some (.int .i64 j)/\v.cell? ⟨w.heap.size,1,none⟩=some (.int .i64 k)/\v.cell? ⟨b1,Q+j*2,none⟩=some (.string p.x)/\v.cell? ⟨b1,Q+j*2+1,none⟩=some (.string p.y)/\v.cell? ⟨b1,Q+k*2,none⟩=some (.string q.x)/\v.cell? ⟨b1,Q+k*2+1,none⟩=some (.string q.y)) ((first|(simp [*];done)|go_keep)) (first
   |(
    go_at_call 139;apply cM;apply SS p.x p.y q.x q.y r s t u;(first|exact Z.o.below f.o|exact Z.o.below f.o.drew);exact Z1.o.1;exact Z1.o.2;exact Z2.o.1;exact Z2.o.2;exact Q1.o;exact Q2.o;exact Q3.o;exact Q4.o;rintro e K ⟨rfl,L⟩;rw[HD.o];have g:O (Bl W K):=Hi ((bR.drew).trans L);have M:=Hi ((HJ.o.below f.o).below g.o);obtain⟨b3,o3,ab,l3,d0,d1⟩:=M.o.spot HP.o;obtain⟨b4,o4,ad,l4,d2,d3⟩:=M.o.spot HQ.o;cases ab;cases ad;obtain⟨C,k1,k2,D,E,F,-⟩:=zc (c.o.below g.o c.o.lt)
    clear L)
   )
  have d:=Hi (FR ((Z.o.below f.o).below g.o));go_wp2_with (first
   |
    (go_at_call_of 53 (Value.string G)
     apply cM;apply zT (w0:=K) (n:=1048576);(focus(first|exact d.o|exact d.o.drew));exact V.o.1;decide;rintro e wm ⟨qq,h,x1,x2,x3,rfl,b⟩;obtain rfl:=Q5.o.inj h;clear d;have d:=Hi b;clear h b;have i:=Hi (g.o.trans (d.o.base.mono g.o.size));obtain⟨C,k1,k2,D,E,F,-⟩:=zc (c.o.below i.o c.o.lt)
     clear i)
   |
    (go_at_call_of 53 (Value.string H)
     apply cM;apply zT (w0:=K) (n:=1048576);(focus(first|exact d.o|exact d.o.drew));exact V.o.2.1;decide;rintro e wm ⟨qq,h,x1,x2,x3,rfl,b⟩;obtain rfl:=Q6.o.inj h;clear d;have d:=Hi b;clear h b;have i:=Hi (g.o.trans (d.o.base.mono g.o.size));obtain⟨C,k1,k2,D,E,F,-⟩:=zc (c.o.below i.o c.o.lt)
     clear i)
   |
    (go_at_call_of 53 (Value.string I)
     apply cM;apply zT (w0:=K) (n:=1048576);(focus(first|exact d.o|exact d.o.drew));exact V.o.2.2;decide;rintro e wm ⟨qq,h,x1,x2,x3,rfl,b⟩;obtain rfl:=Q7.o.inj h;clear d;have d:=Hi b;clear h b;have i:=Hi (g.o.trans (d.o.base.mono g.o.size));obtain⟨C,k1,k2,D,E,F,-⟩:=zc (c.o.below i.o c.o.lt)
     clear i)
   |
    (go_at_call 140
     apply cM;apply iH.yE (w0:=K);(focus(first|exact d.o|exact d.o.drew));(repeat(first|exact mH|apply mT));rintro e wm ⟨rfl,b⟩;(first|rw[SC.o]|rw[SL.o]|rw[SM.o]);clear d;have d:=Hi b;clear b;have i:=Hi (g.o.trans (d.o.base.mono g.o.size));obtain⟨C,k1,k2,D,E,F,-⟩:=zc (c.o.below i.o c.o.lt)
     clear i)
   |fail)
  go_ret;exact⟨rfl,f.o.trans ((g.o.trans (d.o.base.mono g.o.size)).mono f.o.size)⟩
section
open Go.RowKit Go.MapKept
abbrev oI(p:AK):Value:=.agg #[.int .i64 p.1,.int .i64 p.2]
def N7:(prog.info? 3).map (fun i=>(i.zero,i.size,i.bytes))=some (some (.int .i64 0),1,8):=kK
def N6:prog.plainKey 3=true:=kK
def l7:prog.cellsOf 3=1:=kK
def Vm(b:Bool)(n:Nat)(p:AK)(w:Vz):(Instr.checkKey b (n+2) 177 (oI p)).run prog w=.ok () w:=by
 obtain⟨i,d,h⟩:=aZ.1 N7;simp only[fZ]at h;obtain⟨g,e,hb⟩:=h;have c:∀(v:Int)(w:Vz),(Instr.checkKey b (n+1) 3 (.int .i64 v)).run prog w=.ok () w:=fun v w=>Go.MapKept.run_checkKey (k:=.int .i64 v) underlying3 (by simp[IsKey]) b n
 have a:∀(j:Nat)(v:Ac)(w:Vz),#[Value.int .i64 p.1,.int .i64 p.2][j]?=some v->(part 3 #[.int .i64 p.1,.int .i64 p.2] j).run prog w=.ok v w:=fun j v w f=>run_part_plain w N6 f
 simp only[Instr.checkKey,BS,nS underlying177,BU];simp only[Std.Legacy.Range.forIn_eq_forIn_range',Std.Legacy.Range.size];simp[List.range',run_sizeOf _ d,e,c,l7,a 0 _ _ rfl,a 1 _ _ rfl]
def LM(b:Bool)(p:AK)(w:Vz):(Instr.checkKey b 10000 177 (oI p)).run prog w=.ok () w:=Vm b 9998 p w
def Vl(n:Nat)(p q:AK)(w:Vz):(Op.equalIn (n+2) 177 (oI p) (oI q)).run prog w=.ok (decide (p=q)) w:=by
 obtain⟨i,e,h⟩:=aZ.1 N7;rw[run_equalIn_array w (n+1) _ _ underlying177 e];have a:∀(r:AK)(j:Nat)(v:Ac) (w:Vz),#[Value.int .i64 r.1,.int .i64 r.2][j]?=some v->(part 3 #[.int .i64 r.1,.int .i64 r.2] j).run prog w=.ok v w:=fun r j v w f=>run_part_plain w N6 f
 have b:∀(x y:Int)(w:Vz),(Op.equalIn (n+1) 3 (.int .i64 x) (.int .i64 y)).run prog w=.ok (x == y) w:=by intro x y w;simp[Op.equalIn,nS underlying3]
 simp[List.range,List.range.loop,Op.eqItems,l7,a p 0 _ _ rfl,a p 1 _ _ rfl,a q 0 _ _ rfl,a q 1 _ _ rfl,b];obtain⟨g,k⟩:=p;obtain⟨l,m⟩:=q;by_cases c:g=l
 .
  by_cases d:k=m
  . simp[c,d]
  . simp[c,d]
 . simp[c]
def N5(p q:AK)(w:Vz):(Op.equal 177 (oI p) (oI q)).run prog w=.ok (decide (p=q)) w:=Vl 9998 p q w
def pS(es:AS)(ps:AN):Prop:=es.toList.map (fun e=>(e.key,e.val))=ps.map fun p=>(oI p,Value.agg #[])
theorem LL(p:AK)(w:Vz):∀(c:List MapEntry)(b:AN)(k:Nat),c.map (fun e=>(e.key,e.val))=b.map (fun p=>(oI p,Value.agg #[]))->
 ∃r:Option (Nat × Value),(Instr.findAsking 177 (oI p) c k).run prog w=.ok r w/\(p∈ b->∃j,r=some (j,.agg #[]))/\(p ∉ b->r=none)
 | [],b,k,h=>by have:b= []:=sU h.symm;subst this;exact⟨none,by simp[Instr.findAsking],sS,fun _=>rfl⟩
 |e :: c,[],k,h=>by simp at h
 |e :: c,q :: b,k,h=>by
  simp only[dY,iV,fZ]at h;obtain⟨⟨hk,g⟩,i⟩:=h;by_cases a:p=q
  . exact⟨some (k,.agg #[]),by simp[Instr.findAsking,hk,g,N5,a],fun _=>⟨k,rfl⟩,fun d=>absurd (by simp[a]) d⟩
  .
   obtain⟨r,l,m,n⟩:=LL p w c b (k+1) i;refine⟨r,?_,fun f=>m ?_,fun d=>n ?_⟩
   . simp only[Instr.findAsking,hk,BS,N5,BU,a,decide_false]
     simpa using l
   . rcases aY.1 f with h|h
     . exact absurd h a
     . exact h
   . intro f
     exact d (bU _ f)
def Vk:∀w,(zeroValue 178).run prog w=.ok (.agg #[]) w:=Tryz.zeroValue178
def Vj(r a:Nat)(b:AS)(c:AN)(p:AK)(w:Vz)(hb:w.heap[r]?=some (.map b a))(f:pS b c):
 (Instr.lookup 176 (.map (some r)) (oI p) true).run prog w=.ok (.tuple #[.agg #[],.bool (decide (p∈ c))]) w:=by
 obtain⟨x,g,h,i⟩:=LL p w b.toList c 0 f;have e:(Instr.findKey 177 (oI p) b.toList).run prog w=.ok x w:=by rw[run_findKey_eq w (by rw[underlying177])];exact g
 by_cases d:p∈ c
 . obtain⟨j,rfl⟩:=h d
   simp[Instr.lookup,nS underlying176,rK hb,LM,e,d]
 . obtain rfl:=i d
   simp[Instr.lookup,nS underlying176,rK hb,LM,e,d,Vk]
def Vi(r a:Nat)(b:AS)(c:AN)(p:AK)(w:Vz)(hb:w.heap[r]?=some (.map b a))(d:pS b c)(e:p ∉ c):
 (Instr.mapUpdate 176 (.map (some r)) (oI p) (.agg #[])).run prog w=.ok () { w with heap:=w.heap.setIfInBounds r (.map (b.push { key:=oI p,val:=.agg #[],born:=a }) (a+1)) }:=by
 obtain⟨x,f,i,g⟩:=LL p w b.toList c 0 d;have h:(Instr.findKey 177 (oI p) b.toList).run prog w=.ok x w:=by rw[run_findKey_eq w (by rw[underlying177])];exact f
 obtain rfl:=g e;simp[Instr.mapUpdate,nS underlying176,rK hb,LM,h,Go.MapKept.run_setObj_map _ hb,Result.andThen]
end
def qE(n:Nat)(j wy:Int)(tw:Bool):Int:=if 0<=j/\j<n then (if wy≠1/\wy≠2 then 3 else if tw=true then 7 else 0) else 4
def SP(a:Vx)(n cap:Nat)(j b:Int)(q:Vs)(g:Bool)(w:Vz):
 Calls prog 141 #[.slice a n cap,.agg #[.int .i64 j,.int .i64 b,.string q],.bool g] w fun e w'=>e=.returned (.int .i64 (qE n j b g))/\Below w.heap.size w w':=by
 unfold qE;by_cases f:qn n j
 case' pos=>
  rw[aN (show 0<=j/\j<(n:Int) from f)];by_cases c:b≠1/\b≠2
  case' pos=> rw[aN c];have i:(b != 1)=true:=sU c.1;have l:(b != 2)=true:=sU c.2
  case' neg=>
   rw[aH c];rcases(show (b != 1)=false∨(b != 1)=true/\(b != 2)=false by simp;omega) with i|⟨i,l⟩
   all_goals cases g
   all_goals first|rw[aN rfl]|rw[aH sS]
  all_goals clear c
 case' neg=> rw[aH (show ¬(0<=j/\j<(n:Int)) from f)]
 all_goals
  have k:=Hi f;clear f;go_enter func141,ntmps141;obtain⟨W,hW⟩:=nm (w.alloc (.cells #[.int .i64 j,.int .i64 b,.string q] 74));have h:=Ua hW;have d:SB W w.heap.size 74 #[.int .i64 j,.int .i64 b,.string q]:=by rw[<-hW];exact cK w _ _
  obtain⟨m,k1,k2,-⟩:=zc d;rw[<-hW]at m k1 k2;have p:=Hi hW;clear hW d;go_wp2_with fail
  first
   |go_fit (GG a n cap j _ k.o)
   |go_fit (Hy a n cap j _ k.o)
  rintro e w1 ⟨rfl,rfl⟩;go_wp2;go_ret;exact⟨rfl,by rw[p.o];exact h.o⟩
def li(hs:Ak):List (Int × Int):=hs.map fun h=>(h.j,h.w)
def jp(n:Nat)(hs:Ak)(k:Nat)(h:H3):Int:=qE n h.j h.w (decide ((h.j,h.w)∈ li (hs.take k)))
def oP(n m:Nat)(hs:Ak)(c at_:Int):Prop:=
 (∃k h,hs[k]?=some h/\(∀i x,i<k->hs[i]?=some x->jp n hs i x=0)/\jp n hs k h=c/\c≠0/\at_=m+k)∨
 ((∀i x,hs[i]?=some x->jp n hs i x=0)/\c=0/\at_=0)
def pS.push{a:AS}{c:AN}{p:AK}(h:pS a c):pS (a.push { key:=oI p,val:=.agg #[],born:=b }) (c++ [p]):=by unfold pS at*;rw[Array.toList_push,dH,h,dH];rfl
def SO{a:Ak}{h:H3}(hk:a[k]?=some h):li (a.take (k+1))=li (a.take k)++ [(h.j,h.w)]:=by unfold li;rw[jU,hk];simp
def Tryz.eZ:(prog.info? 41).map (·.size)=some 2:=kK
def iy:=@Tryz.eZ
def SN{o:Obj}(h:b≠r):({ w with heap:=w.heap.setIfInBounds r o }:World).heap[b]?=w.heap[b]?:=by simp[gG,h.symm]
def cE.map(o:Obj):cE r w { w with heap:=w.heap.setIfInBounds r o }:=⟨rfl,rfl,rfl,sS,fun k hk a=>SN a⟩
def SK{o:Obj}(h:r<w.heap.size):({ w with heap:=w.heap.setIfInBounds r o }:World).heap[r]?=some o:=by simp[gG,h]
def SJ(Z a2 a3:Vx)(n c1 m c2 c3:Nat)(g:Ak)(w:Vz)(hh:eO H3.cells w a3 c3 g)(hl:g.length<=20)(hm:m<=24):
 Calls prog 85 #[.agg #[.slice Z n c1,.slice a2 m c2,.slice a3 g.length c3]] w fun e w'=>∃c aa,e=.returned (.agg #[.int .i64 c,.int .i64 aa])/\oP n m g c aa/\Below w.heap.size w w':=by
 have HH:=Hi hh;clear hh;go_enter func85,ntmps85;obtain⟨W,hW⟩:=nm (((w.alloc (.cells #[.slice Z n c1,.slice a2 m c2,.slice a3 g.length c3] 26)).alloc (.cells #[.int .i64 0,.int .i64 0] 41)).alloc (.map #[] 0));have A:O (Bl w W):=Hi (by rw[<-hW];exact(lN w _ _).alloc sP _);have B:O (SB W w.heap.size 26 #[.slice Z n c1,.slice a2 m c2,.slice a3 g.length c3]):=Hi (by rw[<-hW];exact((cK w _ _).alloc _).alloc _);have ab:O (SB W (w.heap.size+1) 41 #[.int .i64 0,.int .i64 0]):=Hi (by rw[<-hW];exact(xE w _ _ _ _).alloc _);have ad:O (W.heap[w.heap.size+2]?=some (.map #[] 0)):=Hi (by
  rw[<-hW];have:=(Go.MapKept.heap_alloc ((w.alloc (.cells #[.slice Z n c1,.slice a2 m c2,.slice a3 g.length c3] 26)).alloc (.cells #[.int .i64 0,.int .i64 0] 41)) (.map #[] 0)).1
  simpa using this)
 obtain⟨-,-,k2,-⟩:=zc B.o;rw[<-hW]at k2;have HW:=Hi hW;have K:∀v:Vz,(Instr.makeMap 176 none).run prog v=.ok (.map (some v.heap.size)) (v.alloc (.map #[] 0)):=fun v=>rfl
 clear hW;go_wp2_with fail;rw[HW.o];clear k2 K;obtain⟨r,hr⟩:=nm (w.heap.size+1+1);have ax:w.heap.size+1<r:=oO;have ao:O (W.heap[r]?=some (.map #[] 0)):=Hi (by rw[<-hr];exact ad.o);rw[hr];clear hr ad;go_loopw [14] (fun iv wr=>∃(k:Nat)(F:AS)(a:Nat),k<=g.length/\iv=.int .i64 k/\(∀i x,i<k->g[i]?=some x->jp n g i x=0)/\pS F (li (g.take k))/\wr.heap[r]?=some (.map F a)/\cE r W wr) (fun iv _=>g.length - (intOf iv).toNat)
 case atStart=>exact⟨0,#[],0,oO,rfl,fun i x hi=>oO,rfl,ao.o,cX _ _⟩
 case round=>
  obtain⟨k,F,a,hk,rfl,G,ae,s,ho⟩:=hrel;obtain⟨t,L,H,HO,af⟩:=Id G ae s ho (A.o.trans (ho.below oO A.o.size));have ag:r<wr.heap.size:=by
   rcases bB r wr.heap.size with h|h
   . exact h
   . rw[dX h]at s
     cases s
  clear G ae s ho;by_cases ap:k<g.length
  .
   obtain⟨f,hf⟩:∃f,g[k]?=some f:=⟨g[k],gE ap⟩;obtain⟨fb,ay,rfl,az,d0,d1,d2⟩:=(HH.o.below af.o).sJ hf;have M:=Hi hf;obtain⟨V,hV⟩:=nm ((wr.alloc (.cells #[.int .i64 f.j,.int .i64 f.w,.string f.q] 74)).alloc (.cells #[.int .i64 f.j,.int .i64 f.w] 177));have u:Bl wr V:=by rw[<-hV];exact lN wr _ _
   have ah:=(u.block r ag).trans H.o;have y:(Instr.lookup 176 (.map (some r)) (.agg #[.int .i64 f.j,.int .i64 f.w]) true).run prog V=.ok (.tuple #[.agg #[],.bool (decide ((f.j,f.w)∈ li (g.take k)))]) V:=Vj r a F _ (f.j,f.w) V ah L.o;obtain⟨tw,N⟩:=nm (decide ((f.j,f.w)∈ li (g.take k)));rw[N,<-hV]at y;obtain⟨P,HV,a0⟩:=Ib N hV u;have q1:((k:Int)<(g.length:Int)):=oO;obtain⟨V3,C⟩:=nm (V.alloc (.cells #[] 178));have Q:Bl wr V3:=by rw[<-C];exact u.alloc u.size _
   have ai:=Hi Q;have z:=(B.o.only HO.o oO).below Q (B.o.only HO.o oO).lt;obtain⟨k0,k1,-⟩:=zc z;rw[<-C,<-hV]at k0 k1;have aj:=Hi C;clear hf N hV u ah C Q z;go_wp2_with fail;rw[HV.o,aj.o];clear k0 k1 y d0 d1 d2;obtain⟨Y,l⟩:=nm (qE n f.j f.w tw);have ak:=Hi (SP Z n c1 f.j f.w f.q tw V3);rw[l]at ak;have R:O (jp n g k f=Y):=Hi (by unfold jp;rw[P.o];exact l);clear l;go_fit ak.o;rintro e S ⟨rfl,T⟩;obtain⟨U,al⟩:=Ia (ai.o.trans (T.mono ai.o.size)) T;obtain⟨D,aq⟩:=Ia (HO.o.trans (qU U.o)) ((U.o.block r ag).trans H.o);have z:=B.o.only D.o oO;have d:=ab.o.only D.o oO;obtain⟨-,k1,-⟩:=zc z;obtain⟨z0,z1,-⟩:=zc d;have f0:=d.free 0;have f1:=d.free 1;have X:=Hi d;clear z d T;by_cases l:Y=0
   .
    subst l;have am:tw=false:=by
     cases tw with
     |false=>rfl
     |true=>
      exfalso
      have h:=R.o;unfold jp qE at h;rw[P.o]at h
      split at h
      . split at h
        . simp at h
        . simp at h
      . simp at h
    have I:=of_decide_eq_false (P.o.trans am);have an:(Instr.mapUpdate 176 (.map (some r)) (.agg #[.int .i64 f.j,.int .i64 f.w]) (.agg #[])).run prog S=.ok () { S with heap:=S.heap.setIfInBounds r (.map (F.push { key:=.agg #[.int .i64 f.j,.int .i64 f.w],val:=.agg #[],born:=a }) (a+1)) }:=Vi r a F _ (f.j,f.w) S aq.o L.o I;obtain⟨w5,E⟩:∃w5,({ S with heap:=S.heap.setIfInBounds r (.map (F.push { key:=.agg #[.int .i64 f.j,.int .i64 f.w],val:=.agg #[],born:=a }) (a+1)) }:World)=w5:=⟨_,rfl⟩;have ar:O (cE r W w5):=Hi (by rw[<-E];exact D.o.trans (cE.map _));have au:O (w5.heap[r]?=some (.map (F.push { key:=.agg #[.int .i64 f.j,.int .i64 f.w],val:=.agg #[],born:=a }) (a+1))):=Hi (by rw[<-E];exact SK (oB U.o.size));rw[E]at an;have hv:=(HV.o ▸ xE wr 74 177 #[.int .i64 f.j,.int .i64 f.w,.string f.q] #[.int .i64 f.j,.int .i64 f.w]:SB V (wr.heap.size+1) 177 #[.int .i64 f.j,.int .i64 f.w]);have J:Bl V S:=by
     have h1:Bl V V3:=by rw[<-aj.o];exact(ac _ _).alloc lZ _
     exact h1.trans (al.o.mono h1.size)
    obtain⟨p0,p1,-⟩:=zc (hv.below J hv.lt);clear am E I hv J;go_wp2;go_roundw
    case rel=>
     refine⟨k+1,_,_,oO,by go_num,?_,?_,au.o,ar.o⟩
     . intro i x hi hx;rcases bB i k with h|h
       . exact t.o i x h hx
       . obtain rfl:i=k:=oO;obtain rfl:=aD (M.o.symm.trans hx);exact R.o
     . rw[SO M.o]
       exact L.o.push (p:=(f.j,f.w)) (b:=a)
    case measure=>exact mI
   . have e0:(Y != 0)=true:=sU l;go_wp2;have av:=Hi (A.o.trans (D.o.below oO A.o.size));refine bK (v:=.agg #[.int .i64 Y,.int .i64 ((m:Int)+(k:Int))]) (bG rfl _ _ (w.heap.size+1) 41 #[.int .i64 Y,.int .i64 ((m:Int)+(k:Int))] (0,0) _ rfl ((X.o.set 0 _).set 1 _) underlying41 rfl Tryz.eZ) rfl ?_;exact⟨Y,_,rfl,.inl ⟨k,f,M.o,t.o,R.o,l,rfl⟩,(av.o.setCell (dU _) _).setCell (dU _) _⟩
  . have aw:k=g.length:=oO;subst aw;have d:=ab.o.only HO.o oO;obtain⟨z0,z1,-⟩:=zc d;have f0:=d.free 0;have f1:=d.free 1;have X:=Hi d;clear d;go_wp2;refine bK (v:=.agg #[.int .i64 0,.int .i64 0]) (bG rfl _ _ (w.heap.size+1) 41 #[.int .i64 0,.int .i64 0] (0,0) _ rfl ((X.o.set 0 _).set 1 _) underlying41 rfl Tryz.eZ) rfl ?_;refine⟨0,0,rfl,.inr ⟨fun i x hx=>t.o i x (gZ hx).1 hx,rfl,rfl⟩,(af.o.setCell (dU _) _).setCell (dU _) _⟩
end Go.Proofs.YtfgclhpgdanmfaaGreatDoor
