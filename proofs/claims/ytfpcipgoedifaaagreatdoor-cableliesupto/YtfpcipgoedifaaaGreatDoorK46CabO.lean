/- rafterlaw: the closed fact hangs. -/
import Derived.Test.YtfpcipgoedifaaaGreatDoorK45CabM
namespace Go.Proofs.YtfpcipgoedifaaaGreatDoor
open Go.RowKit
set_option linter.unusedVariables false
set_option linter.unusedSimpArgs false
namespace Hng
theorem dig1{c:UInt8}(h1:48<=c.toNat)(h2:c.toNat<=57):IsDig [c]:=⟨by simp,fun d hd=>by
 obtain rfl:d=c:=by simpa using hd
 exact⟨h1,h2⟩⟩
theorem qof{l t a:List UInt8}{v q:Rat}(h1:Lib.trimPrefix l [45]=t)(h2:Lib.cut t [47]=(a,[],false))(h3:IsDig a)(hv:v=mkRat (decVal a:Nat) 1)(hq:q=if Lib.hasPrefix l [45]=true then -v else v):QOf l q:=by
 refine⟨v,.inl ⟨⟨?_,?_⟩,?_⟩,hq⟩
 · rw[h1,h2];exact h3
 · rw[h1,h2];intro h;cases h
 · rw[h1,h2];exact hv
theorem o0:QOf (⟨#[48]⟩:ByteArray).data.toList 0:=qof (l:=[48]) (t:=[48]) (a:=[48]) (v:=0) (by decide) (by decide) (dig1 (by decide) (by decide)) (by decide) (by decide)
theorem o1:QOf (⟨#[49]⟩:ByteArray).data.toList 1:=qof (l:=[49]) (t:=[49]) (a:=[49]) (v:=1) (by decide) (by decide) (dig1 (by decide) (by decide)) (by decide) (by decide)
theorem o2:QOf (⟨#[50]⟩:ByteArray).data.toList 2:=qof (l:=[50]) (t:=[50]) (a:=[50]) (v:=2) (by decide) (by decide) (dig1 (by decide) (by decide)) (by decide) (by decide)
theorem o5:QOf (⟨#[53]⟩:ByteArray).data.toList 5:=qof (l:=[53]) (t:=[53]) (a:=[53]) (v:=5) (by decide) (by decide) (dig1 (by decide) (by decide)) (by decide) (by decide)
theorem om4:QOf (⟨#[45,52]⟩:ByteArray).data.toList (-4):=qof (l:=[45,52]) (t:=[52]) (a:=[52]) (v:=4) (by decide) (by decide) (dig1 (by decide) (by decide)) (by decide) (by decide)
theorem oh:QOf (⟨#[45,49,47,50]⟩:ByteArray).data.toList (-1 / 2):=by
 have h1:Lib.trimPrefix [45,49,47,50] [45]= [49,47,50]:=by decide
 have h2:Lib.cut [49,47,50] [47]=([49],[50],true):=by decide
 refine⟨mkRat 1 2,.inl ⟨⟨?_,?_⟩,?_⟩,?_⟩
 · show IsDig (Lib.cut (Lib.trimPrefix [45,49,47,50] [45]) [47]).1
   rw[h1,h2];exact dig1 (by decide) (by decide)
 ·
  show (Lib.cut (Lib.trimPrefix [45,49,47,50] [45]) [47]).2.2=true->_
  intro _
  show IsDig (Lib.cut (Lib.trimPrefix [45,49,47,50] [45]) [47]).2.1/\decVal (Lib.cut (Lib.trimPrefix [45,49,47,50] [45]) [47]).2.1≠0
  rw[h1,h2];exact⟨dig1 (by decide) (by decide),by decide⟩
 ·
  show _=mkRat (decVal (Lib.cut (Lib.trimPrefix [45,49,47,50] [45]) [47]).1:Nat) (if (Lib.cut (Lib.trimPrefix [45,49,47,50] [45]) [47]).2.2=true then decVal (Lib.cut (Lib.trimPrefix [45,49,47,50] [45]) [47]).2.1 else 1)
  rw[h1,h2];decide +kernel
 · decide +kernel
theorem oe:QOf (⟨#[]⟩:ByteArray).data.toList 0:=QOf.empty
theorem t0:QText (⟨#[48]⟩:ByteArray).data.toList 0:=⟨[48],⟨[48],.inl ⟨by decide,rfl⟩,by decide⟩,.inl ⟨by decide,rfl⟩⟩
theorem t1:QText (⟨#[49]⟩:ByteArray).data.toList 1:=⟨[49],⟨[49],.inr ⟨by decide,[1],⟨fun d hd=>by simp at hd;omega,.inr (by simp),by simp[val]⟩,by decide⟩,by decide⟩,.inl ⟨by decide,rfl⟩⟩
theorem t2:QText (⟨#[50]⟩:ByteArray).data.toList 2:=⟨[50],⟨[50],.inr ⟨by decide,[2],⟨fun d hd=>by simp at hd;omega,.inr (by simp),by simp[val]⟩,by decide⟩,by decide⟩,.inl ⟨by decide,rfl⟩⟩
theorem tm2:QText (⟨#[45,50]⟩:ByteArray).data.toList (-2):=⟨[45,50],⟨[50],.inr ⟨by decide,[2],⟨fun d hd=>by simp at hd;omega,.inr (by simp),by simp[val]⟩,by decide⟩,by decide⟩,.inl ⟨by decide,rfl⟩⟩
theorem same{s t:ByteArray}{q:Rat}(h:QText s.data.toList q)(k:QText t.data.toList q):s=t:=by
 have:=h.inj k;cases s;cases t
 congr
 exact Array.ext' this
def J:List S2:=[⟨⟨#[53]⟩,⟨#[53]⟩⟩,⟨⟨#[48]⟩,⟨#[48]⟩⟩,⟨⟨#[50]⟩,⟨#[48]⟩⟩]
def bar(b:Int):B6:=⟨0,b,⟨#[49]⟩,⟨#[]⟩,⟨#[]⟩,⟨#[]⟩⟩
def B:List B6:=[bar 1,bar 2]
def H:List H3:=[⟨1,1,⟨#[]⟩⟩,⟨1,2,⟨#[]⟩⟩,⟨2,1,⟨#[]⟩⟩,⟨2,2,⟨#[]⟩⟩]
def L:List L3:=[⟨0,⟨#[48]⟩,⟨#[45,52]⟩⟩]
def Z:List S2:=[⟨⟨#[49]⟩,⟨#[45,50]⟩⟩,⟨⟨#[48]⟩,⟨#[48]⟩⟩,⟨⟨#[50]⟩,⟨#[48]⟩⟩]
def xv:Vec:=fun i=>[5,0,2].getD i 0
def yv:Vec:=fun i=>[5,0,0].getD i 0
def eA:Nat->Nat:=fun _=>0
def eB:Nat->Nat:=fun k=>k+1
def hj:Nat->Nat:=fun k=>k / 2+1
def hw:Nat->Nat:=fun k=>k % 2
def q1:Vec:=fun i=>[1,1].getD i 0
def q2:Vec:=fun i=>[1,-1 / 2].getD i 0
def lj:Nat->Nat:=fun _=>0
def lx:Vec:=fun _=>0
def ly:Vec:=fun _=>-4
theorem sized:FrSized J B H:=by
 refine⟨?_,?_,?_⟩
 ·
  intro p hp;simp[J] at hp;rcases hp with rfl|rfl|rfl<;>exact⟨by decide,by decide⟩
 ·
  intro b hb;simp[B,bar] at hb;rcases hb with rfl|rfl<;>exact⟨by decide,by decide,by decide,by decide⟩
 ·
  intro x hx;simp[H] at hx;rcases hx with rfl|rfl|rfl|rfl<;>decide
theorem right:FrameFault J B H 0 0:=by
 refine .inr (.inr ⟨by rintro(h|h|h|h)<;>exact absurd h (by decide),?_,.inr ⟨?_,rfl,rfl⟩⟩)
 ·
  intro i x hx
  match i,hx with
  |0,hx=>
   cases hx;exact .inr ⟨⟨by decide,by decide⟩,⟨by decide,by decide⟩,_,_,rfl,rfl,5,5,0,0,1,0,0,o5,o5,o0,o0,o1,oe,oe,by decide +kernel⟩
  |1,hx=>
   cases hx;exact .inr ⟨⟨by decide,by decide⟩,⟨by decide,by decide⟩,_,_,rfl,rfl,5,5,2,0,1,0,0,o5,o5,o2,o0,o1,oe,oe,by decide +kernel⟩
  |n+2,hx=>cases hx
 ·
  intro i x hx
  match i,hx with
  |0,hx=>cases hx;decide
  |1,hx=>cases hx;decide
  |2,hx=>cases hx;decide
  |3,hx=>cases hx;decide
  |n+4,hx=>cases hx
theorem cab:CabV J B H xv yv eA eB hj hw:=by
 refine⟨by decide,by decide,by decide,by decide,fun k s hs=>?_,fun k b hb=>?_,fun k h hh=>?_⟩
 ·
  match k,hs with
  |0,hs=>cases hs;exact⟨o5,o5,by decide,by decide⟩
  |1,hs=>cases hs;exact⟨o0,o0,by decide,by decide⟩
  |2,hs=>cases hs;exact⟨o2,o0,by decide,by decide⟩
  |n+3,hs=>cases hs
 ·
  match k,hb with
  |0,hb=>cases hb;exact⟨rfl,rfl,by decide,by decide,by decide⟩
  |1,hb=>cases hb;exact⟨rfl,rfl,by decide,by decide,by decide⟩
  |n+2,hb=>cases hb
 ·
  match k,hh with
  |0,hh=>cases hh;exact⟨rfl,rfl,by decide,by decide⟩
  |1,hh=>cases hh;exact⟨rfl,rfl,by decide,by decide⟩
  |2,hh=>cases hh;exact⟨rfl,rfl,by decide,by decide⟩
  |3,hh=>cases hh;exact⟨rfl,rfl,by decide,by decide⟩
  |n+4,hh=>cases hh
theorem load:LoadT 3 L lj lx ly:=fun k l hl=>by
 match k,hl with
 |0,hl=>cases hl;exact⟨rfl,by decide,o0,om4,by decide,by decide⟩
 |n+1,hl=>cases hl
theorem qs1:QsT [⟨#[49]⟩,⟨#[49]⟩] q1:=fun k s hs=>by
 match k,hs with
 |0,hs=>cases hs;exact⟨o1,by decide⟩
 |1,hs=>cases hs;exact⟨o1,by decide⟩
 |n+2,hs=>cases hs
theorem qs2:QsT [⟨#[49]⟩,⟨#[45,49,47,50]⟩] q2:=fun k s hs=>by
 match k,hs with
 |0,hs=>cases hs;exact⟨o1,by decide⟩
 |1,hs=>cases hs;exact⟨oh,by decide⟩
 |n+2,hs=>cases hs
theorem row1:∀i:Nat,i<3->∀c:Nat,c<3->Cab.barM 2 q1 eA eB i c=([[2,-1,-1],[-1,1,0],[-1,0,(1:Rat)]].getD i []).getD c 0:=by decide +kernel
theorem frX:(Giv.frs (frB (hdK 3 hj hw 0 4)) 3)= [0]:=by decide +kernel
theorem frY:(Giv.frs (frB (hdK 3 hj hw 1 4)) 3)= [0]:=by decide +kernel
theorem wh4{e:Nat}{q:Rat}(z:Int)(h:q=(z:Rat))(hz:z.natAbs<=4):Wh 1 (e+2) q:=⟨z,by rw[h];show (z:Rat)*((1:Nat):Rat)=z;simp,by
 have:0<2 ^ e:=Nat.pow_pos (by decide);rw[Nat.pow_add]
 omega⟩
theorem whF{e:Nat}:∀i c,i<3->c<3->Wh 1 (e+2) (Cab.barM 2 q1 eA eB i c):=fun i c hi hc=>by
 have h:∀i,i<3->∀c,c<3->(Cab.barM 2 q1 eA eB i c=((2:Int):Rat)∨Cab.barM 2 q1 eA eB i c=((-1:Int):Rat)∨Cab.barM 2 q1 eA eB i c=((1:Int):Rat)∨Cab.barM 2 q1 eA eB i c=((0:Int):Rat)):=by decide +kernel
 rcases h i hi c hc with h|h|h|h<;>exact wh4 _ h (by decide)
theorem whX{e:Nat}:∀i,i<(Giv.frs (frB (hdK 3 hj hw 0 4)) 3).length->Wh 1 (e+2) (Cab.sumsV (Giv.frs (frB (hdK 3 hj hw 0 4)) 3) 3 (Cab.barM 2 q1 eA eB) (frB (hdK 3 hj hw 0 4)) (cutV xv 3) (ldK lj lx 1) i):=fun i hi=>by
 rw[frX] at hi ⊢;obtain rfl:i=0:=by simp at hi;omega
 exact wh4 2 (by decide +kernel) (by decide)
theorem whY{e:Nat}:∀i,i<(Giv.frs (frB (hdK 3 hj hw 1 4)) 3).length->Wh 1 (e+2) (Cab.sumsV (Giv.frs (frB (hdK 3 hj hw 1 4)) 3) 3 (Cab.barM 2 q1 eA eB) (frB (hdK 3 hj hw 1 4)) (cutV yv 3) (ldK lj ly 1) i):=fun i hi=>by
 rw[frY] at hi ⊢;obtain rfl:i=0:=by simp at hi;omega
 exact wh4 (-4) (by decide +kernel) (by decide)
theorem fitX:∀i,i<3->Fits (cutV xv 3 i) 4:=by unfold Fits;decide +kernel
theorem fitY:∀i,i<3->Fits (cutV yv 3 i) 4:=by unfold Fits;decide +kernel
theorem row0(X:Vec):dot 3 (Cab.barM 2 q1 eA eB 0) X=2*X 0 - X 1 - X 2:=by
 have h0:=row1 0 (by decide) 0 (by decide);have h1:=row1 0 (by decide) 1 (by decide);have h2:=row1 0 (by decide) 2 (by decide);simp only[dot,h0,h1,h2];simp;grind
theorem liesX(X:Vec):Cab.Lies 3 (Cab.barM 2 q1 eA eB) (frB (hdK 3 hj hw 0 4)) (cutV xv 3) (ldK lj lx 1) X↔X 0=1/\X 1=0/\X 2=2:=by
 have f0:frB (hdK 3 hj hw 0 4) 0=true:=by decide +kernel
 have f1:frB (hdK 3 hj hw 0 4) 1=false:=by decide +kernel
 have f2:frB (hdK 3 hj hw 0 4) 2=false:=by decide +kernel
 have l0:ldK lj lx 1 0=0:=by decide +kernel
 have x1:cutV xv 3 1=0:=by decide +kernel
 have x2:cutV xv 3 2=2:=by decide +kernel
 constructor
 ·
  rintro⟨h1,h2⟩;have a:=h1 1 (by decide) f1;have b:=h1 2 (by decide) f2;have c:=h2 0 (by decide) f0;rw[row0,l0] at c;rw[x1] at a;rw[x2] at b;exact⟨by grind,a,b⟩
 ·
  rintro⟨h0,h1,h2⟩;refine⟨fun i hi hf=>?_,fun i hi hf=>?_⟩
  ·
   have hh:i=0∨i=1∨i=2:=by omega
   rcases hh with rfl|rfl|rfl
   · rw[f0] at hf;cases hf
   · rw[h1,x1]
   · rw[h2,x2]
  ·
   have hh:i=0∨i=1∨i=2:=by omega
   rcases hh with rfl|rfl|rfl
   · rw[row0,l0];grind
   · rw[f1] at hf;cases hf
   · rw[f2] at hf;cases hf
theorem liesY(X:Vec):Cab.Lies 3 (Cab.barM 2 q1 eA eB) (frB (hdK 3 hj hw 1 4)) (cutV yv 3) (ldK lj ly 1) X↔X 0= -2/\X 1=0/\X 2=0:=by
 have f0:frB (hdK 3 hj hw 1 4) 0=true:=by decide +kernel
 have f1:frB (hdK 3 hj hw 1 4) 1=false:=by decide +kernel
 have f2:frB (hdK 3 hj hw 1 4) 2=false:=by decide +kernel
 have l0:ldK lj ly 1 0= -4:=by decide +kernel
 have x1:cutV yv 3 1=0:=by decide +kernel
 have x2:cutV yv 3 2=0:=by decide +kernel
 constructor
 ·
  rintro⟨h1,h2⟩;have a:=h1 1 (by decide) f1;have b:=h1 2 (by decide) f2;have c:=h2 0 (by decide) f0;rw[row0,l0] at c;rw[x1] at a;rw[x2] at b;exact⟨by grind,a,b⟩
 ·
  rintro⟨h0,h1,h2⟩;refine⟨fun i hi hf=>?_,fun i hi hf=>?_⟩
  ·
   have hh:i=0∨i=1∨i=2:=by omega
   rcases hh with rfl|rfl|rfl
   · rw[f0] at hf;cases hf
   · rw[h1,x1]
   · rw[h2,x2]
  ·
   have hh:i=0∨i=1∨i=2:=by omega
   rcases hh with rfl|rfl|rfl
   · rw[row0,l0];grind
   · rw[f1] at hf;cases hf
   · rw[f2] at hf;cases hf
theorem signs{p m:Nat}(h:SgnSays 3 (Cab.barM 2 q2 eA eB) p m):p=1/\m=1:=by
 obtain⟨h1,h2,h3,_⟩:=h;have a:m≠0:=fun e=>absurd (h1 e (fun i=>if i=2 then 1 else 0)) (by decide +kernel)
 have b:p≠0:=fun e=>absurd (h2 e (fun i=>if i=1 then 1 else 0)) (by decide +kernel)
 have c:=h3 (by decide) (fun _=>1) (by decide +kernel) (fun _ _=>by decide);omega
theorem uneven:¬EvAll 3 3 (Cab.barM 2 q2 eA eB) xv yv:=fun h=>absurd (h 0 (by decide)).1 (by decide +kernel)
theorem whQ{e:Nat}:∀k,k<2->Wh 2 (e+2) (q2 k):=fun k hk=>by
 have:0<2 ^ e:=Nat.pow_pos (by decide);have hh:k=0∨k=1:=by omega
 rcases hh with rfl|rfl
 · exact⟨2,by decide +kernel,by rw[Nat.pow_add];omega⟩
 · exact⟨-1,by decide +kernel,by rw[Nat.pow_add];omega⟩
end Hng
theorem Qm9{e:Nat}{en:Ending}{w w':World}(h:ShSays w 3 e (Cab.barM 2 Hng.q1 Hng.eA Hng.eB) (cutV Hng.xv 3) (ldK Hng.lj Hng.lx 1) (hdK 3 Hng.hj Hng.hw 0 4) (cutV Hng.yv 3) (ldK Hng.lj Hng.ly 1) (hdK 3 Hng.hj Hng.hw 1 4) en w'):
 (∃g:Nat,en=.returned (.tuple #[.slice (some ⟨g,0,none⟩) 3 3,.agg #[.int .i64 0,.int .i64 0]])/\SB w' g 42 (Hng.Z.flatMap S2.cells).toArray)/\Below w.heap.size w w':=by
 refine⟨?_,h.2⟩;rcases h.1 with ⟨c,⟨_,h⟩|⟨_,Z,Z',h1,h2,i,hi,hne⟩,_⟩|⟨c,⟨_,h⟩|⟨_,Z,Z',h1,h2,i,hi,hne⟩,_⟩|⟨v,Z,Z',he,⟨g,ss,rfl,hl,hb,hq⟩,h1,_,h2,_⟩
 · exact absurd ((Hng.liesX (fun i=>[1,0,2].getD i 0)).2 ⟨rfl,rfl,rfl⟩) (h _)
 ·
  exfalso
  have a:=(Hng.liesX Z).1 h1;have b:=(Hng.liesX Z').1 h2;have hh:i=0∨i=1∨i=2:=by omega
  rcases hh with rfl|rfl|rfl
  · exact hne (a.1.trans b.1.symm)
  · exact hne (a.2.1.trans b.2.1.symm)
  · exact hne (a.2.2.trans b.2.2.symm)
 · exact absurd ((Hng.liesY (fun i=>[-2,0,0].getD i 0)).2 ⟨rfl,rfl,rfl⟩) (h _)
 ·
  exfalso
  have a:=(Hng.liesY Z).1 h1;have b:=(Hng.liesY Z').1 h2;have hh:i=0∨i=1∨i=2:=by omega
  rcases hh with rfl|rfl|rfl
  · exact hne (a.1.trans b.1.symm)
  · exact hne (a.2.1.trans b.2.1.symm)
  · exact hne (a.2.2.trans b.2.2.symm)
 ·
  refine⟨g,he,?_⟩;obtain⟨a0,a1,a2⟩:=(Hng.liesX Z).1 h1.1;obtain⟨b0,b1,b2⟩:=(Hng.liesY Z').1 h2.1
  match ss,hl,hq,hb with
  | [s0,s1,s2],_,hq,hb=>
    have k0:=hq 0 s0 rfl;have k1:=hq 1 s1 rfl;have k2:=hq 2 s2 rfl;rw[a0,b0] at k0;rw[a1,b1] at k1;rw[a2,b2] at k2;obtain⟨x0,y0⟩:=s0;obtain⟨x1,y1⟩:=s1;obtain⟨x2,y2⟩:=s2;obtain rfl:=Hng.same k0.1 Hng.t1;obtain rfl:=Hng.same k0.2 Hng.tm2;obtain rfl:=Hng.same k1.1 Hng.t0;obtain rfl:=Hng.same k1.2 Hng.t0;obtain rfl:=Hng.same k2.1 Hng.t2;obtain rfl:=Hng.same k2.2 Hng.t0;exact hb
theorem SB.crow{w:World}{g:Nat}{t:TypeId}{C:Array Value}{l:List Value}(h:SB w g t C)(hl:l=C.toList):CRow w (some ⟨g,0,none⟩) l:=⟨fun j u hj=>⟨g,0,rfl,h.lt,by rw[Nat.zero_add,h.cell j,<-Array.getElem?_toList,<-hl];exact hj⟩⟩
def HgS:Fact:=fun v w=>∃g:Nat,v=.tuple #[.slice (some ⟨g,0,none⟩) 3 3,.agg #[.int .i64 0,.int .i64 0]]/\SB w g 42 (Hng.Z.flatMap S2.cells).toArray
theorem HgS.stays:Stays HgS:=fun _ _ _ hb ⟨g,e,h⟩=>⟨g,e,h.below hb h.lt⟩
def HgZ:Fact:=fun v w=>∃g:Nat,v=.slice (some ⟨g,0,none⟩) 3 3/\SB w g 42 (Hng.Z.flatMap S2.cells).toArray
theorem HgZ.stays:Stays HgZ:=fun _ _ _ hb ⟨g,e,h⟩=>⟨g,e,h.below hb h.lt⟩
def HgL:Fact:=fun v w=>∃b:Nat,v=.slice (some ⟨b,0,none⟩) 1 1/\SB w b 61 #[.int .i64 0,.string ⟨#[48]⟩,.string ⟨#[45,52]⟩]
theorem HgL.stays:Stays HgL:=fun _ _ _ hb ⟨b,e,h⟩=>⟨b,e,h.below hb h.lt⟩
def HgQ:Fact:=fun v w=>∃b:Nat,v=.slice (some ⟨b,0,none⟩) 2 2/\SB w b 40 #[.string ⟨#[49]⟩,.string ⟨#[49]⟩]
theorem HgQ.stays:Stays HgQ:=fun _ _ _ hb ⟨b,e,h⟩=>⟨b,e,h.below hb h.lt⟩
def NwF(B:Nat):Fact:=fun v w=>∃b:Nat,v=.pointer (some ⟨b,0,none⟩)/\B<=b/\SB w b 31 #[.int .i64 0,.int .i64 0]
theorem NwF.stays(B:Nat):Stays (NwF B):=fun _ _ _ hb ⟨b,e,hB,h⟩=>⟨b,e,hB,h.below hb h.lt⟩
theorem Qna(s t:ByteArray)(w:World):Calls Tryz.prog 18 #[.string s,.string t] w (Makes w (Is (.agg #[.string s,.string t]))):=(Qbu s t w).mono fun e w' ⟨he,hb⟩=>⟨_,he,hb,rfl⟩
abbrev hgA(g:Nat):Option Addr:=some ⟨g,0,none⟩
theorem Qnb{g1 g2 g3 gq gl:Nat}{w:World}(hg:Glob w)(hf:FrRow w (hgA g1) (hgA g2) (hgA g3) 3 2 4 Hng.J Hng.B Hng.H)(hq:SB w gq 40 #[.string ⟨#[49]⟩,.string ⟨#[49]⟩])(hl:SB w gl 61 #[.int .i64 0,.string ⟨#[48]⟩,.string ⟨#[45,52]⟩]):
 Calls Tryz.prog 8 #[.agg #[.slice (hgA g1) 3 3,.slice (hgA g2) 2 2,.slice (hgA g3) 4 4],.slice (hgA gq) 2 2,.slice (hgA gl) 1 1] w (Makes w HgS):=
 (Qhe (hgA g1) (hgA g2) (hgA g3) (hgA gq) (hgA gl) 3 2 4 2 1 1 (5999998+2) 3 Hng.J Hng.B Hng.H [⟨#[49]⟩,⟨#[49]⟩] Hng.L Hng.xv Hng.yv Hng.q1 Hng.lx Hng.ly Hng.eA Hng.eB Hng.lj Hng.hj Hng.hw w hg hf Hng.sized Hng.right Hng.cab (hq.crow rfl) rfl Hng.qs1 (hl.arow rfl (by decide)) Hng.load (by decide) rfl (by decide) Nat.one_le_two_pow (fun i c hi hc=>Hng.whF i c hi hc) (by decide) (by decide) (fun i hi=>Hng.whX i hi) (fun i hi=>Hng.whY i hi) (fun i hi=>(Hng.fitX i hi).mono (by decide)) (fun i hi=>(Hng.fitY i hi).mono (by decide))).mono fun e w' h=>by
   obtain⟨⟨g,rfl,hs⟩,hb⟩:=Qm9 h;exact⟨_,rfl,hb,g,rfl,hs⟩
theorem Qnc{g1 g2 g3 gq:Nat}{w:World}(hg:Glob w)(hf:FrRow w (hgA g1) (hgA g2) (hgA g3) 3 2 4 Hng.J Hng.B Hng.H)(hq:SB w gq 40 #[.string ⟨#[49]⟩,.string ⟨#[45,49,47,50]⟩]):
 Calls Tryz.prog 12 #[.agg #[.slice (hgA g1) 3 3,.slice (hgA g2) 2 2,.slice (hgA g3) 4 4],.slice (hgA gq) 2 2] w fun e w'=>e=.returned (.tuple #[.bool false,.int .i64 1,.int .i64 1,.agg #[.int .i64 0,.int .i64 0]])/\Below w.heap.size w w':=
 (Qhb (hgA g1) (hgA g2) (hgA g3) (hgA gq) 3 2 4 2 2 (8+2) Hng.J Hng.B Hng.H [⟨#[49]⟩,⟨#[45,49,47,50]⟩] Hng.xv Hng.yv Hng.q2 Hng.eA Hng.eB Hng.hj Hng.hw w hg hf Hng.sized Hng.right Hng.cab (hq.crow rfl) rfl Hng.qs2 (by decide) (by decide) (fun k hk=>Hng.whQ k hk) (by decide)).mono fun e w' h=>by
   obtain⟨⟨ev,p,m,rfl,h1,h2⟩,hb⟩:=h;obtain⟨rfl,rfl⟩:=Hng.signs h2;obtain rfl:ev=false:=by
    cases ev with
    |false=>rfl
    |true=>exact absurd (h1.1 rfl) Hng.uneven
   exact⟨rfl,hb⟩
set_option maxRecDepth 100000 in
set_option maxHeartbeats 1000000 in
theorem Qnd(a b:Option Addr)(c d:Nat)(l:List S2)(w:World)(hu:ARow S2.cells w a c l)(hv:ARow S2.cells w b d l)(hs:l.length<=1000000):
 Calls Tryz.prog 19 #[.slice a l.length c,.slice b l.length d] w fun e w'=>e=.returned (.bool true)/\Below w.heap.size w w':=by
 have HC:=Hi hu;have HD:=Hi hv;clear hu hv;go_enter Tryz.func19,Tryz.ntmps19;go_wp2_with fail;go_loopw [13] (fun iv wr=>∃i:Nat,i<=l.length/\iv=.int .i64 i/\Below w.heap.size w wr) (fun iv _=>l.length - (intOf iv).toNat)
 case atStart=>exact⟨0,by omega,rfl,Below.refl _ _⟩
 case round=>
  obtain⟨i,hi,rfl,hb⟩:=hrel;have HB:=Hi hb;by_cases hie:i<l.length
  ·
   obtain⟨f,hf⟩:∃f,l[i]?=some f:=⟨l[i],gE hie⟩;obtain⟨b1,o1,rfl,h1,d1,d2⟩:=(HC.out.below hb).spot hf;obtain⟨b2,o2,rfl,h2,d3,d4⟩:=(HD.out.below hb).spot hf;have q3:((i:Int)<(l.length:Int)):=by omega
   clear hf hb h1 h2;go_wp2_with fail;go_quiet (fail);go_wp2;go_roundw
   case rel=>exact⟨i+1,by omega,by go_num,Qdz HB.out _⟩
   case measure=>simp[intOf];omega
  ·
   obtain rfl:i=l.length:=by omega
   clear hb;go_wp2;go_ret;exact⟨rfl,HB.out⟩
theorem Qne{a b:Option Addr}{c d:Nat}{w:World}(hu:ARow S2.cells w a c Hng.Z)(hv:ARow S2.cells w b d Hng.Z):Calls Tryz.prog 19 #[.slice a 3 c,.slice b 3 d] w fun e w'=>e=.returned (.bool true)/\Below w.heap.size w w':=Qnd a b c d Hng.Z w hu hv (by decide)
theorem Qhf(w:World)(o:Obj)(t:TypeId)(C:Array Value):SB ((w.alloc o).alloc (.cells C t)) (w.heap.size+1) t C:=by
 have h:=SB.new (w.alloc o) t C;rw[World.size_alloc] at h;exact h
set_option maxRecDepth 100000 in
set_option maxHeartbeats 4000000 in
theorem Qnf(w:World)(hg:Glob w):Calls Tryz.prog 4 #[] w fun e w'=>e=.returned (.bool true)/\Below w.heap.size w w':=by
 have HG:=Hi hg;clear hg;go_enter Tryz.func4,Tryz.ntmps4;go_wp2_with fail;go_fit (Qbu ⟨#[53]⟩ ⟨#[53]⟩ w);rintro e w1 ⟨rfl,hb⟩;have HB1:=Hi hb;clear hb;go_wp2_with fail;go_fit (Qbu ⟨#[48]⟩ ⟨#[48]⟩ w1);rintro e w2 ⟨rfl,hb⟩;have HB2:=Hi (HB1.out.trans (hb.mono HB1.out.size));clear hb HB1;go_wp2_with fail;go_fit (Qbu ⟨#[50]⟩ ⟨#[48]⟩ w2);rintro e w3 ⟨rfl,hb⟩;have HB3:=Hi (HB2.out.trans (hb.mono HB2.out.size));clear hb HB2;obtain⟨g1,hg1⟩:=nm w3.heap.size;obtain⟨A2,hA2⟩:=nm (g1+1);obtain⟨A3,hA3⟩:=nm (A2+1);obtain⟨BF,hBF⟩:=nm (A3+1)
 obtain⟨X3,hX3⟩:=nm (((w3.alloc (.cells #[.string ⟨#[53]⟩,.string ⟨#[53]⟩,.string ⟨#[48]⟩,.string ⟨#[48]⟩,.string ⟨#[50]⟩,.string ⟨#[48]⟩] 42)).alloc (.cells #[.int .i64 0,.int .i64 1,.string ⟨#[49]⟩,.string ⟨#[]⟩,.string ⟨#[]⟩,.string ⟨#[]⟩,.int .i64 0,.int .i64 2,.string ⟨#[49]⟩,.string ⟨#[]⟩,.string ⟨#[]⟩,.string ⟨#[]⟩] 47)).alloc (.cells #[.int .i64 1,.int .i64 1,.string ⟨#[]⟩,.int .i64 1,.int .i64 2,.string ⟨#[]⟩,.int .i64 2,.int .i64 1,.string ⟨#[]⟩,.int .i64 2,.int .i64 2,.string ⟨#[]⟩] 45));have hz3:X3.heap.size=BF:=by rw[<-hX3];simp only[World.size_alloc];omega
 have s1:SB X3 g1 42 #[.string ⟨#[53]⟩,.string ⟨#[53]⟩,.string ⟨#[48]⟩,.string ⟨#[48]⟩,.string ⟨#[50]⟩,.string ⟨#[48]⟩]:=by rw[<-hX3,<-hg1];exact((SB.new w3 _ _).alloc _).alloc _
 have s2:SB X3 A2 47 #[.int .i64 0,.int .i64 1,.string ⟨#[49]⟩,.string ⟨#[]⟩,.string ⟨#[]⟩,.string ⟨#[]⟩,.int .i64 0,.int .i64 2,.string ⟨#[49]⟩,.string ⟨#[]⟩,.string ⟨#[]⟩,.string ⟨#[]⟩]:=by rw[<-hX3,<-hA2,<-hg1];exact(Qhf w3 _ _ _).alloc _
 have s3:SB X3 A3 45 #[.int .i64 1,.int .i64 1,.string ⟨#[]⟩,.int .i64 1,.int .i64 2,.string ⟨#[]⟩,.int .i64 2,.int .i64 1,.string ⟨#[]⟩,.int .i64 2,.int .i64 2,.string ⟨#[]⟩]:=by
  rw[<-hX3,<-hA3,<-hA2,<-hg1];have h:=Qhf (w3.alloc (.cells #[.string ⟨#[53]⟩,.string ⟨#[53]⟩,.string ⟨#[48]⟩,.string ⟨#[48]⟩,.string ⟨#[50]⟩,.string ⟨#[48]⟩] 42)) (.cells #[.int .i64 0,.int .i64 1,.string ⟨#[49]⟩,.string ⟨#[]⟩,.string ⟨#[]⟩,.string ⟨#[]⟩,.int .i64 0,.int .i64 2,.string ⟨#[49]⟩,.string ⟨#[]⟩,.string ⟨#[]⟩,.string ⟨#[]⟩] 47) 45 #[.int .i64 1,.int .i64 1,.string ⟨#[]⟩,.int .i64 1,.int .i64 2,.string ⟨#[]⟩,.int .i64 2,.int .i64 1,.string ⟨#[]⟩,.int .i64 2,.int .i64 2,.string ⟨#[]⟩];rw[World.size_alloc] at h;exact h
 have hb3:Below w3.heap.size w3 X3:=by rw[<-hX3];exact(Below.new2 w3 _ _).alloc (by simp;omega) _
 obtain⟨Y0,hY0⟩:=nm (X3.alloc (.cells #[.slice (some ⟨g1,0,none⟩) 3 3,.slice (some ⟨A2,0,none⟩) 2 2,.slice (some ⟨A3,0,none⟩) 4 4] 26));obtain⟨Y,hY⟩:=nm Y0.drew;have h3Y:Below X3.heap.size X3 Y:=by rw[<-hY,<-hY0];exact(bR.alloc lZ _).drew
 have HBY:Hid (Below w.heap.size w Y):=Hi (HB3.out.trans ((hb3.trans (h3Y.mono hb3.size)).mono HB3.out.size));have HSF:Hid (SB Y BF 26 #[.slice (some ⟨g1,0,none⟩) 3 3,.slice (some ⟨A2,0,none⟩) 2 2,.slice (some ⟨A3,0,none⟩) 4 4]):=Hi (by rw[<-hY,<-hY0,<-hz3];exact(SB.new X3 _ _).drew);have HFR:Hid (FrRow Y (hgA g1) (hgA A2) (hgA A3) 3 2 4 Hng.J Hng.B Hng.H):=Hi ⟨(s1.below h3Y s1.lt).arow rfl (by decide),(s2.below h3Y s2.lt).arow rfl (by decide),(s3.below h3Y s3.lt).arow rfl (by decide)⟩;have HF0:=Hi (HSF.out.cell 0);have HF1:=Hi (HSF.out.cell 1);have HF2:=Hi (HSF.out.cell 2);simp only[List.getElem?_toArray,List.getElem?_cons_zero,List.getElem?_cons_succ] at HF0 HF1 HF2;have HX:=Hi hX3;have HG1:=Hi hg1;have HBF:=Hi hBF;have HYE:=Hi hY;have HY0:=Hi hY0;have HA2:=Hi hA2;have HA3:=Hi hA3;clear hX3 hg1 hBF hY hY0 hb3 h3Y s1 s2 s3 hA2 hA3 hz3;go_wp2_with fail
 refine RegG.bg 11 (fun j=>match j with|6=>some 21|7=>some 28|8=>some 29|9=>some 3|10=>some 2|11=>none|j=>some (22+j)) ?_;rw[HX.out];simp only[HG1.out,HA2.out,HA3.out,HBF.out];rw[HY0.out,HYE.out];refine RegG.pu (c:=?_) [] (fun w hb=>?_) ?_;rotate_left
 ·
  intro K hK;have d0:=ce hb HSF.out.lt HF0.out;have d1:=ce hb HSF.out.lt HF1.out;have d2:=ce hb HSF.out.lt HF2.out;go_simp;exact hK
 refine RegG.ca (φ:=HgQ) [] HgQ.stays (fun w hb=>?_) ?_
 ·
  intro K hK;go_simp;exact hK _ _ (bR.alloc lZ _) ⟨w.heap.size,rfl,SB.new w _ _⟩
 refine RegG.ca (φ:=Is (.agg #[.string ⟨#[48]⟩,.string ⟨#[45,52]⟩])) [] (Is.stays _) (fun w hb=>?_) ?_
 ·
  intro K hK;go_simp;exact Makes.use (Qna _ _ _) hK
 refine RegG.p0 [2] ?_;refine RegG.ca (φ:=HgL) [3] HgL.stays (fun w hb=>?_) ?_
 ·
  intro K hK;go_simp;exact hK _ _ (bR.alloc lZ _) ⟨w.heap.size,rfl,SB.new w _ _⟩
 refine RegG.ca (φ:=HgS) [0,1,4] HgS.stays (fun w hb=>?_) ?_
 ·
  rintro v1 ⟨bq,rfl,hq⟩ v3 ⟨bl,rfl,hl⟩;intro K hK;go_simp;exact Makes.use (Qnb (HG.out.below (HBY.out.trans (hb.mono HBY.out.size))) (HFR.out.below hb) hq hl) hK
 refine RegG.ca (φ:=HgS) [5] HgS.stays (fun w hb=>?_) ?_
 ·
  intro v4 h4 K hK;go_simp;exact hK _ _ bR h4
 refine RegG.ca (φ:=HgZ) [6] HgZ.stays (fun w hb=>?_) ?_
 ·
  rintro v4 ⟨h1,rfl,h⟩;intro K hK;go_simp;exact hK _ _ bR ⟨h1,rfl,h⟩
 refine RegG.ca (φ:=Is (.agg #[.int .i64 0,.int .i64 0])) [6] (Is.stays _) (fun w hb=>?_) ?_
 ·
  rintro v4 ⟨h1,rfl,h⟩;intro K hK;go_simp;exact hK _ _ bR rfl
 refine RegG.ca (φ:=NwF Y.heap.size) [] (NwF.stays _) (fun w hb=>?_) ?_
 ·
  intro K hK;go_simp;exact hK _ _ (bR.alloc lZ _) ⟨w.heap.size,rfl,hb.size,SB.new w _ _⟩
 refine RegG.ca (φ:=HgZ) [7] HgZ.stays (fun w hb=>?_) ?_
 ·
  rintro v4 ⟨h1,rfl,h⟩;intro K hK;go_simp;exact hK _ _ bR ⟨h1,rfl,h⟩
 refine RegG.last (by simp only[List.nil_append,List.cons_append,List.length_append,List.length_cons,List.length_nil,Nat.reduceAdd]) (by rfl) (by rfl) (by kernel_rfl) (fun u hb=>?_);simp only[FinG,List.nil_append,List.cons_append,Qaf,Act.put,List.setIfInBounds_toArray,List.set_cons_zero,List.set_cons_succ,Nat.reduceAdd,Nat.reduceBEq,cond_true,cond_false];intro v1 _ v4 _ v5 _ v6 _ v7 _;rintro _ ⟨b3,rfl,hB3,h3⟩;rintro _ ⟨gz,rfl,hz⟩;have e0:=h3.cell 0;have e1:=h3.cell 1;simp only[List.getElem?_toArray,List.getElem?_cons_zero,List.getElem?_cons_succ] at e0 e1;have k0:=h3.free 0;have k1:=h3.free 1;have h3s:=(h3.set 0 (.int .i64 0)).set 1 (.int .i64 0);have ho3:=((Only.refl b3 u).setCell 0 (.int .i64 0)).setCell 1 (.int .i64 0);obtain⟨U2,hU2⟩:=nm ((u.setCell ⟨b3,0,none⟩ (.int .i64 0)).setCell ⟨b3,1,none⟩ (.int .i64 0));rw[hU2] at h3s ho3
 have HE2:Hid (SB U2 b3 31 #[.int .i64 0,.int .i64 0]):=Hi (by simpa using h3s);have HZ2:=Hi (hz.only ho3 (hz.unlike h3 (by decide)));have HBU:=Hi (Only.fresh hb ho3 hB3);have HU2:=Hi hU2;clear h3s ho3 hb hU2 h3 hz;intro K hK;go_simp;refine hK _ _ ?_;clear hK e0 e1 k0 k1;rw[HU2.out];have hsf:=HSF.out.below HBU.out HSF.out.lt;have x0:=hsf.cell 0;have x1:=hsf.cell 1;have x2:=hsf.cell 2;simp only[List.getElem?_toArray,List.getElem?_cons_zero,List.getElem?_cons_succ] at x0 x1 x2;have HBW:=Hi (HBY.out.trans (HBU.out.mono HBY.out.size));obtain⟨U3,hU3⟩:=nm (U2.alloc (.cells #[.string ⟨#[49]⟩,.string ⟨#[45,49,47,50]⟩] 40));have hb3:Below U2.heap.size U2 U3:=by rw[<-hU3];exact(Below.refl _ _).alloc lZ _
 have hq3:SB U3 U2.heap.size 40 #[.string ⟨#[49]⟩,.string ⟨#[45,49,47,50]⟩]:=by rw[<-hU3];exact SB.new U2 _ _
 have HFM:=Hi (Qnc ((HG.out.below HBW.out).below hb3) ((HFR.out.below HBU.out).below hb3) hq3);have HE3:=Hi (HE2.out.below hb3 HE2.out.lt);have HZ3:=Hi (HZ2.out.below hb3 HZ2.out.lt);have HB4:=Hi (HBW.out.trans (hb3.mono HBW.out.size));have HU3:=Hi hU3;clear hsf hq3 hb3 hU3 HE2 HZ2;go_wp2_with fail;rw[HU3.out];go_fit HFM.out;rintro _ w5 ⟨rfl,hb5⟩;clear x0 x1 x2;obtain⟨b5,hb5'⟩:∃b5,w5.heap.size=b5:=⟨_,rfl⟩;obtain⟨U5,hU5⟩:=nm (w5.alloc (.cells #[.int .i64 0,.int .i64 0] 31));have h25:Below U3.heap.size U3 U5:=by rw[<-hU5];exact hb5.alloc hb5.size _
 have HE5:Hid (SB U5 b5 31 #[.int .i64 0,.int .i64 0]):=Hi (by rw[<-hU5,<-hb5'];exact SB.new w5 _ _);have hE:=HE3.out.below h25 HE3.out.lt;have HZ:=Hi (HZ3.out.below h25 HZ3.out.lt);have HBZ:=Hi (HB4.out.trans (h25.mono HB4.out.size));have HBE:=Hi hb5';have HU5:=Hi hU5;have y0:=hE.cell 0;have z0:=HE5.out.cell 0;simp only[List.getElem?_toArray,List.getElem?_cons_zero,List.getElem?_cons_succ] at y0 z0;rw[<-hU5] at y0;rw[<-hU5,<-hb5'] at z0;clear hb5 hb5' hU5 h25 hE HFM HE3 HZ3;go_wp2_with fail;rw[HU5.out,HBE.out];clear y0 z0;go_fit (Qbu ⟨#[49]⟩ ⟨#[45,50]⟩ U5);rintro _ w6 ⟨rfl,hb6⟩;have HB6:=Hi hb6;clear hb6;go_wp2_with fail;go_fit (Qbu ⟨#[48]⟩ ⟨#[48]⟩ w6);rintro _ w7 ⟨rfl,hb7⟩;have HB7:=Hi (HB6.out.trans (hb7.mono HB6.out.size));clear hb7 HB6;go_wp2_with fail;go_fit (Qbu ⟨#[50]⟩ ⟨#[48]⟩ w7);rintro _ w8 ⟨rfl,hb8⟩
 obtain⟨U9,hU9⟩:=nm (w8.alloc (.cells #[.string ⟨#[49]⟩,.string ⟨#[45,50]⟩,.string ⟨#[48]⟩,.string ⟨#[48]⟩,.string ⟨#[50]⟩,.string ⟨#[48]⟩] 42));have h59:Below U5.heap.size U5 U9:=by rw[<-hU9];exact(HB7.out.trans (hb8.mono HB7.out.size)).alloc (Nat.le_trans HB7.out.size hb8.size) _
 have h9:SB U9 w8.heap.size 42 #[.string ⟨#[49]⟩,.string ⟨#[45,50]⟩,.string ⟨#[48]⟩,.string ⟨#[48]⟩,.string ⟨#[50]⟩,.string ⟨#[48]⟩]:=by rw[<-hU9];exact SB.new w8 _ _
 have HEQ:=Hi (Qne (a:=hgA gz) (b:=hgA w8.heap.size) (c:=3) (d:=3) (w:=U9) ((HZ.out.below h59 HZ.out.lt).arow rfl (by decide)) (h9.arow rfl (by decide)));have HB9:=Hi (HBZ.out.trans (h59.mono HBZ.out.size));have HU9:=Hi hU9;clear hb8 hU9 h59 h9 HB7;go_wp2_with fail;rw[HU9.out];go_fit HEQ.out;rintro _ w10 ⟨rfl,hb10⟩;have HB10:=Hi (HB9.out.trans (hb10.mono HB9.out.size));clear hb10;go_wp2;go_ret;exact⟨rfl,HB10.out⟩
end Go.Proofs.YtfpcipgoedifaaaGreatDoor
