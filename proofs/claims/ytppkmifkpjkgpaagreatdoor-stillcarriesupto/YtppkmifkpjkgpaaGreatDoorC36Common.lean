import Derived.Test.YtppkmifkpjkgpaaGreatDoorC35BalG
namespace Go.Proofs.YtppkmifkpjkgpaaGreatDoor
open Go.RowKit
open Go.Proofs.Tryz
set_option linter.unusedSimpArgs false
set_option linter.unusedVariables false
set_option maxHeartbeats 8000000
set_option maxRecDepth 1000000
theorem q_of{l t a:Vu}{v q:Rat}(b:Lib.trimPrefix l [45]=t)(c:Lib.cut t [47]=(a,[],false))(d:IsDig a)(e:v=mkRat (decVal a:Nat) 1)(f:q=if Lib.hasPrefix l [45]=true then -v else v):QOf l q:=by
 refine⟨v,.inl ⟨⟨?_,?_⟩,?_⟩,f⟩
 . rw[b,c];exact d
 . rw[b,c];intro h;cases h
 . rw[b,c];simpa using e
theorem Qex{c:UInt8}(a:48<=c.toNat)(b:c.toNat<=57):IsDig [c]:=⟨by simp,fun d e=>by
 obtain rfl:d=c:=by simpa using e
 exact⟨a,b⟩⟩
theorem q0_of:QOf tx0.data.toList 0:=q_of (l:=[48]) (t:=[48]) (a:=[48]) (v:=0) (by decide) (by decide) (Qex (by decide) (by decide)) (by decide) (by decide)
theorem q1_of:QOf tx1.data.toList 1:=one_q
theorem qm_of:QOf (⟨#[45,49]⟩:ByteArray).data.toList (-1):=q_of (l:=[45,49]) (t:=[49]) (a:=[49]) (v:=1) (by decide) (by decide) (Qex (by decide) (by decide)) (by decide) (by decide)
theorem q2_of:QOf (⟨#[50]⟩:ByteArray).data.toList 2:=q_of (l:=[50]) (t:=[50]) (a:=[50]) (v:=2) (by decide) (by decide) (Qex (by decide) (by decide)) (by decide) (by decide)
theorem Qey:FrSized cornerJ cornerB cornerH:=by
 refine⟨?_,?_,?_⟩
 .
  intro p a;simp[cornerJ] at a;rcases a with rfl|rfl|rfl<;>exact⟨by decide,by decide⟩
 .
  intro b c;simp[cornerB,cornerBar] at c;rcases c with rfl|rfl|rfl<;>exact⟨by decide,by decide,by decide,by decide⟩
 .
  intro x d;simp[cornerH] at d;rcases d with rfl|rfl|rfl<;>decide
def cornerVB:List (Nat × Nat × Rat × Rat):=[(0,1,1,0),(1,2,-1,1),(2,0,0,-1)]
def cornerVH:List Nat:=[0,1,3]
theorem Qez:FrV 1048576 cornerJ cornerB cornerH cornerVB cornerVH:=by
 refine⟨by decide,by decide,by decide,rfl,rfl,?_,?_,by decide⟩
 .
  intro i b p a d
  match i,a,d with
  |0,a,d=>
   cases a;cases d;exact⟨rfl,rfl,by decide,_,_,0,0,1,0,rfl,rfl,by decide,by decide,by decide,by decide,q0_of,q0_of,q1_of,q0_of,by decide +kernel,by decide +kernel⟩
  |1,a,d=>
   cases a;cases d;exact⟨rfl,rfl,by decide,_,_,1,0,0,1,rfl,rfl,by decide,by decide,by decide,by decide,q1_of,q0_of,q0_of,q1_of,by decide +kernel,by decide +kernel⟩
  |2,a,d=>
   cases a;cases d;exact⟨rfl,rfl,by decide,_,_,0,1,0,0,rfl,rfl,by decide,by decide,by decide,by decide,q0_of,q1_of,q0_of,q0_of,by decide +kernel,by decide +kernel⟩
  |n+3,a,d=>cases a
 .
  intro i h r c e
  match i,c,e with
  |0,c,e=>
   cases c;cases e;exact⟨0,rfl,by decide,rfl⟩
  |1,c,e=>
   cases c;cases e;exact⟨0,rfl,by decide,rfl⟩
  |2,c,e=>
   cases c;cases e;exact⟨1,rfl,by decide,rfl⟩
  |n+3,c,e=>cases c
theorem Qha:balRows 3 cornerVB 3 cornerVH=cornerM:=by
 have h:∀r c,6<=c->balM cornerVB 3 cornerVH r c=0:=Qb8 (nb:=3) (nh:=3) rfl rfl;have j:∀(a b c d e f:Rat) (n:Nat),vec [a,b,c,d,e,f] (n+6)=0:=fun a b c d e f n=>by simp[vec]
 have g:∀(r:Nat) (a b c d e f:Rat),balM cornerVB 3 cornerVH r 0=a->balM cornerVB 3 cornerVH r 1=b->balM cornerVB 3 cornerVH r 2=c->balM cornerVB 3 cornerVH r 3=d->balM cornerVB 3 cornerVH r 4=e->balM cornerVB 3 cornerVH r 5=f->balM cornerVB 3 cornerVH r=vec [a,b,c,d,e,f]:=by
  intro r a b c d e f k l m o p q;funext i
  match i with
  |0=>rw[k];rfl
  |1=>rw[l];rfl
  |2=>rw[m];rfl
  |3=>rw[o];rfl
  |4=>rw[p];rfl
  |5=>rw[q];rfl
  |n+6=>rw[h r (n+6) (by omega),j]
 show [balM cornerVB 3 cornerVH 0,balM cornerVB 3 cornerVH 1,balM cornerVB 3 cornerVH 2,balM cornerVB 3 cornerVH 3,balM cornerVB 3 cornerVH 4,balM cornerVB 3 cornerVH 5]=cornerM
 rw[g 0 1 0 0 1 0 0 (by decide +kernel) (by decide +kernel) (by decide +kernel) (by decide +kernel) (by decide +kernel) (by decide +kernel),
  g 1 0 0 1 0 1 0 (by decide +kernel) (by decide +kernel) (by decide +kernel) (by decide +kernel) (by decide +kernel) (by decide +kernel),
  g 2 (-1) (-1) 0 0 0 0 (by decide +kernel) (by decide +kernel) (by decide +kernel) (by decide +kernel) (by decide +kernel) (by decide +kernel),
  g 3 0 1 0 0 0 1 (by decide +kernel) (by decide +kernel) (by decide +kernel) (by decide +kernel) (by decide +kernel) (by decide +kernel),
  g 4 0 1 0 0 0 0 (by decide +kernel) (by decide +kernel) (by decide +kernel) (by decide +kernel) (by decide +kernel) (by decide +kernel),
  g 5 0 (-1) (-1) 0 0 0 (by decide +kernel) (by decide +kernel) (by decide +kernel) (by decide +kernel) (by decide +kernel) (by decide +kernel)]
 rfl
theorem Qe0:FrameFault cornerJ cornerB cornerH 0 0:=by
 refine .inr (.inr ⟨by rintro(h|h|h|h)<;>exact absurd h (by decide),?_,.inr ⟨?_,rfl,rfl⟩⟩)
 .
  intro i x a
  match i,a with
  |0,a=>
   cases a;exact .inr ⟨⟨by decide,by decide⟩,⟨by decide,by decide⟩,_,_,rfl,rfl,0,0,1,0,1,-1,2,q0_of,q0_of,q1_of,q0_of,q1_of,qm_of,q2_of,by decide +kernel⟩
  |1,a=>
   cases a;exact .inr ⟨⟨by decide,by decide⟩,⟨by decide,by decide⟩,_,_,rfl,rfl,1,0,0,1,1,-1,2,q1_of,q0_of,q0_of,q1_of,q1_of,qm_of,q2_of,by decide +kernel⟩
  |2,a=>
   cases a;exact .inr ⟨⟨by decide,by decide⟩,⟨by decide,by decide⟩,_,_,rfl,rfl,0,1,0,0,1,-1,2,q0_of,q1_of,q0_of,q0_of,q1_of,qm_of,q2_of,by decide +kernel⟩
  |n+3,a=>cases a
 .
  intro i x a
  match i,a with
  |0,a=>cases a;decide
  |1,a=>cases a;decide
  |2,a=>cases a;decide
  |n+3,a=>cases a
def cornerL:List L3:=[⟨2,tx1,tx0⟩]
def cornerVS:List (Nat × Rat × Rat):=[(2,1,0)]
theorem Ql4:∀(i:Nat) (l:L3) (p:Nat × Rat × Rat),cornerL[i]?=some l->cornerVS[i]?=some p->LoadV 3 l p:=by
 intro i l p hl a
 match i,hl,a with
 |0,hl,a=>
  cases hl;cases a;exact⟨rfl,by decide,q1_of,q0_of,by decide,by decide⟩
 |n+1,hl,a=>cases hl
theorem Ql5:(List.range 6).map (agn cornerVS)= [0,0,0,0,-1,0]:=by decide +kernel
theorem qt1:QText tx1.data.toList 1:=⟨[49],⟨[49],.inr ⟨by decide,[1],⟨fun d a=>by simp at a;omega,.inr (by simp),by simp[val]⟩,by decide⟩,by decide⟩,.inl ⟨by decide,rfl⟩⟩
theorem qtm:QText (⟨#[45,49]⟩:ByteArray).data.toList (-1):=⟨[45,49],⟨[49],.inr ⟨by decide,[1],⟨fun d a=>by simp at a;omega,.inr (by simp),by simp[val]⟩,by decide⟩,by decide⟩,.inl ⟨by decide,rfl⟩⟩
def TLst(w:Vz)(a:Vx)(l:Vt):Prop:=∀(i:Nat) (s:Vs),l[i]?=some s->∃b off,a=some ⟨b,off,none⟩/\b<w.heap.size/\w.cell? ⟨b,off+i,none⟩=some (.string s)
theorem TLst.below{w w':Vz}{a:Vx}{l:Vt}(h:TLst w a l)(d:Below w.heap.size w w'):TLst w' a l:=fun i s f=>by
 obtain⟨b,c,g,e,j⟩:=h i s f;exact⟨b,c,g,Nat.lt_of_lt_of_le e d.size,ce d e j⟩
theorem SB.texts{w:Vz}{g:Nat}{t:Vr}{l:Vt}(h:SB w g t (textsV l).toArray):TLst w (some ⟨g,0,none⟩) l:=fun i s a=>⟨g,0,rfl,h.lt,by
 rw[Nat.zero_add,h.cell]
 simp[textsV,a]⟩
theorem Qhb(a b:Vx)(c d:Nat)(l:Vt)(w:Vz)(m:TLst w a l)(n:TLst w b l)(z:l.length<=1000000):
 Calls prog 53 #[.slice a l.length c,.slice b l.length d] w fun e w'=>e=.returned (.bool true)/\Below w.heap.size w w':=by
 obtain⟨s,t⟩:=Ia m n;clear m n;go_enter func53,ntmps53;go_wp2_with fail;go_loopw [13] (fun h wr=>∃i:Nat,i<=l.length/\h=.int .i64 i/\Below w.heap.size w wr) (fun h _=>l.length - (intOf h).toNat)
 case atStart=>exact⟨0,by omega,rfl,Below.refl _ _⟩
 case round=>
  obtain⟨i,A,rfl,g⟩:=hrel;have p:=Hi g;by_cases j:i<l.length
  .
   obtain⟨f,k⟩:∃f,l[i]?=some f:=⟨l[i],gE j⟩;obtain⟨b1,u,rfl,q,d1⟩:=s.o i f k;obtain⟨b2,v,rfl,r,d2⟩:=t.o i f k;have x:wr.cell? ⟨b1,u+i,none⟩=some (.string f):=ce g q d1;have y:wr.cell? ⟨b2,v+i,none⟩=some (.string f):=ce g r d2;have B:((i:Int)<(l.length:Int)):=by omega
   clear k d1 d2 g q r;go_wp2_with fail;go_region;go_wp2;go_roundw
   case rel=>exact⟨i+1,by omega,by go_num,p.o.drew⟩
   case measure=>simp[intOf];omega
  .
   obtain rfl:i=l.length:=by omega
   clear g;go_wp2;go_ret;exact⟨rfl,p.o⟩
theorem Qhc(a b k i:Vx)(c d t u:Nat)(x y:Vt)(w:Vz)(E:TLst w a x)(F:TLst w b y)(l:TLst w k x)(m:TLst w i y)(K:x.length<=1000000)(L:y.length<=1000000):
 Calls prog 16 #[.agg #[.slice a x.length c,.slice b y.length d],.agg #[.slice k x.length t,.slice i y.length u]] w fun e w'=>e=.returned (.bool true)/\Below w.heap.size w w':=by
 obtain⟨V,j⟩:=nm ((w.alloc (.cells #[.slice a x.length c,.slice b y.length d] 50)).alloc (.cells #[.slice k x.length t,.slice i y.length u] 50));obtain⟨G,h⟩:=nm w.heap.size;have f:Below w.heap.size w V:=by rw[<-j];exact Below.new2 w _ _
 have v:SB V G 50 #[.slice a x.length c,.slice b y.length d]:=by rw[<-j,<-h];exact(SB.new w _ _).alloc _
 have z:SB V (G+1) 50 #[.slice k x.length t,.slice i y.length u]:=by rw[<-j,<-h];exact Qan w _ _ _
 obtain⟨A,H⟩:=Ia (Qhb a k c t x V (E.below f) (l.below f) K) (⟨F.below f,m.below f⟩:TLst V b y/\TLst V i y);obtain⟨I,-⟩:=zc v;obtain⟨J,-⟩:=zc z;obtain⟨n,p,q⟩:=Ib v z f;rw[<-j,<-h] at I J;obtain⟨M,B⟩:=Ia j h;clear j h f v z E l F m;go_enter func16,ntmps16;go_wp2_with fail;rw[M.o,B.o];go_fit A.o;rintro e w1 ⟨rfl,g⟩;obtain⟨r,C⟩:=Ia (q.o.trans (g.mono q.o.size)) (Qhb b i d u y w1 (H.o.1.below g) (H.o.2.below g) L);obtain⟨-,N,-⟩:=zc (n.o.below g n.o.lt);obtain⟨-,O,-⟩:=zc (p.o.below g p.o.lt);clear g I J;go_wp2_with fail;go_fit C.o
 rintro e w2 ⟨rfl,s⟩;have D:=Hi (r.o.trans (s.mono r.o.size));clear s N O;go_wp2;go_ret;exact⟨rfl,D.o⟩
theorem Ql6{w w':Vz}{e:Ending}(h:CarrySays 3 3 cornerM [0,0,0,0,-1,0] w e w'):
 ∃m n,e=.returned (.tuple #[.agg #[.slice (some ⟨m,0,none⟩) 3 3,.slice (some ⟨n,0,none⟩) 3 3],.agg #[.int .i64 0,.int .i64 0]])/\TLst w' (some ⟨m,0,none⟩) [⟨#[49]⟩,⟨#[45,49]⟩,⟨#[49]⟩]/\TLst w' (some ⟨n,0,none⟩) [⟨#[45,49]⟩,⟨#[45,49]⟩,⟨#[49]⟩]/\Below w.heap.size w w':=by
 have f:Sol 6 cornerM [0,0,0,0,-1,0] (vec [1,-1,1,-1,-1,1]):=(Qe9 _).2 (by decide +kernel);obtain⟨h,z⟩:=h;rcases h with ⟨_,h⟩|⟨_,x,y,o,p,c,Q,d⟩|⟨m,n,x,y,us,rfl,A,B,g,j,C,k⟩
 . exact absurd f (h _)
 .
  exfalso
  obtain⟨D,E,F,G,H,I⟩:=(Qe9 x).1 o;obtain⟨J,b1,b2,K,L,M⟩:=(Qe9 y).1 p;have e:c=0∨c=1∨c=2∨c=3∨c=4∨c=5:=by omega
  rcases e with rfl|rfl|rfl|rfl|rfl|rfl
  . exact d (D.trans J.symm)
  . exact d (E.trans b1.symm)
  . exact d (F.trans b2.symm)
  . exact d (G.trans K.symm)
  . exact d (H.trans L.symm)
  . exact d (I.trans M.symm)
 .
  have N:=(k _).1 f;have b:∀(s t:Vs) (q:Rat),QText s.data.toList q->QText t.data.toList q->s=t:=fun s t q o p=>by
   have:=o.inj p;cases s;cases t
   congr 1
   exact Array.toList_inj.1 this
  have l:∀(i:Nat),i<6->∃t,us[i]?=some t/\vec [1,-1,1,-1,-1,1] i=t.q:=fun i r=>⟨us[i]'(by omega),gE (by omega),N i _ (gE (by omega))⟩
  have O:x= [⟨#[49]⟩,⟨#[45,49]⟩,⟨#[49]⟩]:=by
   have hl:x.length=3:=by rw[g.1,List.length_take];omega
   have a:∀i s,i<3->x[i]?=some s->QText s.data.toList (vec [1,-1,1,-1,-1,1] i):=fun i s r u=>by
    obtain⟨t,v,e⟩:=l i (by omega);rw[e];exact g.2 i t s (by rw[List.getElem?_take_of_lt r];exact v) u
   match x,hl,a with
   | [s0,s1,s2],_,a=>
     rw[b s0 ⟨#[49]⟩ 1 (a 0 s0 (by decide) rfl) qt1,b s1 ⟨#[45,49]⟩ (-1) (a 1 s1 (by decide) rfl) qtm,b s2 ⟨#[49]⟩ 1 (a 2 s2 (by decide) rfl) qt1]
  have P:y= [⟨#[45,49]⟩,⟨#[45,49]⟩,⟨#[49]⟩]:=by
   have hl:y.length=3:=by rw[j.1,List.length_drop];omega
   have a:∀i s,i<3->y[i]?=some s->QText s.data.toList (vec [1,-1,1,-1,-1,1] (3+i)):=fun i s r u=>by
    obtain⟨t,v,e⟩:=l (3+i) (by omega);rw[e];exact j.2 i t s (by rw[List.getElem?_drop];exact v) u
   match y,hl,a with
   | [s0,s1,s2],_,a=>
     rw[b s0 ⟨#[45,49]⟩ (-1) (a 0 s0 (by decide) rfl) qtm,b s1 ⟨#[45,49]⟩ (-1) (a 1 s1 (by decide) rfl) qtm,b s2 ⟨#[49]⟩ 1 (a 2 s2 (by decide) rfl) qt1]
  subst O;subst P;exact⟨m,n,rfl,A.texts,B.texts,z⟩
def textD{H:Type}(s:Vs):DataW H:=.lit (.string s.data.toList)
def spotD{H:Type}(s:S2):DataW H:=.agg [textD s.x,textD s.y]
def barD{H:Type}(b:B6):DataW H:=.agg [.lit (.int .i64 b.a),.lit (.int .i64 b.b),textD b.c,textD b.e,textD b.l,textD b.m]
def holdD{H:Type}(h:H3):DataW H:=.agg [.lit (.int .i64 h.j),.lit (.int .i64 h.w),textD h.q]
def loadD{H:Type}(l:L3):DataW H:=.agg [.lit (.int .i64 l.j),.agg [textD l.x,textD l.y]]
section
variable {H:Type} {enc:TypeId × Value->H} {P:Program} {w:Vz} {base:Nat} {spare:Nat->Bool} {held:Bool} {fuel:Nat} {cs:Vv} {x:DataW H × List MemPlace} {tE tS tQ tI tI':Vr} {f0 f1 f2 f3 f4 f5:Field}
theorem Qki(u:P.underlying tE=some (.struct #[f0,f1,f2,f3,f4,f5]))(f:P.underlying tQ=some .string)(s:P.underlying tI=some (.int .i64))(v:P.cellsOf tE=6)(g:P.cellsOf tQ=1)(t:P.cellsOf tI=1)
 (t0:f0.type=tI) (t1:f1.type=tI) (t2:f2.type=tQ) (t3:f3.type=tQ) (t4:f4.type=tQ) (t5:f5.type=tQ) (y:f0.offset=0) (z:f1.offset=1) (A:f2.offset=2) (B:f3.offset=3) (C:f4.offset=4) (D:f5.offset=5)
 (h:DataW.trod enc P w base spare held fuel tE cs=some x):∃b:B6,cs=b.cells/\x.1=barD b:=by
 obtain⟨xs,n,rfl,rfl,hl,i,d⟩:=DataW.trod_struct u h;rw[v] at hl;clear h;have j:=d 0 f0 rfl;have k:=d 1 f1 rfl;have o:=d 2 f2 rfl;have p:=d 3 f3 rfl;have q:=d 4 f4 rfl;have r:=d 5 f5 rfl;rw[t0,y,t] at j;rw[t1,z,t] at k;rw[t2,A,g] at o;rw[t3,B,g] at p;rw[t4,C,g] at q;rw[t5,D,g] at r;clear d
 match cs,hl,xs,i with
 | [v0,v1,v2,v3,v4,v5],_,[y0,y1,y2,y3,y4,y5],_=>
   simp only[List.drop_zero,List.drop_succ_cons,List.take_succ_cons,List.take_zero,List.getElem?_cons_zero,List.getElem?_cons_succ] at j k o p q r;obtain⟨a,E,rfl,_⟩:=DataW.trod_int s j;obtain⟨b,F,rfl,_⟩:=DataW.trod_int s k;obtain⟨c,G,rfl,_⟩:=DataW.trod_string f o;obtain⟨e,I,rfl,_⟩:=DataW.trod_string f p;obtain⟨l,J,rfl,_⟩:=DataW.trod_string f q;obtain⟨m,K,rfl,_⟩:=DataW.trod_string f r;obtain rfl:v0=_:=by simpa using E
   obtain rfl:v1=_:=by simpa using F
   obtain rfl:v2=_:=by simpa using G
   obtain rfl:v3=_:=by simpa using I
   obtain rfl:v4=_:=by simpa using J
   obtain rfl:v5=_:=by simpa using K
   exact⟨⟨a,b,c,e,l,m⟩,rfl,rfl⟩
theorem Qkj(l:P.underlying tE=some (.struct #[f0,f1,f2]))(m:P.underlying tQ=some .string)(o:P.underlying tI=some (.int .i64))(e:P.underlying tI'=some (.int .i64))(p:P.cellsOf tE=3)(q:P.cellsOf tQ=1)(r:P.cellsOf tI=1)(f:P.cellsOf tI'=1)
 (t0:f0.type=tI) (t1:f1.type=tI') (t2:f2.type=tQ) (s:f0.offset=0) (t:f1.offset=1) (u:f2.offset=2)
 (h:DataW.trod enc P w base spare held fuel tE cs=some x):∃b:H3,cs=b.cells/\x.1=holdD b:=by
 obtain⟨xs,n,rfl,rfl,hl,g,d⟩:=DataW.trod_struct l h;rw[p] at hl;clear h;have i:=d 0 f0 rfl;have j:=d 1 f1 rfl;have k:=d 2 f2 rfl;rw[t0,s,r] at i;rw[t1,t,f] at j;rw[t2,u,q] at k;clear d
 match cs,hl,xs,g with
 | [v0,v1,v2],_,[y0,y1,y2],_=>
   simp only[List.drop_zero,List.drop_succ_cons,List.take_succ_cons,List.take_zero,List.getElem?_cons_zero,List.getElem?_cons_succ] at i j k;obtain⟨a,v,rfl,_⟩:=DataW.trod_int o i;obtain⟨b,y,rfl,_⟩:=DataW.trod_int e j;obtain⟨c,z,rfl,_⟩:=DataW.trod_string m k;obtain rfl:v0=_:=by simpa using v
   obtain rfl:v1=_:=by simpa using y
   obtain rfl:v2=_:=by simpa using z
   exact⟨⟨a,b,c⟩,rfl,rfl⟩
theorem Qsw(u:P.underlying tE=some (.struct #[f0,f1,f2]))(k:P.cellsOf tE=3){t0 t1 t2:Vr}(l:f0.type=t0)(m:f1.type=t1)(o:f2.type=t2)(p:P.cellsOf t0=1)(q:P.cellsOf t1=1)(r:P.cellsOf t2=1)(s:f0.offset=0)(t:f1.offset=1)(v:f2.offset=2)
 (h:DataW.trod enc P w base spare held fuel tE cs=some x):∃n a b c d y1 y2,cs= [a,b,c]/\x.1=.agg [d.1,y1.1,y2.1]/\DataW.trod enc P w base spare held n t0 [a]=some d/\DataW.trod enc P w base spare held n t1 [b]=some y1/\DataW.trod enc P w base spare held n t2 [c]=some y2:=by
 obtain⟨xs,n,rfl,rfl,hl,f,e⟩:=DataW.trod_struct u h;rw[k] at hl;clear h;have g:=e 0 f0 rfl;have i:=e 1 f1 rfl;have j:=e 2 f2 rfl;rw[l,s,p] at g;rw[m,t,q] at i;rw[o,v,r] at j;clear e
 match cs,hl,xs,f with
 | [a,b,c],_,[d,y1,y2],_=>
   simp only[List.drop_zero,List.drop_succ_cons,List.take_succ_cons,List.take_zero,List.getElem?_cons_zero,List.getElem?_cons_succ] at g i j;exact⟨n,a,b,c,d,y1,y2,rfl,rfl,g,i,j⟩
theorem Qek{α:Type}{c:α->List Value}{dat:α->DataW H}{sz:Nat}{t:Vr}(B:α)(g:0<sz)(G:∀e,(c e).length=sz)(X:P.underlying t=some (.slice tE))(Y:P.cellsOf tE=sz)
 (C:∀(fuel:Nat) (cs:Vv) (x:DataW H × List MemPlace),DataW.trod enc P w base spare held fuel tE cs=some x->∃e,cs=c e/\x.1=dat e)
 (h:DataW.trod enc P w base spare held fuel t cs=some x):
 ∃(a:Vx) (cap:Nat) (I:List α),cs= [.slice a I.length cap]/\ARow c w a cap I/\(∀l r,x.1=.slice l r->l=I.map dat)/\((I= []/\x.1=.nil)∨∃l r,x.1=.slice l r):=by
 rcases Deep.open_slice X h with ⟨rfl,rfl⟩|⟨a,d,cap,m,n,D,Pl,rfl,hb,L,Z,hm,rfl,hD⟩
 . exact⟨none,0,[],rfl,⟨by simp,⟨fun j u A=>by simp at A⟩⟩,fun l r e=>by simp at e,.inl ⟨rfl,rfl⟩⟩
 have aa:d<=m:=by rw[hm];split<;>omega
 have o:∀i,∃f:α,i<d->w.cells? base (a.add (i*sz)) sz=some (c f)/\D i=dat f:=by
  intro i;by_cases M:i<d
  .
   obtain⟨ab,J,K⟩:=hD i (by omega);obtain⟨f,rfl,hd⟩:=C _ _ _ K;rw[Y] at J;exact⟨f,fun _=>⟨J,hd⟩⟩
  . exact⟨B,fun h=>absurd h M⟩
 obtain⟨F,N⟩:=Classical.axiomOfChoice o;refine⟨some a,cap,(List.range d).map F,by simp,⟨by simpa using L,⟨?_⟩⟩,?_,.inr ⟨_,_,rfl⟩⟩
 .
  intro j u A;have p:=(gZ A).1;rw[Qbb G] at p;simp only[List.length_map,List.length_range] at p;have q:j / sz<d:=(Nat.div_lt_iff_lt_mul g).2 p;have O:j % sz<sz:=Nat.mod_lt _ g;obtain⟨U,E⟩:∃U,(c (F (j / sz)))[j % sz]?=some U:=⟨_,gE (by rw[G];exact O)⟩;have J:((List.range d).map F)[j / sz]?=some (F (j / sz)):=by simp[q]
  have K:=Qcx G _ _ _ _ _ J E;rw[Nat.div_add_mod' j sz,A] at K;obtain rfl:=Option.some.inj K;obtain⟨Q,_⟩:=N _ q;obtain⟨_,_,s⟩:=World.cells?_some Q;obtain⟨b,y,V⟩:=a;have R:=s (j % sz) (by omega);have z:=(World.cells?_some (N 0 (Nat.lt_of_le_of_lt (Nat.zero_le _) q)).1).2.2 0 g;have S:V=none:=by
   cases V with
   |none=>rfl
   |some v=>
    exfalso
    obtain⟨W,T⟩:∃W,(c (F 0))[0]?=some W:=⟨_,gE (by rw[G];exact g)⟩;rw[T] at z;simp only[Nat.zero_mul,Addr.add,if_true,World.cell?] at z
    split at z<;>simp at z
  subst S;have ea:∀j k,(Addr.add ⟨b,y,none⟩ j).add k=⟨b,y+j+k,none⟩:=by
   intro j k;unfold Addr.add;by_cases A:j=0<;>by_cases hk:k=0<;>simp[A,hk]
  rw[ea,E,Nat.add_assoc,Nat.div_add_mod'] at R;exact⟨b,y,rfl,World.block_lt_of_cell? _ _ R,R⟩
 .
  intro l r e;have e1:(List.range d).map D=l:=by simpa using (DataW.slice.inj e).1
  rw[<-e1,List.map_map];refine List.map_congr_left fun i M=>?_
  exact(N i (by simpa using M)).2
end
end Go.Proofs.YtppkmifkpjkgpaaGreatDoor
namespace Go.Proofs.YtppkmifkpjkgpaaGreatDoor
open Go.ChangeShapes Go.WideShapes Go.ChangeAt Go.RowKit
open Go.Proofs.Tryz
set_option linter.unusedSimpArgs false
set_option linter.unusedVariables false
set_option maxHeartbeats 8000000
set_option maxRecDepth 1000000
theorem Qgq:prog.cellsOf 80=6:=by kernel_rfl
theorem Qgr:prog.cellsOf 83=3:=by kernel_rfl
theorem Qt0:prog.cellsOf 22=1:=by kernel_rfl
theorem Qt1:prog.cellsOf 23=1:=by kernel_rfl
theorem Qt2:prog.cellsOf 24=1:=by kernel_rfl
theorem Qt3:prog.cellsOf 26=3:=by kernel_rfl
theorem Qt4:prog.readableRec 26=true:=by kernel_rfl
theorem Qt5:26<prog.types.size:=by refine of_decide_eq_true ?_;kernel_rfl
section
variable {H:Type}
theorem Qeo{α:Type}(dat:α->DataW H)(b:∀e,1<=Rows.uptoBulk (dat e))(a:List α):a.length<=Rows.uptoBulkAll (a.map dat):=by
 induction a with
 |nil=>simp
 |cons e l c=>
  have:=b e;simp only[List.map_cons,Rows.uptoBulkAll,List.length_cons];omega
theorem Qdb{α:Type}{dat:α->DataW H}{a:List α}{d:DataW H}{N:Nat}(b:Rows.uptoBulk d<=N)(hl:∀l r,d=.slice l r->l=a.map dat)(c:(a= []/\d=.nil)∨∃l r,d=.slice l r):Rows.uptoBulkAll (a.map dat)<=N:=by
 rcases c with ⟨rfl,_⟩|⟨l,r,rfl⟩
 . simp[Rows.uptoBulkAll]
 . rw[<-hl l r rfl]
   exact Nat.le_trans (Qtp l r) b
theorem Qgs(s:S2):1<=Rows.uptoBulk (spotD (H:=H) s)/\s.x.size+s.y.size<=Rows.uptoBulk (spotD (H:=H) s):=by
 simp[spotD,textD,Rows.uptoBulk,Rows.uptoBulkAll];omega
theorem Qkv(b:B6):1<=Rows.uptoBulk (barD (H:=H) b)/\b.c.size+b.e.size+b.l.size+b.m.size<=Rows.uptoBulk (barD (H:=H) b):=by
 simp[barD,textD,Rows.uptoBulk,Rows.uptoBulkAll];omega
theorem Qkw(h:H3):1<=Rows.uptoBulk (holdD (H:=H) h)/\h.q.size<=Rows.uptoBulk (holdD (H:=H) h):=by
 simp[holdD,textD,Rows.uptoBulk,Rows.uptoBulkAll];omega
theorem Qgt{α:Type}(dat:α->DataW H){a:List α}{e:α}(b:e∈ a):Rows.uptoBulk (dat e)<=Rows.uptoBulkAll (a.map dat):=Qku (List.mem_map.2 ⟨e,b,rfl⟩)
variable {enc:TypeId × Value->H} {W:Vz}
theorem Qt6{b:Vw}{d:DataW H}{C:List MemPlace}(r:Rows.uptoBulk d<=1048576)
 (h:DataW.Trod enc prog W 0 (fun _=>true) true 26 (.agg b) d C):
 ∃(m o q:Vx) (c1 c2 c3:Nat) (f:List S2) (g:List B6) (i:List H3),b=#[.slice m f.length c1,.slice o g.length c2,.slice q i.length c3]/\FrRow W m o q c1 c2 c3 f g i/\FrSized f g i/\f.length<=1048576/\g.length<=1048576/\i.length<=1048576/\Rows.uptoBulkAll (f.map (spotD (H:=H)))<=Rows.uptoBulk d:=by
 obtain⟨a,h⟩:=h;obtain⟨n,D,E,F,v,y1,y2,k,j,G,I,J⟩:=Qsw underlying26 Qt3 rfl rfl rfl Qt0 Qt1 Qt2 rfl rfl rfl h;have w:(Value.agg b).cells.toList=b.toList:=by rfl
 rw[w] at k;clear h w;obtain⟨m,c1,f,K,L,y,z⟩:=Qek (c:=S2.cells) (dat:=spotD) (sz:=2) ⟨⟨#[]⟩,⟨#[]⟩⟩ (by decide) (fun _=>rfl) underlying22 Qda (fun a b x j=>by
  obtain⟨s,t,e,u,_⟩:=Qgm underlying56 underlying54 Qda Qbv rfl rfl rfl rfl j
  exact⟨⟨s,t⟩,e,u⟩) G
 obtain⟨o,c2,g,M,N,O,P⟩:=Qek (c:=B6.cells) (dat:=barD) (sz:=6) ⟨0,0,⟨#[]⟩,⟨#[]⟩,⟨#[]⟩,⟨#[]⟩⟩ (by decide) (fun _=>rfl) underlying23 Qgq (fun a b x j=>Qki underlying80 underlying54 underlying3 Qgq Qbv cellsInt rfl rfl rfl rfl rfl rfl rfl rfl rfl rfl rfl rfl j) I;obtain⟨q,c3,i,Q,R,S,T⟩:=Qek (c:=H3.cells) (dat:=holdD) (sz:=3) ⟨0,0,⟨#[]⟩⟩ (by decide) (fun _=>rfl) underlying24 Qgr (fun a b x j=>Qkj underlying83 underlying54 underlying3 underlying3 Qgr Qbv cellsInt cellsInt rfl rfl rfl rfl rfl rfl j) J;obtain rfl:D=_:=by simpa using K
 obtain rfl:E=_:=by simpa using M
 obtain rfl:F=_:=by simpa using Q
 have u:d=.agg [v.1,y1.1,y2.1]:=j;subst u;have U:Rows.uptoBulk v.1<=1048576:=Nat.le_trans (by simp only[Rows.uptoBulk,Rows.uptoBulkAll];omega) r;have b1:Rows.uptoBulk y1.1<=1048576:=Nat.le_trans (by simp only[Rows.uptoBulk,Rows.uptoBulkAll];omega) r;have b2:Rows.uptoBulk y2.1<=1048576:=Nat.le_trans (by simp only[Rows.uptoBulk,Rows.uptoBulkAll];omega) r;have V:=Qdb U y z;have X:=Qdb b1 O P;have Y:=Qdb b2 S T;have Z:=Qeo (H:=H) spotD (fun e=>(Qgs e).1) f;have n1:=Qeo (H:=H) barD (fun e=>(Qkv e).1) g;have n2:=Qeo (H:=H) holdD (fun e=>(Qkw e).1) i;refine⟨m,o,q,c1,c2,c3,f,g,i,by rw[<-Array.toArray_toList (xs:=b),k],⟨L,N,R⟩,⟨fun p l=>?_,fun p l=>?_,fun p l=>?_⟩,by omega,by omega,by omega,Nat.le_trans (Qdb lZ y z) (by simp only[Rows.uptoBulk,Rows.uptoBulkAll];omega)⟩
 .
  have A:=Qgt (H:=H) spotD l;have B:=(Qgs (H:=H) p).2;omega
 .
  have A:=Qgt (H:=H) barD l;have B:=(Qkv (H:=H) p).2;omega
 .
  have A:=Qgt (H:=H) holdD l;have B:=(Qkw (H:=H) p).2;omega
end
end Go.Proofs.YtppkmifkpjkgpaaGreatDoor
namespace Go.Proofs.YtppkmifkpjkgpaaGreatDoor
open Go.Proofs.Tryz
set_option linter.unusedSimpArgs false
set_option linter.unusedVariables false
set_option maxHeartbeats 8000000
set_option maxRecDepth 1000000
def unitV(c:Nat):Vec:=fun i=>if i=c then 1 else 0
open Go.RowKit
def appR(P:Program)(t ty:Vr)(vs vx:Value)(w:Vz):Result Value:=(Builtin.append_ #[t,t] ty #[vs,vx]).run P w
@[go_sem ↓] theorem Qwo (ρ:Operand->Value) (dst:Option Tmp) (x y:Operand) (t ty:Vr) (pos:String) (after:Array Go.Edge) (guard:Option (Nat × Bool)) (w:Vz):
   (execOp ρ { dst,op:=.call { callee:=.builtin .append,args:=#[x,y],argTypes:=#[t,t] },type:=ty,pos,after,guard }).run prog w=(appR prog t ty (ρ x) (ρ y) w).andThen (fun v w'=>.ok (.value v) w'):=by
  have e:(#[x,y]:Array Operand).map ρ=#[ρ x,ρ y]:=by simp
  rw[BigFrame.execOp_builtin,BigFrame.builtin_append,e,Sem.run_bind]
  unfold appR
  simp only[Sem.run_pure]
theorem Qlb{w w':Vz}{B:Nat}{v:Value}(h:w.grownBy w' v.ownBlock)(a:∀g,v.ownBlock=some g->B<=g)(hB:B<=w.heap.size):Below B w w':=
 ⟨h.os,h.tape,h.output,h.size,fun b c=>h.block b (by omega) (fun e=>by have:=a b e.symm;omega)⟩
end Go.Proofs.YtppkmifkpjkgpaaGreatDoor
namespace Go.Proofs.YtppkmifkpjkgpaaGreatDoor
open Go.Proofs.Tryz
set_option linter.unusedSimpArgs false
set_option linter.unusedVariables false
set_option maxHeartbeats 8000000
set_option maxRecDepth 1000000
theorem Qnr(p:Rat):p*(p.den:Rat)=(p.num:Rat):=by
 have a:(p.den:Rat)≠0:=by
  intro h;exact p.den_nz (Rat.natCast_inj.1 (by rw[h];rfl))
 have:p=(p.num:Rat) / (p.den:Rat):=by rw[<-Rat.mkRat_eq_div,Rat.mkRat_self]
 rw[Rat.div_def] at this;have e:p*(p.den:Rat)=(p.num:Rat)*(p.den:Rat)⁻¹*(p.den:Rat):=by rw[<-this]
 rw[e,Rat.mul_assoc,Rat.inv_mul_cancel _ a,Rat.mul_one]
def denP:List Rat->Nat
 | []=>1
 |q :: l=>q.den*denP l
theorem Qhx:∀l:List Rat,0<denP l
 | []=>by decide
 |q :: l=>Nat.mul_pos q.den_pos (Qhx l)
theorem Qhy:∀(l:List (Rat × Nat)),(∀p,p∈ l->Fits p.1 p.2)->denP (l.map (·.1))<=2 ^ (l.map (·.2)).sum
 | [],_=>by decide
 |p :: l,h=>by
  rw[List.map_cons,List.map_cons,denP,List.sum_cons,Nat.pow_add];exact Nat.mul_le_mul (Nat.le_of_lt (h p (by simp)).2) (Qhy l fun q a=>h q (by simp[a]))
def Wh(P b:Nat)(q:Rat):Prop:=∃z:Int,q*(P:Rat)=(z:Rat)/\z.natAbs<=2 ^ b
theorem Wh.mono{P b c:Nat}{q:Rat}(h:Wh P b q)(a:b<=c):Wh P c q:=by
 obtain⟨z,e,d⟩:=h;exact⟨z,e,Nat.le_trans d (Nat.pow_le_pow_right (by decide) a)⟩
theorem Wh.zero(P b:Nat):Wh P b 0:=⟨0,by rw[Rat.zero_mul];rfl,by simp⟩
theorem Wh.neg{P b:Nat}{q:Rat}(h:Wh P b q):Wh P b (-q):=by
 obtain⟨z,e,a⟩:=h;refine⟨-z,?_,by rw[Int.natAbs_neg];exact a⟩;rw[Rat.intCast_neg,<-e];grind
theorem Wh.sub{P b:Nat}{p q:Rat}(h:Wh P b p)(k:Wh P b q):Wh P (b+1) (p - q):=by
 obtain⟨y,e,a⟩:=h;obtain⟨z,f,c⟩:=k;refine⟨y - z,?_,?_⟩
 . rw[Rat.intCast_sub,<-e,<-f]
   grind
 . rw[Nat.pow_succ]
   omega
theorem Wh.of_mem:∀{l:List Rat} {q:Rat} {k m:Nat},q∈ l->Fits q k->denP l<=2 ^ m->Wh (denP l) (k+m) q
 |p :: l,q,k,m,h,hf,hm=>by
  have b:∀(t:List Rat) (q:Rat),q∈ t->∃d:Nat,denP t=q.den*d/\d<=denP t:=fun t=>by
   induction t with
   |nil=>intro q a;cases a
   |cons p t f=>
    intro q a;rcases List.mem_cons.1 a with rfl|a
    . exact⟨denP t,rfl,Nat.le_mul_of_pos_left _ q.den_pos⟩
    .
     obtain⟨d,e,c⟩:=f q a;refine⟨p.den*d,?_,?_⟩
     . rw[denP,e,Nat.mul_left_comm]
     . rw[denP];exact Nat.mul_le_mul_left _ c
  obtain⟨d,e,c⟩:=b _ q h;refine⟨q.num*(d:Int),?_,?_⟩
  . rw[e,Rat.natCast_mul,<-Rat.mul_assoc,Qnr,Rat.intCast_mul,Rat.intCast_natCast]
  . rw[Int.natAbs_mul,Int.natAbs_natCast,Nat.pow_add]
    exact Nat.mul_le_mul (Nat.le_of_lt hf.1) (Nat.le_trans c hm)
theorem Wh.one{P b:Nat}(h:P<=2 ^ b):Wh P b 1:=⟨(P:Int),by rw[Rat.one_mul,Rat.intCast_natCast],by simpa using h⟩
theorem Qns{a b:Nat}(c:a=2 ^ b):(20+1)*(a*(2*((20+1)*a)) ^ 20)<=2 ^ (5+(b+(6+b)*20)):=by
 have f:2 ^ 6=64:=by decide
 have e:2*((20+1)*a)<=2 ^ (6+b):=by rw[Nat.pow_add,c];omega
 have d:(2*((20+1)*a)) ^ 20<=(2 ^ (6+b)) ^ 20:=Nat.pow_le_pow_left e 20;rw[<-Nat.pow_mul] at d;rw[Nat.pow_add 2 5,Nat.pow_add 2 b,<-c];exact Nat.mul_le_mul (by decide) (Nat.mul_le_mul_left _ d)
abbrev kE(b:Nat):Nat:=21*b+126
abbrev kC(b:Nat):Nat:=22*b+126
abbrev kW(b:Nat):Nat:=41*kC b+20
theorem Qhz{b W P:Nat}{M:List Vec}(m:0<P)(e:P<=2 ^ b)(f:∀r,r∈ M->∀j,Wh P b (r j))(n:∀r,r∈ M->∀i,W<=i->r i=0)(hl:M.length<=20∨W<=20):
 Going (kE b) (MJ W 20 (kC b) M)/\MJ W 20 (kC b) M 0 M [] []/\∀L S c,MJ W 20 (kC b) M W L S c->(Ech 0 W S c/\∀x,Null W M x↔Null W S x)/\clnFits (kW b) S c/\∀v,v∈ cln S c->∀i,Fits (v i) (kC b):=by
 have g:∀j:Nat,0<(fun _=>P) j/\(fun _=>P) j<=2 ^ b:=fun _=>⟨m,e⟩
 have k:=Qns (a:=2 ^ b) (b:=b) rfl;have l:0<2 ^ b:=Nat.pow_pos (by decide);have o:(20+1)*(2 ^ b*(2*((20+1)*2 ^ b)) ^ 20)<2 ^ kE b:=Nat.lt_of_le_of_lt k (Nat.pow_lt_pow_right (by decide) (by simp only[kE];omega));have d:(20+1)*(2 ^ b*(2*((20+1)*2 ^ b)) ^ 20)*2 ^ b<2 ^ kC b:=by
  refine Nat.lt_of_le_of_lt (Nat.mul_le_mul_right _ k) ?_;rw[<-Nat.pow_add];exact Nat.pow_lt_pow_right (by decide) (by simp only[kC];omega)
 refine⟨MJ.going (D:=fun _=>P) l g f o (by simp only[kE];omega) d (by simp only[kC];omega),MJ.start W 20 _ M n hl,fun L S c h=>⟨h.1.done,?_⟩⟩;exact MJ.clean (D:=fun _=>P) l g f d (by simp only[kC];omega) (by simp only[kW,kC];omega) h
theorem Going.mono{K K':Nat}{I:Nat->List Vec->List Vec->List Nat->Prop}(h:Going K I)(a:K<=K'):Going K' I:=⟨fun b r c i=>(h.fit b r c i).mono a,h.skip,h.step⟩
end Go.Proofs.YtppkmifkpjkgpaaGreatDoor
