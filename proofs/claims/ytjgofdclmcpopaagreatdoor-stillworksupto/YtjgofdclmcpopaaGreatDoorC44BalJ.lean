import Derived.Test.YtjgofdclmcpopaaGreatDoorC43BalG
namespace Go.Proofs.YtjgofdclmcpopaaGreatDoor
open Go.RowKit
open Go.Proofs.Tryz
set_option linter.unusedSimpArgs false
set_option linter.unusedVariables false
set_option maxHeartbeats 8000000
set_option maxRecDepth 1000000
theorem q_of{l t a:List UInt8}{v q:Rat}(h1:Lib.trimPrefix l [45]=t)(h2:Lib.cut t [47]=(a,[],false))(h3:IsDig a)(hv:v=mkRat (decVal a:Nat) 1)(hq:q=if Lib.hasPrefix l [45]=true then -v else v):QOf l q:=by
 refine⟨v,.inl ⟨⟨?_,?_⟩,?_⟩,hq⟩
 . rw[h1,h2];exact h3
 . rw[h1,h2];intro h;cases h
 . rw[h1,h2];simpa using hv
theorem Qes{c:UInt8}(h1:48<=c.toNat)(h2:c.toNat<=57):IsDig [c]:=⟨by simp,fun d hd=>by
 obtain rfl:d=c:=by simpa using hd
 exact⟨h1,h2⟩⟩
theorem q0_of:QOf tx0.data.toList 0:=q_of (l:=[48]) (t:=[48]) (a:=[48]) (v:=0) (by decide) (by decide) (Qes (by decide) (by decide)) (by decide) (by decide)
theorem q1_of:QOf tx1.data.toList 1:=one_q
theorem qm_of:QOf (⟨#[45,49]⟩:ByteArray).data.toList (-1):=q_of (l:=[45,49]) (t:=[49]) (a:=[49]) (v:=1) (by decide) (by decide) (Qes (by decide) (by decide)) (by decide) (by decide)
theorem q2_of:QOf (⟨#[50]⟩:ByteArray).data.toList 2:=q_of (l:=[50]) (t:=[50]) (a:=[50]) (v:=2) (by decide) (by decide) (Qes (by decide) (by decide)) (by decide) (by decide)
theorem Qet:FrSized cornerJ cornerB cornerH:=by
 refine⟨?_,?_,?_⟩
 .
  intro p hp;simp[cornerJ] at hp;rcases hp with rfl|rfl|rfl<;>exact⟨by decide,by decide⟩
 .
  intro b hb;simp[cornerB,cornerBar] at hb;rcases hb with rfl|rfl|rfl<;>exact⟨by decide,by decide,by decide,by decide⟩
 .
  intro x hx;simp[cornerH] at hx;rcases hx with rfl|rfl|rfl<;>decide
def cornerVB:List (Nat × Nat × Rat × Rat):=[(0,1,1,0),(1,2,-1,1),(2,0,0,-1)]
def cornerVH:List Nat:=[0,1,3]
theorem Qgy:FrV 1 cornerJ cornerB cornerH cornerVB cornerVH:=by
 refine⟨by decide,by decide,by decide,rfl,rfl,?_,?_,by decide⟩
 .
  intro i b p hb hp
  match i,hb,hp with
  |0,hb,hp=>
   cases hb;cases hp;exact⟨rfl,rfl,by decide,_,_,0,0,1,0,rfl,rfl,by decide,by decide,by decide,by decide,q0_of,q0_of,q1_of,q0_of,by decide +kernel,by decide +kernel⟩
  |1,hb,hp=>
   cases hb;cases hp;exact⟨rfl,rfl,by decide,_,_,1,0,0,1,rfl,rfl,by decide,by decide,by decide,by decide,q1_of,q0_of,q0_of,q1_of,by decide +kernel,by decide +kernel⟩
  |2,hb,hp=>
   cases hb;cases hp;exact⟨rfl,rfl,by decide,_,_,0,1,0,0,rfl,rfl,by decide,by decide,by decide,by decide,q0_of,q1_of,q0_of,q0_of,by decide +kernel,by decide +kernel⟩
  |n+3,hb,hp=>cases hb
 .
  intro i h r hh hr
  match i,hh,hr with
  |0,hh,hr=>
   cases hh;cases hr;exact⟨0,rfl,by decide,rfl⟩
  |1,hh,hr=>
   cases hh;cases hr;exact⟨0,rfl,by decide,rfl⟩
  |2,hh,hr=>
   cases hh;cases hr;exact⟨1,rfl,by decide,rfl⟩
  |n+3,hh,hr=>cases hh
theorem Qgz:balRows 3 cornerVB 3 cornerVH=cornerM:=by
 have hb:∀r c,6<=c->balM cornerVB 3 cornerVH r c=0:=Qbv (nb:=3) (nh:=3) rfl rfl;have hv:∀(a b c d e f:Rat) (n:Nat),vec [a,b,c,d,e,f] (n+6)=0:=fun a b c d e f n=>by simp[vec]
 have key:∀(r:Nat) (a b c d e f:Rat),balM cornerVB 3 cornerVH r 0=a->balM cornerVB 3 cornerVH r 1=b->balM cornerVB 3 cornerVH r 2=c->balM cornerVB 3 cornerVH r 3=d->balM cornerVB 3 cornerVH r 4=e->balM cornerVB 3 cornerVH r 5=f->balM cornerVB 3 cornerVH r=vec [a,b,c,d,e,f]:=by
  intro r a b c d e f h0 h1 h2 h3 h4 h5;funext i
  match i with
  |0=>rw[h0];rfl
  |1=>rw[h1];rfl
  |2=>rw[h2];rfl
  |3=>rw[h3];rfl
  |4=>rw[h4];rfl
  |5=>rw[h5];rfl
  |n+6=>rw[hb r (n+6) (by omega),hv]
 show [balM cornerVB 3 cornerVH 0,balM cornerVB 3 cornerVH 1,balM cornerVB 3 cornerVH 2,balM cornerVB 3 cornerVH 3,balM cornerVB 3 cornerVH 4,balM cornerVB 3 cornerVH 5]=cornerM
 rw[key 0 1 0 0 1 0 0 (by decide +kernel) (by decide +kernel) (by decide +kernel) (by decide +kernel) (by decide +kernel) (by decide +kernel),
  key 1 0 0 1 0 1 0 (by decide +kernel) (by decide +kernel) (by decide +kernel) (by decide +kernel) (by decide +kernel) (by decide +kernel),
  key 2 (-1) (-1) 0 0 0 0 (by decide +kernel) (by decide +kernel) (by decide +kernel) (by decide +kernel) (by decide +kernel) (by decide +kernel),
  key 3 0 1 0 0 0 1 (by decide +kernel) (by decide +kernel) (by decide +kernel) (by decide +kernel) (by decide +kernel) (by decide +kernel),
  key 4 0 1 0 0 0 0 (by decide +kernel) (by decide +kernel) (by decide +kernel) (by decide +kernel) (by decide +kernel) (by decide +kernel),
  key 5 0 (-1) (-1) 0 0 0 (by decide +kernel) (by decide +kernel) (by decide +kernel) (by decide +kernel) (by decide +kernel) (by decide +kernel)]
 rfl
theorem Qeu:FrameFault cornerJ cornerB cornerH 0 0:=by
 refine .inr (.inr ⟨by rintro(h|h|h|h)<;>exact absurd h (by decide),?_,.inr ⟨?_,rfl,rfl⟩⟩)
 .
  intro i x hx
  match i,hx with
  |0,hx=>
   cases hx;exact .inr ⟨⟨by decide,by decide⟩,⟨by decide,by decide⟩,_,_,rfl,rfl,0,0,1,0,1,-1,2,q0_of,q0_of,q1_of,q0_of,q1_of,qm_of,q2_of,by decide +kernel⟩
  |1,hx=>
   cases hx;exact .inr ⟨⟨by decide,by decide⟩,⟨by decide,by decide⟩,_,_,rfl,rfl,1,0,0,1,1,-1,2,q1_of,q0_of,q0_of,q1_of,q1_of,qm_of,q2_of,by decide +kernel⟩
  |2,hx=>
   cases hx;exact .inr ⟨⟨by decide,by decide⟩,⟨by decide,by decide⟩,_,_,rfl,rfl,0,1,0,0,1,-1,2,q0_of,q1_of,q0_of,q0_of,q1_of,qm_of,q2_of,by decide +kernel⟩
  |n+3,hx=>cases hx
 .
  intro i x hx
  match i,hx with
  |0,hx=>cases hx;decide
  |1,hx=>cases hx;decide
  |2,hx=>cases hx;decide
  |n+3,hx=>cases hx
def cornerL:List L3:=[⟨2,tx1,tx0⟩]
def cornerVS:List (Nat × Rat × Rat):=[(2,1,0)]
theorem Ql2:∀(i:Nat) (l:L3) (p:Nat × Rat × Rat),cornerL[i]?=some l->cornerVS[i]?=some p->LoadV 3 l p:=by
 intro i l p hl hp
 match i,hl,hp with
 |0,hl,hp=>
  cases hl;cases hp;exact⟨rfl,by decide,q1_of,q0_of,by decide,by decide⟩
 |n+1,hl,hp=>cases hl
theorem Ql3:(List.range 6).map (agn cornerVS)= [0,0,0,0,-1,0]:=by decide +kernel
theorem Qdc{q:Rat}(h:q=0∨q=1∨q= -1):Fits q 1:=by
 rcases h with rfl|rfl|rfl<;>exact⟨by decide +kernel,by decide +kernel⟩
theorem Ql4(k i:Nat):Fits (agn (cornerVS.take k) i) 1:=by
 match k with
 |0=>exact Fits.zero
 |k+1=>
  have e:cornerVS.take (k+1)=cornerVS:=by simp[cornerVS]
  rw[e];have e2:agn cornerVS=agnStep (fun _=>0) (2,1,0):=rfl;rw[e2];by_cases h4:i=4
  . subst h4
    exact Qdc (by decide +kernel)
  .
   by_cases h5:i=5
   . subst h5
     exact Qdc (by decide +kernel)
   . rw[Qk5 (by simpa using h4) (by simpa using h5)]
     exact Fits.zero
theorem Ql5{l:List Rat}(h:∀q,q∈ l->q=0∨q=1∨q= -1):Short 1 (vec l):=fun i=>by
 unfold vec;rcases hq:l[i]? with _|q
 . simp[List.getD,hq]
   exact Fits.zero
 . simp[List.getD,hq]
   exact Qdc (h q (mO hq))
theorem Qg0:∀r,r∈ cornerM->Short 1 r:=by
 intro r hr;simp only[cornerM,List.mem_cons,List.not_mem_nil,or_false] at hr;rcases hr with rfl|rfl|rfl|rfl|rfl|rfl<;>exact Ql5 (by decide +kernel)
theorem Qg1:∀r,r∈ cornerM->∀i,6<=i->r i=0:=by
 intro r hr i hi;simp only[cornerM,List.mem_cons,List.not_mem_nil,or_false] at hr;obtain⟨n,rfl⟩:∃n,i=n+6:=⟨i - 6,by omega⟩;rcases hr with rfl|rfl|rfl|rfl|rfl|rfl<;>simp[vec]
def cornerW:List Vec:=List.zipWith (wider 6) cornerM [0,0,0,0,-1,0]
theorem Qg2:∀r,r∈ cornerW->Short 1 r/\∀i,7<=i->r i=0:=by
 intro r hr;have hmem:∃m v,m∈ cornerM/\(v=0∨v=1∨v= -1)/\r=wider 6 m v:=by
  simp only[cornerW,cornerM,List.zipWith_cons_cons,List.zipWith_nil_left,List.mem_cons,List.not_mem_nil,or_false] at hr;rcases hr with rfl|rfl|rfl|rfl|rfl|rfl
  . exact⟨_,_,by simp[cornerM],.inl rfl,rfl⟩
  . exact⟨_,_,by simp[cornerM],.inl rfl,rfl⟩
  . exact⟨_,_,by simp[cornerM],.inl rfl,rfl⟩
  . exact⟨_,_,by simp[cornerM],.inl rfl,rfl⟩
  . exact⟨_,_,by simp[cornerM],.inr (.inr rfl),rfl⟩
  . exact⟨_,_,by simp[cornerM],.inl rfl,rfl⟩
 obtain⟨m,v,hm,hv,rfl⟩:=hmem;refine⟨fun i=>?_,fun i hi=>?_⟩
 .
  unfold wider
  split
  . exact Qdc hv
  . exact Qg0 m hm i
 .
  unfold wider;rw[if_neg (by omega)];exact Qg1 m hm i (by omega)
def cornerK:Nat:=cb 21845 6
theorem cornerK_big:21845<=cornerK/\cornerK<17000000000:=by decide
theorem Ql6{L S:List Vec}{hh:List Nat}(h:NI 6 6 1 cornerM 6 L S hh):S.length=6:=by
 obtain⟨h1,h2,_,_⟩:=h.done;rw[h1.len];exact h1.full (fun x hx c hc=>Qnj x ((h2 x).2 hx) c hc)
theorem Ql7{L S:List Vec}{hh:List Nat}(h:NI 7 6 1 cornerW 7 L S hh):Ech 0 7 S hh/\(∀x,Null 7 cornerW x↔Null 7 S x)/\clnFits cornerK S hh:=by
 obtain⟨h1,h2,h3,h4⟩:=h.done;rw[corner_bounds.1] at h3;exact⟨h1,h2,(Qiw (by decide) h1.len h3 (Qpi 21845 h4)).1⟩
theorem qt1:QText tx1.data.toList 1:=⟨[49],⟨[49],.inr ⟨by decide,[1],⟨fun d hd=>by simp at hd;omega,.inr (by simp),by simp[val]⟩,by decide⟩,by decide⟩,.inl ⟨by decide,rfl⟩⟩
theorem qtm:QText (⟨#[45,49]⟩:ByteArray).data.toList (-1):=⟨[45,49],⟨[49],.inr ⟨by decide,[1],⟨fun d hd=>by simp at hd;omega,.inr (by simp),by simp[val]⟩,by decide⟩,by decide⟩,.inl ⟨by decide,rfl⟩⟩
def TLst(w:World)(a:Option Addr)(l:List ByteArray):Prop:=∀(i:Nat) (s:ByteArray),l[i]?=some s->∃b off,a=some ⟨b,off,none⟩/\b<w.heap.size/\w.cell? ⟨b,off+i,none⟩=some (.string s)
theorem TLst.below{w w':World}{a:Option Addr}{l:List ByteArray}(h:TLst w a l)(hb:Below w.heap.size w w'):TLst w' a l:=fun i s hi=>by
 obtain⟨b,off,h1,h2,h3⟩:=h i s hi;exact⟨b,off,h1,Nat.lt_of_lt_of_le h2 hb.size,ce hb h2 h3⟩
theorem SB.texts{w:World}{g:Nat}{t:TypeId}{l:List ByteArray}(h:SB w g t (textsV l).toArray):TLst w (some ⟨g,0,none⟩) l:=fun i s hi=>⟨g,0,rfl,h.lt,by
 rw[Nat.zero_add,h.cell]
 simp[textsV,hi]⟩
theorem Qg3(a b:Option Addr)(c d:Nat)(l:List ByteArray)(w:World)(hu:TLst w a l)(hv:TLst w b l)(hs:l.length<=1000000):
 Calls prog 127 #[.slice a l.length c,.slice b l.length d] w fun e w'=>e=.returned (.bool true)/\Below w.heap.size w w':=by
 obtain⟨HC,HD⟩:=Ia hu hv;clear hu hv;go_enter func127,ntmps127;go_wp2_with fail;go_loopw [13] (fun iv wr=>∃i:Nat,i<=l.length/\iv=.int .i64 i/\Below w.heap.size w wr) (fun iv _=>l.length - (intOf iv).toNat)
 case atStart=>exact⟨0,by omega,rfl,Below.refl _ _⟩
 case round=>
  obtain⟨i,hi,rfl,hb⟩:=hrel;have HB:=Hi hb;by_cases hie:i<l.length
  .
   obtain⟨f,hf⟩:∃f,l[i]?=some f:=⟨l[i],gE hie⟩;obtain⟨b1,o1,rfl,h1,d1⟩:=HC.o i f hf;obtain⟨b2,o2,rfl,h2,d2⟩:=HD.o i f hf;have d1':wr.cell? ⟨b1,o1+i,none⟩=some (.string f):=ce hb h1 d1;have d2':wr.cell? ⟨b2,o2+i,none⟩=some (.string f):=ce hb h2 d2;have q3:((i:Int)<(l.length:Int)):=by omega
   clear hf d1 d2 hb h1 h2;go_wp2_with fail;go_region;go_wp2;go_roundw
   case rel=>exact⟨i+1,by omega,by go_num,HB.o.drew⟩
   case measure=>simp[intOf];omega
  .
   obtain rfl:i=l.length:=by omega
   clear hb;go_wp2;go_ret;exact⟨rfl,HB.o⟩
theorem Ql8(a b a' b':Option Addr)(c d c' d':Nat)(x y:List ByteArray)(w:World)(hx:TLst w a x)(hy:TLst w b y)(hx':TLst w a' x)(hy':TLst w b' y)(lx:x.length<=1000000)(ly:y.length<=1000000):
 Calls prog 45 #[.agg #[.slice a x.length c,.slice b y.length d],.agg #[.slice a' x.length c',.slice b' y.length d']] w fun e w'=>e=.returned (.bool true)/\Below w.heap.size w w':=by
 obtain⟨V,hV⟩:=nm ((w.alloc (.cells #[.slice a x.length c,.slice b y.length d] 90)).alloc (.cells #[.slice a' x.length c',.slice b' y.length d'] 90));obtain⟨B0,hB0⟩:=nm w.heap.size;have hbV:Below w.heap.size w V:=by rw[<-hV];exact Below.new2 w _ _
 have s1:SB V B0 90 #[.slice a x.length c,.slice b y.length d]:=by rw[<-hV,<-hB0];exact(SB.new w _ _).alloc _
 have s2:SB V (B0+1) 90 #[.slice a' x.length c',.slice b' y.length d']:=by rw[<-hV,<-hB0];exact Qax w _ _ _
 obtain⟨HE1,HY⟩:=Ia (Qg3 a a' c c' x V (hx.below hbV) (hx'.below hbV) lx) (⟨hy.below hbV,hy'.below hbV⟩:TLst V b y/\TLst V b' y);obtain⟨k0,-⟩:=zc s1;obtain⟨k1,-⟩:=zc s2;obtain⟨HS1,HS2,HBV⟩:=Ib s1 s2 hbV;rw[<-hV,<-hB0] at k0 k1;obtain⟨HV,HB0⟩:=Ia hV hB0;clear hV hB0 hbV s1 s2 hx hx' hy hy';go_enter func45,ntmps45;go_wp2_with fail;rw[HV.o,HB0.o];go_fit HE1.o;rintro e w1 ⟨rfl,hb1⟩;obtain⟨HB1,HE2⟩:=Ia (HBV.o.trans (hb1.mono HBV.o.size)) (Qg3 b b' d d' y w1 (HY.o.1.below hb1) (HY.o.2.below hb1) ly);obtain⟨-,m0,-⟩:=zc (HS1.o.below hb1 HS1.o.lt);obtain⟨-,m1,-⟩:=zc (HS2.o.below hb1 HS2.o.lt);clear hb1 k0 k1;go_wp2_with fail;go_fit HE2.o
 rintro e w2 ⟨rfl,hb2⟩;have HB2:=Hi (HB1.o.trans (hb2.mono HB1.o.size));clear hb2 m0 m1;go_wp2;go_ret;exact⟨rfl,HB2.o⟩
theorem Ql9{w w':World}{e:Ending}(h:CarrySays 3 3 cornerM [0,0,0,0,-1,0] w e w'):
 ∃g1 g2,e=.returned (.tuple #[.agg #[.slice (some ⟨g1,0,none⟩) 3 3,.slice (some ⟨g2,0,none⟩) 3 3],.agg #[.int .i64 0,.int .i64 0]])/\TLst w' (some ⟨g1,0,none⟩) [⟨#[49]⟩,⟨#[45,49]⟩,⟨#[49]⟩]/\TLst w' (some ⟨g2,0,none⟩) [⟨#[45,49]⟩,⟨#[45,49]⟩,⟨#[49]⟩]/\Below w.heap.size w w':=by
 have hsol:Sol 6 cornerM [0,0,0,0,-1,0] (vec [1,-1,1,-1,-1,1]):=(Qe3 _).2 (by decide +kernel);obtain⟨h,hb⟩:=h;rcases h with ⟨_,h⟩|⟨_,x,y,h1,h2,c,hc,hne⟩|⟨g1,g2,x,y,us,rfl,hx,hy,htx,hty,hul,hone⟩
 . exact absurd hsol (h _)
 .
  exfalso
  obtain⟨a0,a1,a2,a3,a4,a5⟩:=(Qe3 x).1 h1;obtain⟨b0,b1,b2,b3,b4,b5⟩:=(Qe3 y).1 h2;have e:c=0∨c=1∨c=2∨c=3∨c=4∨c=5:=by omega
  rcases e with rfl|rfl|rfl|rfl|rfl|rfl
  . exact hne (a0.trans b0.symm)
  . exact hne (a1.trans b1.symm)
  . exact hne (a2.trans b2.symm)
  . exact hne (a3.trans b3.symm)
  . exact hne (a4.trans b4.symm)
  . exact hne (a5.trans b5.symm)
 .
  have hq:=(hone _).1 hsol;have text:∀(s t:ByteArray) (q:Rat),QText s.data.toList q->QText t.data.toList q->s=t:=fun s t q h1 h2=>by
   have:=h1.inj h2;cases s;cases t
   congr 1
   exact Array.toList_inj.1 this
  have hin:∀(i:Nat),i<6->∃t,us[i]?=some t/\vec [1,-1,1,-1,-1,1] i=t.q:=fun i hi=>⟨us[i]'(by omega),gE (by omega),hq i _ (gE (by omega))⟩
  have hX:x= [⟨#[49]⟩,⟨#[45,49]⟩,⟨#[49]⟩]:=by
   have hl:x.length=3:=by rw[htx.1,List.length_take];omega
   have at_:∀i s,i<3->x[i]?=some s->QText s.data.toList (vec [1,-1,1,-1,-1,1] i):=fun i s hi hs=>by
    obtain⟨t,ht,e⟩:=hin i (by omega);rw[e];exact htx.2 i t s (by rw[List.getElem?_take_of_lt hi];exact ht) hs
   match x,hl,at_ with
   | [s0,s1,s2],_,at_=>
     rw[text s0 ⟨#[49]⟩ 1 (at_ 0 s0 (by decide) rfl) qt1,text s1 ⟨#[45,49]⟩ (-1) (at_ 1 s1 (by decide) rfl) qtm,text s2 ⟨#[49]⟩ 1 (at_ 2 s2 (by decide) rfl) qt1]
  have hY:y= [⟨#[45,49]⟩,⟨#[45,49]⟩,⟨#[49]⟩]:=by
   have hl:y.length=3:=by rw[hty.1,List.length_drop];omega
   have at_:∀i s,i<3->y[i]?=some s->QText s.data.toList (vec [1,-1,1,-1,-1,1] (3+i)):=fun i s hi hs=>by
    obtain⟨t,ht,e⟩:=hin (3+i) (by omega);rw[e];exact hty.2 i t s (by rw[List.getElem?_drop];exact ht) hs
   match y,hl,at_ with
   | [s0,s1,s2],_,at_=>
     rw[text s0 ⟨#[45,49]⟩ (-1) (at_ 0 s0 (by decide) rfl) qtm,text s1 ⟨#[45,49]⟩ (-1) (at_ 1 s1 (by decide) rfl) qtm,text s2 ⟨#[49]⟩ 1 (at_ 2 s2 (by decide) rfl) qt1]
  subst hX;subst hY;exact⟨g1,g2,rfl,hx.texts,hy.texts,hb⟩
theorem Qma(g1 g2 g3:Nat)(w:World)(hg:Glob w)(hf:FrRow w (some ⟨g1,0,none⟩) (some ⟨g2,0,none⟩) (some ⟨g3,0,none⟩) 3 3 3 cornerJ cornerB cornerH):
 Calls prog 28 #[.agg #[.slice (some ⟨g1,0,none⟩) 3 3,.slice (some ⟨g2,0,none⟩) 3 3,.slice (some ⟨g3,0,none⟩) 3 3]] w fun e w'=>e=.returned (.tuple #[.int .i64 0,.agg #[.int .i64 0,.int .i64 0]])/\Below w.heap.size w w':=by
 refine Calls.mono (Qkd (some ⟨g1,0,none⟩) (some ⟨g2,0,none⟩) (some ⟨g3,0,none⟩) 3 3 3 cornerJ cornerB cornerH w hg hf Qet) ?_;rintro e w' ⟨c,at_,k,rfl,hff,_,hk,hb⟩;obtain⟨rfl,rfl⟩:=hff.inj Qeu;obtain rfl:=hk rfl;exact⟨rfl,hb⟩
theorem cornerK_ok:4*1+1+(4*1+1)+1<=cornerK/\4*cornerK+1<68719476000/\0<cornerK:=by
 have:=cornerK_big;omega
theorem Qmb(g1 g2 g3:Nat)(w:World)(hg:Glob w)(hf:FrRow w (some ⟨g1,0,none⟩) (some ⟨g2,0,none⟩) (some ⟨g3,0,none⟩) 3 3 3 cornerJ cornerB cornerH):
 Calls prog 39 #[.agg #[.slice (some ⟨g1,0,none⟩) 3 3,.slice (some ⟨g2,0,none⟩) 3 3,.slice (some ⟨g3,0,none⟩) 3 3]] w fun e w'=>e=.returned (.tuple #[.int .i64 6,.int .i64 0,.int .i64 0,.agg #[.int .i64 0,.int .i64 0]])/\Below w.heap.size w w':=by
 have hstart:NI 6 6 1 cornerM 0 (balRows cornerJ.length cornerVB cornerB.length cornerVH) [] []:=by
  have h:=NI.start 6 1 cornerM Qg1 Qg0;have e:balRows cornerJ.length cornerVB cornerB.length cornerVH=cornerM:=Qgz;rw[e];exact h
 refine Calls.mono (Qgw (some ⟨g1,0,none⟩) (some ⟨g2,0,none⟩) (some ⟨g3,0,none⟩) 3 3 3 1 cornerK cornerJ cornerB cornerH cornerVB cornerVH w hg hf Qet Qeu Qgy cornerK_ok.1 cornerK_ok.2.1 (NI 6 6 1 cornerM) (NI.going 6 6 1 cornerK cornerM (by decide) (Nat.le_trans (Qit 1 (by decide:6<=7)) (by rw[corner_bounds.1];exact cornerK_big.1)) cornerK_ok.2.2) hstart) ?_;rintro e w' ⟨⟨L,S,hh,rfl,_,hI⟩,hb⟩;have h6:S.length=6:=Ql6 hI;rw[h6];exact⟨rfl,hb⟩
theorem Qmc(g1 g2 g3 cl:Nat)(al:Option Addr)(w:World)(hg:Glob w)(hf:FrRow w (some ⟨g1,0,none⟩) (some ⟨g2,0,none⟩) (some ⟨g3,0,none⟩) 3 3 3 cornerJ cornerB cornerH)(hl:ARow L3.cells w al cl cornerL):
 Calls prog 53 #[.agg #[.slice (some ⟨g1,0,none⟩) 3 3,.slice (some ⟨g2,0,none⟩) 3 3,.slice (some ⟨g3,0,none⟩) 3 3],.slice al 1 cl] w fun e w'=>∃g1 g2,e=.returned (.tuple #[.agg #[.slice (some ⟨g1,0,none⟩) 3 3,.slice (some ⟨g2,0,none⟩) 3 3],.agg #[.int .i64 0,.int .i64 0]])/\TLst w' (some ⟨g1,0,none⟩) [⟨#[49]⟩,⟨#[45,49]⟩,⟨#[49]⟩]/\TLst w' (some ⟨g2,0,none⟩) [⟨#[45,49]⟩,⟨#[45,49]⟩,⟨#[49]⟩]/\Below w.heap.size w w':=by
 have e1:balRows cornerJ.length cornerVB cornerB.length cornerVH=cornerM:=Qgz;have e2:(List.range (2*cornerJ.length)).map (agn cornerVS)= [0,0,0,0,-1,0]:=Ql3;have e3:List.zipWith (wider (cornerB.length+cornerH.length)) (balRows cornerJ.length cornerVB cornerB.length cornerVH) ((List.range (2*cornerJ.length)).map (agn cornerVS))=cornerW:=by
  rw[e1,e2];rfl
 have hstart:NI 7 6 1 cornerW 0 cornerW [] []:=NI.start 7 1 cornerW (fun r hr=>(Qg2 r hr).2) (fun r hr=>(Qg2 r hr).1);have h:=Qgx (some ⟨g1,0,none⟩) (some ⟨g2,0,none⟩) (some ⟨g3,0,none⟩) al 3 3 3 cl 1 cornerK cornerJ cornerB cornerH cornerVB cornerVH cornerL cornerVS w hg hf Qet Qeu Qgy hl (by decide) rfl Ql2 (fun k i=>(Ql4 k i).mono cornerK_ok.2.2) cornerK_ok.1 cornerK_ok.2.1 (NI 7 6 1 cornerW) (NI.going 7 6 1 cornerK cornerW (by decide) (by rw[corner_bounds.1];exact cornerK_big.1) cornerK_ok.2.2) (by rw[e3];exact hstart) (by rw[e3];exact fun L S hh hI=>Ql7 hI);rw[e1,e2] at h;exact h.mono fun e w' hc=>Ql9 hc
theorem Qmd(w:World)(hg:Glob w):Calls prog 25 #[] w fun e w'=>e=.returned (.bool true)/\Below w.heap.size w w':=by
 have HG:=Hi hg;clear hg;go_enter func25,ntmps25;go_wp2_with fail;go_fit (Qe2 w);rintro e w1 ⟨g1,g2,g3,rfl,hf1,hb1⟩;obtain⟨HC1,HB1⟩:=Ia (Qma g1 g2 g3 w1 (HG.o.below hb1) hf1) hb1;clear hf1 hb1;go_wp2_with fail;go_fit HC1.o;rintro e w2 ⟨rfl,hb2⟩;obtain⟨V2,hV2⟩:=nm (w2.alloc (.cells #[.int .i64 0,.int .i64 0] 57));obtain⟨p2,hp2⟩:=nm w2.heap.size;have HB2:O (Below w.heap.size w V2):=Hi ((HB1.o.trans (hb2.mono HB1.o.size)).trans ((show Below w2.heap.size w2 V2 by rw[<-hV2];exact(Below.refl _ _).alloc lZ _).mono (HB1.o.trans (hb2.mono HB1.o.size)).size));have HS2:=Uf hV2 hp2;obtain⟨HV2,HP2⟩:=Ia hV2 hp2;clear hb2 hV2 hp2 HC1;go_wp2_with fail;rw[HV2.o,HP2.o];go_fit (Qe2 V2);rintro e w3 ⟨g4,g5,g6,rfl,hf3,hb3⟩
 obtain⟨HB3,HS3⟩:=Ia (HB2.o.trans (hb3.mono HB2.o.size)) (HS2.o.below hb3 HS2.o.lt);have HC3:=Hi (Qmb g4 g5 g6 w3 (HG.o.below HB3.o) hf3);clear hf3 hb3 HS2;go_wp2_with fail;go_fit HC3.o;rintro e w4 ⟨rfl,hb4⟩;obtain⟨V4,hV4⟩:=nm (w4.alloc (.cells #[.int .i64 0,.int .i64 0] 57));obtain⟨p4,hp4⟩:=nm w4.heap.size;have hb4V:Below w3.heap.size w3 V4:=by rw[<-hV4];exact hb4.alloc hb4.size _
 have HB4:O (Below w.heap.size w V4):=Hi (HB3.o.trans (hb4V.mono HB3.o.size));have HS4:=Uf hV4 hp4;obtain⟨HS3b,HV4,HP4⟩:=Ib (HS3.o.below hb4V HS3.o.lt) hV4 hp4;clear hb4 hV4 hp4 hb4V HC3 HS3;go_wp2_with fail;rw[HV4.o,HP4.o];go_fit (Qe2 V4);rintro e w5 ⟨g7,g8,g9,rfl,hf5,hb5⟩;obtain⟨HF5,HB5,HS4b,HS3c⟩:=Ic hf5 (HB4.o.trans (hb5.mono HB4.o.size)) (HS4.o.below hb5 HS4.o.lt) (HS3b.o.below hb5 HS3b.o.lt);clear hf5 hb5 HS4 HS3b;go_wp2_with fail;go_fit (Qeh ⟨#[49]⟩ ⟨#[48]⟩ w5);rintro e w6 ⟨rfl,hb6⟩;obtain⟨V6,hV6⟩:=nm (w6.alloc (.cells #[.int .i64 2,.string ⟨#[49]⟩,.string ⟨#[48]⟩] 98));have hb6V:Below w5.heap.size w5 V6:=by rw[<-hV6];exact hb6.alloc hb6.size _
 obtain⟨HB6,HS4c,HS3d⟩:=Ib (HB5.o.trans (hb6V.mono HB5.o.size)) (HS4b.o.below hb6V HS4b.o.lt) (HS3c.o.below hb6V HS3c.o.lt);have hsl:SB V6 w6.heap.size 98 #[.int .i64 2,.string ⟨#[49]⟩,.string ⟨#[48]⟩]:=by rw[<-hV6];exact SB.new w6 _ _
 obtain⟨HCY,HV6⟩:=Ia (Qmc g7 g8 g9 1 (some ⟨w6.heap.size,0,none⟩) V6 (HG.o.below HB6.o) (HF5.o.below hb6V) (hsl.arow rfl (by decide))) hV6;clear hb6 hV6 hb6V hsl HF5 HS4b HS3c;go_wp2_with fail;rw[HV6.o];go_fit HCY.o;rintro e w7 ⟨h1,h2,rfl,ht1,ht2,hb7⟩;obtain⟨V7,hV7⟩:=nm ((w7.alloc (.cells #[.slice (some ⟨h1,0,none⟩) 3 3,.slice (some ⟨h2,0,none⟩) 3 3] 90)).alloc (.cells #[.int .i64 0,.int .i64 0] 57));obtain⟨q7,hq7⟩:=nm w7.heap.size;have hb7V:Below w7.heap.size w7 V7:=by rw[<-hV7];exact Below.new2 w7 _ _
 have hb67:Below V6.heap.size V6 V7:=hb7.trans (hb7V.mono hb7.size);have hss:SB V7 q7 90 #[.slice (some ⟨h1,0,none⟩) 3 3,.slice (some ⟨h2,0,none⟩) 3 3]:=by rw[<-hV7,<-hq7];exact(SB.new w7 _ _).alloc _
 have hsf:SB V7 (q7+1) 57 #[.int .i64 0,.int .i64 0]:=by rw[<-hV7,<-hq7];exact Qax w7 _ _ _
 obtain⟨k0,-⟩:=zc (HS3d.o.below hb67 HS3d.o.lt);obtain⟨k1,-⟩:=zc (HS4c.o.below hb67 HS4c.o.lt);obtain⟨k2,-⟩:=zc hsf;obtain⟨k3,k4,-⟩:=zc hss;have HB7:=Hi (HB6.o.trans (hb67.mono HB6.o.size));obtain⟨V8,hV8⟩:=nm ((V7.alloc (.cells #[.string ⟨#[49]⟩,.string ⟨#[45,49]⟩,.string ⟨#[49]⟩] 23)).alloc (.cells #[.string ⟨#[45,49]⟩,.string ⟨#[45,49]⟩,.string ⟨#[49]⟩] 23));have hb78:Below V7.heap.size V7 V8:=by rw[<-hV8];exact Below.new2 V7 _ _
 have t1:TLst V8 (some ⟨V7.heap.size,0,none⟩) [⟨#[49]⟩,⟨#[45,49]⟩,⟨#[49]⟩]:=by
  rw[<-hV8];exact SB.texts (l:=[⟨#[49]⟩,⟨#[45,49]⟩,⟨#[49]⟩]) ((SB.new V7 23 _).alloc _)
 have t2:TLst V8 (some ⟨V7.heap.size+1,0,none⟩) [⟨#[45,49]⟩,⟨#[45,49]⟩,⟨#[49]⟩]:=by
  rw[<-hV8];exact SB.texts (l:=[⟨#[45,49]⟩,⟨#[45,49]⟩,⟨#[49]⟩]) (Qax V7 _ 23 _)
 obtain⟨HST,HB8⟩:=Ia (Ql8 (some ⟨h1,0,none⟩) (some ⟨h2,0,none⟩) (some ⟨V7.heap.size,0,none⟩) (some ⟨V7.heap.size+1,0,none⟩) 3 3 3 3 [⟨#[49]⟩,⟨#[45,49]⟩,⟨#[49]⟩] [⟨#[45,49]⟩,⟨#[45,49]⟩,⟨#[49]⟩] V8 ((ht1.below hb7V).below hb78) ((ht2.below hb7V).below hb78) t1 t2 (by decide) (by decide)) (HB7.o.trans (hb78.mono HB7.o.size));rw[<-hV7] at k0 k1;rw[<-hV7,<-hq7] at k2 k3 k4;have hz7:V7.heap.size=w7.heap.size+1+1:=by rw[<-hV7];simp
 rw[hz7] at HST;obtain⟨HV7,HQ7,HV8⟩:=Ib hV7 hq7 hV8;clear ht1 ht2 hb7 hb7V hb67 hss hsf hb78 t1 t2 hV7 hq7 hV8 HCY hz7;go_wp2_with fail;rw[HV7.o,HV8.o];go_fit HST.o;rintro e w9 ⟨rfl,hb9⟩;have HB9:=Hi (HB8.o.trans (hb9.mono HB8.o.size));clear hb9 k0 k1 k2 k3 k4;go_wp2;go_ret;exact⟨rfl,HB9.o⟩
end Go.Proofs.YtjgofdclmcpopaaGreatDoor
