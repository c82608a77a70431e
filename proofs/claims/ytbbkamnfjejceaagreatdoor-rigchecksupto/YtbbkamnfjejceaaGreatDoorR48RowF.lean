/- A frame that a call's arguments read as. -/
import Derived.Test.YtbbkamnfjejceaaGreatDoorR47BalG
namespace Go.Proofs.YtbbkamnfjejceaaGreatDoor
open Go.RowKit
set_option linter.unusedVariables false
set_option linter.unusedSimpArgs false
theorem q_of{l t a:List UInt8}{v q:Rat}(h1:Lib.trimPrefix l [45]=t)(h2:Lib.cut t [47]=(a,[],false))(h3:IsDig a)(hv:v=mkRat (decVal a:Nat) 1)(hq:q=if Lib.hasPrefix l [45]=true then -v else v):QOf l q:=by
 refine⟨v,.inl ⟨⟨?_,?_⟩,?_⟩,hq⟩
 · rw[h1,h2];exact h3
 · rw[h1,h2];intro h;cases h
 · rw[h1,h2];simpa using hv
theorem Qd5{c:UInt8}(h1:48≤c.toNat)(h2:c.toNat≤57):IsDig [c]:=⟨by simp,fun d hd=>by
 obtain rfl:d=c:=by simpa using hd
 exact⟨h1,h2⟩⟩
theorem q0_of:QOf tx0.data.toList 0:=q_of (l:=[48]) (t:=[48]) (a:=[48]) (v:=0) (by decide) (by decide) (Qd5 (by decide) (by decide)) (by decide) (by decide)
theorem q1_of:QOf tx1.data.toList 1:=one_q
theorem qm_of:QOf (⟨#[45,49]⟩:ByteArray).data.toList (-1):=q_of (l:=[45,49]) (t:=[49]) (a:=[49]) (v:=1) (by decide) (by decide) (Qd5 (by decide) (by decide)) (by decide) (by decide)
theorem q2_of:QOf (⟨#[50]⟩:ByteArray).data.toList 2:=q_of (l:=[50]) (t:=[50]) (a:=[50]) (v:=2) (by decide) (by decide) (Qd5 (by decide) (by decide)) (by decide) (by decide)
theorem Qd6:FrSized cornerJ cornerB cornerH:=by
 refine⟨?_,?_,?_⟩
 ·
  intro p hp;simp[cornerJ] at hp;rcases hp with rfl|rfl|rfl<;>exact⟨by decide,by decide⟩
 ·
  intro b hb;simp[cornerB,cornerBar] at hb;rcases hb with rfl|rfl|rfl<;>exact⟨by decide,by decide,by decide,by decide⟩
 ·
  intro x hx;simp[cornerH] at hx;rcases hx with rfl|rfl|rfl<;>decide
def cornerVB:List (Nat × Nat × Rat × Rat):=[(0,1,1,0),(1,2,-1,1),(2,0,0,-1)]
def cornerVH:List Nat:=[0,1,3]
theorem Qd7:FrV 1048576 cornerJ cornerB cornerH cornerVB cornerVH:=by
 refine⟨by decide,by decide,by decide,rfl,rfl,?_,?_,by decide⟩
 ·
  intro i b p hb hp
  match i,hb,hp with
  |0,hb,hp=>
   cases hb;cases hp;exact⟨rfl,rfl,by decide,_,_,0,0,1,0,rfl,rfl,by decide,by decide,by decide,by decide,q0_of,q0_of,q1_of,q0_of,by decide +kernel,by decide +kernel⟩
  |1,hb,hp=>
   cases hb;cases hp;exact⟨rfl,rfl,by decide,_,_,1,0,0,1,rfl,rfl,by decide,by decide,by decide,by decide,q1_of,q0_of,q0_of,q1_of,by decide +kernel,by decide +kernel⟩
  |2,hb,hp=>
   cases hb;cases hp;exact⟨rfl,rfl,by decide,_,_,0,1,0,0,rfl,rfl,by decide,by decide,by decide,by decide,q0_of,q1_of,q0_of,q0_of,by decide +kernel,by decide +kernel⟩
  |n+3,hb,hp=>cases hb
 ·
  intro i h r hh hr
  match i,hh,hr with
  |0,hh,hr=>
   cases hh;cases hr;exact⟨0,rfl,by decide,rfl⟩
  |1,hh,hr=>
   cases hh;cases hr;exact⟨0,rfl,by decide,rfl⟩
  |2,hh,hr=>
   cases hh;cases hr;exact⟨1,rfl,by decide,rfl⟩
  |n+3,hh,hr=>cases hh
theorem Qf3:balRows 3 cornerVB 3 cornerVH=cornerM:=by
 have hb:∀r c,6≤c→balM cornerVB 3 cornerVH r c=0:=Qcw (nb:=3) (nh:=3) rfl rfl;have hv:∀(a b c d e f:Rat) (n:Nat),vec [a,b,c,d,e,f] (n+6)=0:=fun a b c d e f n=>by simp[vec]
 have key:∀(r:Nat) (a b c d e f:Rat),balM cornerVB 3 cornerVH r 0=a→balM cornerVB 3 cornerVH r 1=b→balM cornerVB 3 cornerVH r 2=c→balM cornerVB 3 cornerVH r 3=d→balM cornerVB 3 cornerVH r 4=e→balM cornerVB 3 cornerVH r 5=f→balM cornerVB 3 cornerVH r=vec [a,b,c,d,e,f]:=by
  intro r a b c d e f h0 h1 h2 h3 h4 h5;funext i
  match i with
  |0=>rw[h0];rfl
  |1=>rw[h1];rfl
  |2=>rw[h2];rfl
  |3=>rw[h3];rfl
  |4=>rw[h4];rfl
  |5=>rw[h5];rfl
  |n+6=>rw[hb r (n+6) (by omega),hv]
 show [balM cornerVB 3 cornerVH 0,balM cornerVB 3 cornerVH 1,balM cornerVB 3 cornerVH 2,balM cornerVB 3 cornerVH 3,balM cornerVB 3 cornerVH 4,balM cornerVB 3 cornerVH 5]=cornerM
 rw[key 0 1 0 0 1 0 0 (by decide +kernel) (by decide +kernel) (by decide +kernel) (by decide +kernel) (by decide +kernel) (by decide +kernel),
  key 1 0 0 1 0 1 0 (by decide +kernel) (by decide +kernel) (by decide +kernel) (by decide +kernel) (by decide +kernel) (by decide +kernel),
  key 2 (-1) (-1) 0 0 0 0 (by decide +kernel) (by decide +kernel) (by decide +kernel) (by decide +kernel) (by decide +kernel) (by decide +kernel),
  key 3 0 1 0 0 0 1 (by decide +kernel) (by decide +kernel) (by decide +kernel) (by decide +kernel) (by decide +kernel) (by decide +kernel),
  key 4 0 1 0 0 0 0 (by decide +kernel) (by decide +kernel) (by decide +kernel) (by decide +kernel) (by decide +kernel) (by decide +kernel),
  key 5 0 (-1) (-1) 0 0 0 (by decide +kernel) (by decide +kernel) (by decide +kernel) (by decide +kernel) (by decide +kernel) (by decide +kernel)]
 rfl
theorem Qd8:FrameFault cornerJ cornerB cornerH 0 0:=by
 refine .inr (.inr ⟨by rintro(h|h|h|h)<;>exact absurd h (by decide),?_,.inr ⟨?_,rfl,rfl⟩⟩)
 ·
  intro i x hx
  match i,hx with
  |0,hx=>
   cases hx;exact .inr ⟨⟨by decide,by decide⟩,⟨by decide,by decide⟩,_,_,rfl,rfl,0,0,1,0,1,-1,2,q0_of,q0_of,q1_of,q0_of,q1_of,qm_of,q2_of,by decide +kernel⟩
  |1,hx=>
   cases hx;exact .inr ⟨⟨by decide,by decide⟩,⟨by decide,by decide⟩,_,_,rfl,rfl,1,0,0,1,1,-1,2,q1_of,q0_of,q0_of,q1_of,q1_of,qm_of,q2_of,by decide +kernel⟩
  |2,hx=>
   cases hx;exact .inr ⟨⟨by decide,by decide⟩,⟨by decide,by decide⟩,_,_,rfl,rfl,0,1,0,0,1,-1,2,q0_of,q1_of,q0_of,q0_of,q1_of,qm_of,q2_of,by decide +kernel⟩
  |n+3,hx=>cases hx
 ·
  intro i x hx
  match i,hx with
  |0,hx=>cases hx;decide
  |1,hx=>cases hx;decide
  |2,hx=>cases hx;decide
  |n+3,hx=>cases hx
def cornerL:List L3:=[⟨2,tx1,tx0⟩]
def cornerVS:List (Nat × Rat × Rat):=[(2,1,0)]
theorem Qj0:∀(i:Nat) (l:L3) (p:Nat × Rat × Rat),cornerL[i]?=some l→cornerVS[i]?=some p→LoadV 3 l p:=by
 intro i l p hl hp
 match i,hl,hp with
 |0,hl,hp=>
  cases hl;cases hp;exact⟨rfl,by decide,q1_of,q0_of,by decide,by decide⟩
 |n+1,hl,hp=>cases hl
theorem Qj1:(List.range 6).map (agn cornerVS)= [0,0,0,0,-1,0]:=by decide +kernel
theorem qt1:QText tx1.data.toList 1:=⟨[49],⟨[49],.inr ⟨by decide,[1],⟨fun d hd=>by simp at hd;omega,.inr (by simp),by simp[val]⟩,by decide⟩,by decide⟩,.inl ⟨by decide,rfl⟩⟩
theorem qtm:QText (⟨#[45,49]⟩:ByteArray).data.toList (-1):=⟨[45,49],⟨[49],.inr ⟨by decide,[1],⟨fun d hd=>by simp at hd;omega,.inr (by simp),by simp[val]⟩,by decide⟩,by decide⟩,.inl ⟨by decide,rfl⟩⟩
def TLst(w:World)(a:Option Addr)(l:List ByteArray):Prop:=∀(i:Nat) (s:ByteArray),l[i]?=some s→∃b off,a=some ⟨b,off,none⟩∧b<w.heap.size∧w.cell? ⟨b,off+i,none⟩=some (.string s)
theorem TLst.below{w w':World}{a:Option Addr}{l:List ByteArray}(h:TLst w a l)(hb:Below w.heap.size w w'):TLst w' a l:=fun i s hi=>by
 obtain⟨b,off,h1,h2,h3⟩:=h i s hi;exact⟨b,off,h1,Nat.lt_of_lt_of_le h2 hb.size,(hb.cell (p:=⟨b,off+i,none⟩) h2).trans h3⟩
theorem SB.texts{w:World}{g:Nat}{t:TypeId}{l:List ByteArray}(h:SB w g t (textsV l).toArray):TLst w (some ⟨g,0,none⟩) l:=fun i s hi=>⟨g,0,rfl,h.lt,by
 rw[Nat.zero_add,h.cell]
 simp[textsV,hi]⟩
set_option maxRecDepth 100000 in
theorem Qf4(a b:Option Addr)(c d:Nat)(l:List ByteArray)(w:World)(hu:TLst w a l)(hv:TLst w b l)(hs:l.length≤1000000):
 Calls Tryz.prog 125 #[.slice a l.length c,.slice b l.length d] w fun e w'=>e=.returned (.bool true)∧Below w.heap.size w w':=by
 have HC:=Hi hu;have HD:=Hi hv;clear hu hv;go_enter Tryz.func125,Tryz.ntmps125;go_wp2_with fail;go_loopw [13] (fun iv wr=>∃i:Nat,i≤l.length∧iv=.int .i64 i∧Below w.heap.size w wr) (fun iv _=>l.length - (intOf iv).toNat)
 case atStart=>exact⟨0,by omega,rfl,Below.refl _ _⟩
 case round=>
  obtain⟨i,hi,rfl,hb⟩:=hrel;have HB:=Hi hb;by_cases hie:i<l.length
  ·
   obtain⟨f,hf⟩:∃f,l[i]?=some f:=⟨l[i],List.getElem?_eq_getElem hie⟩;obtain⟨b1,o1,rfl,h1,d1⟩:=HC.out i f hf;obtain⟨b2,o2,rfl,h2,d2⟩:=HD.out i f hf;have d1':wr.cell? ⟨b1,o1+i,none⟩=some (.string f):=(hb.cell (p:=⟨b1,o1+i,none⟩) h1).trans d1;have d2':wr.cell? ⟨b2,o2+i,none⟩=some (.string f):=(hb.cell (p:=⟨b2,o2+i,none⟩) h2).trans d2;have q3:((i:Int)<(l.length:Int)):=by omega
   clear hf d1 d2 hb h1 h2;go_wp2_with fail;go_region;go_wp2;go_roundw
   case rel=>exact⟨i+1,by omega,by go_num,HB.out.drew⟩
   case measure=>simp[intOf];omega
  ·
   obtain rfl:i=l.length:=by omega
   clear hb;go_wp2;go_ret;exact⟨rfl,HB.out⟩
set_option maxRecDepth 100000 in
set_option maxHeartbeats 1000000 in
theorem Qj2(a b a' b':Option Addr)(c d c' d':Nat)(x y:List ByteArray)(w:World)(hx:TLst w a x)(hy:TLst w b y)(hx':TLst w a' x)(hy':TLst w b' y)(lx:x.length≤1000000)(ly:y.length≤1000000):
 Calls Tryz.prog 61 #[.agg #[.slice a x.length c,.slice b y.length d],.agg #[.slice a' x.length c',.slice b' y.length d']] w fun e w'=>e=.returned (.bool true)∧Below w.heap.size w w':=by
 obtain⟨V,hV⟩:∃V,(w.alloc (.cells #[.slice a x.length c,.slice b y.length d] 111)).alloc (.cells #[.slice a' x.length c',.slice b' y.length d'] 111)=V:=⟨_,rfl⟩;obtain⟨B0,hB0⟩:∃B0,w.heap.size=B0:=⟨_,rfl⟩;have hbV:Below w.heap.size w V:=by rw[←hV];exact Below.new2 w _ _
 have s1:SB V B0 111 #[.slice a x.length c,.slice b y.length d]:=by rw[←hV,←hB0];exact(SB.new w _ _).alloc _
 have s2:SB V (B0+1) 111 #[.slice a' x.length c',.slice b' y.length d']:=by rw[←hV,←hB0];exact Qax w _ _ _
 have HE1:=Hi (Qf4 a a' c c' x V (hx.below hbV) (hx'.below hbV) lx);have HY:=Hi (⟨hy.below hbV,hy'.below hbV⟩:TLst V b y∧TLst V b' y);have k0:V.cell? ⟨B0,0,none⟩=some (.slice a x.length c):=s1.cell 0;have k1:V.cell? ⟨B0+1,0,none⟩=some (.slice a' x.length c'):=s2.cell 0;have HS1:=Hi s1;have HS2:=Hi s2;have HBV:=Hi hbV;rw[←hV,←hB0] at k0 k1;have HV:=Hi hV;have HB0:=Hi hB0;clear hV hB0 hbV s1 s2 hx hx' hy hy';go_enter Tryz.func61,Tryz.ntmps61;go_wp2_with fail;rw[HV.out,HB0.out];go_fit HE1.out;rintro e w1 ⟨rfl,hb1⟩;have HB1:=Hi (HBV.out.trans (hb1.mono HBV.out.size));have HE2:=Hi (Qf4 b b' d d' y w1 (HY.out.1.below hb1) (HY.out.2.below hb1) ly);have m0:w1.cell? ⟨B0,1,none⟩=some (.slice b y.length d):=(HS1.out.below hb1 HS1.out.lt).cell 1;have m1:w1.cell? ⟨B0+1,1,none⟩=some (.slice b' y.length d'):=(HS2.out.below hb1 HS2.out.lt).cell 1;clear hb1 k0 k1;go_wp2_with fail;go_fit HE2.out
 rintro e w2 ⟨rfl,hb2⟩;have HB2:=Hi (HB1.out.trans (hb2.mono HB1.out.size));clear hb2 m0 m1;go_wp2;go_ret;exact⟨rfl,HB2.out⟩
theorem Qj3{w w':World}{e:Ending}(h:CarrySays 3 3 cornerM [0,0,0,0,-1,0] w e w'):
 ∃g1 g2,e=.returned (.tuple #[.agg #[.slice (some ⟨g1,0,none⟩) 3 3,.slice (some ⟨g2,0,none⟩) 3 3],.agg #[.int .i64 0,.int .i64 0]])∧TLst w' (some ⟨g1,0,none⟩) [⟨#[49]⟩,⟨#[45,49]⟩,⟨#[49]⟩]∧TLst w' (some ⟨g2,0,none⟩) [⟨#[45,49]⟩,⟨#[45,49]⟩,⟨#[49]⟩]∧Below w.heap.size w w':=by
 have hsol:Sol 6 cornerM [0,0,0,0,-1,0] (vec [1,-1,1,-1,-1,1]):=(Qef _).2 (by decide +kernel);obtain⟨h,hb⟩:=h;rcases h with ⟨_,h⟩|⟨_,x,y,h1,h2,c,hc,hne⟩|⟨g1,g2,x,y,us,rfl,hx,hy,htx,hty,hul,hone⟩
 · exact absurd hsol (h _)
 ·
  exfalso
  obtain⟨a0,a1,a2,a3,a4,a5⟩:=(Qef x).1 h1;obtain⟨b0,b1,b2,b3,b4,b5⟩:=(Qef y).1 h2;have e:c=0∨c=1∨c=2∨c=3∨c=4∨c=5:=by omega
  rcases e with rfl|rfl|rfl|rfl|rfl|rfl
  · exact hne (a0.trans b0.symm)
  · exact hne (a1.trans b1.symm)
  · exact hne (a2.trans b2.symm)
  · exact hne (a3.trans b3.symm)
  · exact hne (a4.trans b4.symm)
  · exact hne (a5.trans b5.symm)
 ·
  have hq:=(hone _).1 hsol;have text:∀(s t:ByteArray) (q:Rat),QText s.data.toList q→QText t.data.toList q→s=t:=fun s t q h1 h2=>by
   have:=h1.inj h2;cases s;cases t
   congr 1
   exact Array.toList_inj.1 this
  have hin:∀(i:Nat),i<6→∃t,us[i]?=some t∧vec [1,-1,1,-1,-1,1] i=t.q:=fun i hi=>⟨us[i]'(by omega),List.getElem?_eq_getElem (by omega),hq i _ (List.getElem?_eq_getElem (by omega))⟩
  have hX:x= [⟨#[49]⟩,⟨#[45,49]⟩,⟨#[49]⟩]:=by
   have hl:x.length=3:=by rw[htx.1,List.length_take];omega
   have at_:∀i s,i<3→x[i]?=some s→QText s.data.toList (vec [1,-1,1,-1,-1,1] i):=fun i s hi hs=>by
    obtain⟨t,ht,e⟩:=hin i (by omega);rw[e];exact htx.2 i t s (by rw[List.getElem?_take_of_lt hi];exact ht) hs
   match x,hl,at_ with
   | [s0,s1,s2],_,at_=>
     rw[text s0 ⟨#[49]⟩ 1 (at_ 0 s0 (by decide) rfl) qt1,text s1 ⟨#[45,49]⟩ (-1) (at_ 1 s1 (by decide) rfl) qtm,text s2 ⟨#[49]⟩ 1 (at_ 2 s2 (by decide) rfl) qt1]
  have hY:y= [⟨#[45,49]⟩,⟨#[45,49]⟩,⟨#[49]⟩]:=by
   have hl:y.length=3:=by rw[hty.1,List.length_drop];omega
   have at_:∀i s,i<3→y[i]?=some s→QText s.data.toList (vec [1,-1,1,-1,-1,1] (3+i)):=fun i s hi hs=>by
    obtain⟨t,ht,e⟩:=hin (3+i) (by omega);rw[e];exact hty.2 i t s (by rw[List.getElem?_drop];exact ht) hs
   match y,hl,at_ with
   | [s0,s1,s2],_,at_=>
     rw[text s0 ⟨#[45,49]⟩ (-1) (at_ 0 s0 (by decide) rfl) qtm,text s1 ⟨#[45,49]⟩ (-1) (at_ 1 s1 (by decide) rfl) qtm,text s2 ⟨#[49]⟩ 1 (at_ 2 s2 (by decide) rfl) qt1]
  subst hX;subst hY;exact⟨g1,g2,rfl,hx.texts,hy.texts,hb⟩
def textD{H:Type}(s:ByteArray):DataW H:=.lit (.string s.data.toList)
def spotD{H:Type}(s:S2):DataW H:=.agg [textD s.x,textD s.y]
def barD{H:Type}(b:B6):DataW H:=.agg [.lit (.int .i64 b.a),.lit (.int .i64 b.b),textD b.c,textD b.e,textD b.l,textD b.m]
def holdD{H:Type}(h:H3):DataW H:=.agg [.lit (.int .i64 h.j),.lit (.int .i64 h.w),textD h.q]
section
variable {H:Type} {enc:TypeId × Value→H} {P:Program} {w:World} {base:Nat} {spare:Nat→Bool} {held:Bool} {fuel:Nat} {cs:List Value} {x:DataW H × List MemPlace} {tE tS tQ tI tI':TypeId} {f0 f1 f2 f3 f4 f5:Field}
theorem Qii(uB:P.underlying tE=some (.struct #[f0,f1,f2,f3,f4,f5]))(uQ:P.underlying tQ=some .string)(uI:P.underlying tI=some (.int .i64))(cB:P.cellsOf tE=6)(cQ:P.cellsOf tQ=1)(cI:P.cellsOf tI=1)
 (t0:f0.type=tI) (t1:f1.type=tI) (t2:f2.type=tQ) (t3:f3.type=tQ) (t4:f4.type=tQ) (t5:f5.type=tQ) (o0:f0.offset=0) (o1:f1.offset=1) (o2:f2.offset=2) (o3:f3.offset=3) (o4:f4.offset=4) (o5:f5.offset=5)
 (h:DataW.trod enc P w base spare held fuel tE cs=some x):∃b:B6,cs=b.cells∧x.1=barD b:=by
 obtain⟨xs,n,rfl,rfl,hl,hxl,hf⟩:=DataW.trod_struct uB h;rw[cB] at hl;clear h;have h0:=hf 0 f0 rfl;have h1:=hf 1 f1 rfl;have h2:=hf 2 f2 rfl;have h3:=hf 3 f3 rfl;have h4:=hf 4 f4 rfl;have h5:=hf 5 f5 rfl;rw[t0,o0,cI] at h0;rw[t1,o1,cI] at h1;rw[t2,o2,cQ] at h2;rw[t3,o3,cQ] at h3;rw[t4,o4,cQ] at h4;rw[t5,o5,cQ] at h5;clear hf
 match cs,hl,xs,hxl with
 | [v0,v1,v2,v3,v4,v5],_,[y0,y1,y2,y3,y4,y5],_=>
   simp only[List.drop_zero,List.drop_succ_cons,List.take_succ_cons,List.take_zero,List.getElem?_cons_zero,List.getElem?_cons_succ] at h0 h1 h2 h3 h4 h5;obtain⟨a,e0,rfl,_⟩:=DataW.trod_int uI h0;obtain⟨b,e1,rfl,_⟩:=DataW.trod_int uI h1;obtain⟨c,e2,rfl,_⟩:=DataW.trod_string uQ h2;obtain⟨e,e3,rfl,_⟩:=DataW.trod_string uQ h3;obtain⟨l,e4,rfl,_⟩:=DataW.trod_string uQ h4;obtain⟨m,e5,rfl,_⟩:=DataW.trod_string uQ h5;obtain rfl:v0=_:=by simpa using e0
   obtain rfl:v1=_:=by simpa using e1
   obtain rfl:v2=_:=by simpa using e2
   obtain rfl:v3=_:=by simpa using e3
   obtain rfl:v4=_:=by simpa using e4
   obtain rfl:v5=_:=by simpa using e5
   exact⟨⟨a,b,c,e,l,m⟩,rfl,rfl⟩
theorem Qij(uB:P.underlying tE=some (.struct #[f0,f1,f2]))(uQ:P.underlying tQ=some .string)(uI:P.underlying tI=some (.int .i64))(uI':P.underlying tI'=some (.int .i64))(cB:P.cellsOf tE=3)(cQ:P.cellsOf tQ=1)(cI:P.cellsOf tI=1)(cI':P.cellsOf tI'=1)
 (t0:f0.type=tI) (t1:f1.type=tI') (t2:f2.type=tQ) (o0:f0.offset=0) (o1:f1.offset=1) (o2:f2.offset=2)
 (h:DataW.trod enc P w base spare held fuel tE cs=some x):∃b:H3,cs=b.cells∧x.1=holdD b:=by
 obtain⟨xs,n,rfl,rfl,hl,hxl,hf⟩:=DataW.trod_struct uB h;rw[cB] at hl;clear h;have h0:=hf 0 f0 rfl;have h1:=hf 1 f1 rfl;have h2:=hf 2 f2 rfl;rw[t0,o0,cI] at h0;rw[t1,o1,cI'] at h1;rw[t2,o2,cQ] at h2;clear hf
 match cs,hl,xs,hxl with
 | [v0,v1,v2],_,[y0,y1,y2],_=>
   simp only[List.drop_zero,List.drop_succ_cons,List.take_succ_cons,List.take_zero,List.getElem?_cons_zero,List.getElem?_cons_succ] at h0 h1 h2;obtain⟨a,e0,rfl,_⟩:=DataW.trod_int uI h0;obtain⟨b,e1,rfl,_⟩:=DataW.trod_int uI' h1;obtain⟨c,e2,rfl,_⟩:=DataW.trod_string uQ h2;obtain rfl:v0=_:=by simpa using e0
   obtain rfl:v1=_:=by simpa using e1
   obtain rfl:v2=_:=by simpa using e2
   exact⟨⟨a,b,c⟩,rfl,rfl⟩
theorem Qo3(u:P.underlying tE=some (.struct #[f0,f1,f2]))(cB:P.cellsOf tE=3){t0 t1 t2:TypeId}(e0:f0.type=t0)(e1:f1.type=t1)(e2:f2.type=t2)(k0:P.cellsOf t0=1)(k1:P.cellsOf t1=1)(k2:P.cellsOf t2=1)(o0:f0.offset=0)(o1:f1.offset=1)(o2:f2.offset=2)
 (h:DataW.trod enc P w base spare held fuel tE cs=some x):∃n v0 v1 v2 y0 y1 y2,cs= [v0,v1,v2]∧x.1=.agg [y0.1,y1.1,y2.1]∧DataW.trod enc P w base spare held n t0 [v0]=some y0∧DataW.trod enc P w base spare held n t1 [v1]=some y1∧DataW.trod enc P w base spare held n t2 [v2]=some y2:=by
 obtain⟨xs,n,rfl,rfl,hl,hxl,hf⟩:=DataW.trod_struct u h;rw[cB] at hl;clear h;have h0:=hf 0 f0 rfl;have h1:=hf 1 f1 rfl;have h2:=hf 2 f2 rfl;rw[e0,o0,k0] at h0;rw[e1,o1,k1] at h1;rw[e2,o2,k2] at h2;clear hf
 match cs,hl,xs,hxl with
 | [v0,v1,v2],_,[y0,y1,y2],_=>
   simp only[List.drop_zero,List.drop_succ_cons,List.take_succ_cons,List.take_zero,List.getElem?_cons_zero,List.getElem?_cons_succ] at h0 h1 h2;exact⟨n,v0,v1,v2,y0,y1,y2,rfl,rfl,h0,h1,h2⟩
theorem Qfg{α:Type}{c:α→List Value}{dat:α→DataW H}{sz:Nat}{t:TypeId}(dflt:α)(hsz:0<sz)(hc:∀e,(c e).length=sz)(ut:P.underlying t=some (.slice tE))(cE:P.cellsOf tE=sz)
 (each:∀(fuel:Nat) (cs:List Value) (x:DataW H × List MemPlace),DataW.trod enc P w base spare held fuel tE cs=some x→∃e,cs=c e∧x.1=dat e)
 (h:DataW.trod enc P w base spare held fuel t cs=some x):
 ∃(a:Option Addr) (cap:Nat) (es:List α),cs= [.slice a es.length cap]∧ARow c w a cap es∧(∀l r,x.1=.slice l r→l=es.map dat)∧((es= []∧x.1=.nil)∨∃l r,x.1=.slice l r):=by
 rcases Deep.open_slice ut h with ⟨rfl,rfl⟩|⟨a,len,cap,m,n,D,Pl,rfl,hb,hlc,hcm,hm,rfl,hD⟩
 · exact⟨none,0,[],rfl,⟨by simp,⟨fun j u hj=>by simp at hj⟩⟩,fun l r e=>by simp at e,.inl ⟨rfl,rfl⟩⟩
 have hlm:len≤m:=by rw[hm];split<;>omega
 have eachI:∀i,∃f:α,i<len→w.cells? base (a.add (i*sz)) sz=some (c f)∧D i=dat f:=by
  intro i;by_cases hi:i<len
  ·
   obtain⟨cs',h1,h2⟩:=hD i (by omega);obtain⟨f,rfl,hd⟩:=each _ _ _ h2;rw[cE] at h1;exact⟨f,fun _=>⟨h1,hd⟩⟩
  · exact⟨dflt,fun h=>absurd h hi⟩
 obtain⟨F,hF⟩:=Classical.axiomOfChoice eachI;refine⟨some a,cap,(List.range len).map F,by simp,⟨by simpa using hlc,⟨?_⟩⟩,?_,.inr ⟨_,_,rfl⟩⟩
 ·
  intro j u hj;have hjl:=(List.getElem?_eq_some_iff.1 hj).1;rw[Qa9 hc] at hjl;simp only[List.length_map,List.length_range] at hjl;have hil:j / sz<len:=(Nat.div_lt_iff_lt_mul hsz).2 hjl;have hkl:j % sz<sz:=Nat.mod_lt _ hsz;obtain⟨u',hu'⟩:∃u',(c (F (j / sz)))[j % sz]?=some u':=⟨_,List.getElem?_eq_getElem (by rw[hc];exact hkl)⟩;have h1:((List.range len).map F)[j / sz]?=some (F (j / sz)):=by simp[hil]
  have h2:=Qcc hc _ _ _ _ _ h1 hu';rw[Nat.div_add_mod' j sz,hj] at h2;obtain rfl:=Option.some.inj h2;obtain⟨hcl,_⟩:=hF _ hil;obtain⟨_,_,hcell⟩:=World.cells?_some hcl;obtain⟨b,off,sp⟩:=a;have c0:=hcell (j % sz) (by omega);have z:=(World.cells?_some (hF 0 (Nat.lt_of_le_of_lt (Nat.zero_le _) hil)).1).2.2 0 hsz;have hsp:sp=none:=by
   cases sp with
   |none=>rfl
   |some v=>
    exfalso
    obtain⟨z0,hz0⟩:∃z0,(c (F 0))[0]?=some z0:=⟨_,List.getElem?_eq_getElem (by rw[hc];exact hsz)⟩;rw[hz0] at z;simp only[Nat.zero_mul,Addr.add,if_true,World.cell?] at z
    split at z<;>simp at z
  subst hsp;have ea:∀j k,(Addr.add ⟨b,off,none⟩ j).add k=⟨b,off+j+k,none⟩:=by
   intro j k;unfold Addr.add;by_cases hj:j=0<;>by_cases hk:k=0<;>simp[hj,hk]
  rw[ea,hu',Nat.add_assoc,Nat.div_add_mod'] at c0;exact⟨b,off,rfl,World.block_lt_of_cell? _ _ c0,c0⟩
 ·
  intro l r e;have e1:(List.range len).map D=l:=by simpa using (DataW.slice.inj e).1
  rw[←e1,List.map_map];refine List.map_congr_left fun i hi=>?_
  exact(hF i (by simpa using hi)).2
end
end Go.Proofs.YtbbkamnfjejceaaGreatDoor
namespace Go.Proofs.YtbbkamnfjejceaaGreatDoor
open Go.ChangeShapes Go.WideShapes Go.ChangeAt Go.RowKit
set_option linter.unusedVariables false
set_option linter.unusedSimpArgs false
theorem Qfj:Tryz.prog.cellsOf 68=6:=by kernel_rfl
theorem Qfk:Tryz.prog.cellsOf 122=3:=by kernel_rfl
theorem Qp7:Tryz.prog.cellsOf 50=1:=by kernel_rfl
theorem Qp8:Tryz.prog.cellsOf 51=1:=by kernel_rfl
theorem Qp9:Tryz.prog.cellsOf 52=1:=by kernel_rfl
theorem Qqa:Tryz.prog.cellsOf 54=3:=by kernel_rfl
theorem Qqb:Tryz.prog.readableRec 54=true:=by kernel_rfl
theorem Qqc:54<Tryz.prog.types.size:=by refine of_decide_eq_true ?_;kernel_rfl
section
variable {H:Type}
theorem Qfl{α:Type}(dat:α→DataW H)(hd:∀e,1≤Rows.uptoBulk (dat e))(es:List α):es.length≤Rows.uptoBulkAll (es.map dat):=by
 induction es with
 |nil=>simp
 |cons e l ih=>
  have:=hd e;simp only[List.map_cons,Rows.uptoBulkAll,List.length_cons];omega
theorem Qdv{α:Type}{dat:α→DataW H}{es:List α}{d:DataW H}{N:Nat}(hb:Rows.uptoBulk d≤N)(hl:∀l r,d=.slice l r→l=es.map dat)(hs:(es= []∧d=.nil)∨∃l r,d=.slice l r):Rows.uptoBulkAll (es.map dat)≤N:=by
 rcases hs with ⟨rfl,_⟩|⟨l,r,rfl⟩
 · simp[Rows.uptoBulkAll]
 · rw[←hl l r rfl]
   exact Nat.le_trans (Qps l r) hb
theorem Qix(s:S2):1≤Rows.uptoBulk (spotD (H:=H) s)∧s.x.size+s.y.size≤Rows.uptoBulk (spotD (H:=H) s):=by
 simp[spotD,textD,Rows.uptoBulk,Rows.uptoBulkAll];omega
theorem Qiy(b:B6):1≤Rows.uptoBulk (barD (H:=H) b)∧b.c.size+b.e.size+b.l.size+b.m.size≤Rows.uptoBulk (barD (H:=H) b):=by
 simp[barD,textD,Rows.uptoBulk,Rows.uptoBulkAll];omega
theorem Qiz(h:H3):1≤Rows.uptoBulk (holdD (H:=H) h)∧h.q.size≤Rows.uptoBulk (holdD (H:=H) h):=by
 simp[holdD,textD,Rows.uptoBulk,Rows.uptoBulkAll];omega
theorem Qfm{α:Type}(dat:α→DataW H){es:List α}{e:α}(he:e∈ es):Rows.uptoBulk (dat e)≤Rows.uptoBulkAll (es.map dat):=Qiw (List.mem_map.2 ⟨e,he,rfl⟩)
variable {enc:TypeId × Value→H} {W:World}
theorem Qqd{cs:Array Value}{d:DataW H}{ps:List MemPlace}(hb:Rows.uptoBulk d≤1048576)
 (h:DataW.Trod enc Tryz.prog W 0 (fun _=>true) true 54 (.agg cs) d ps):
 ∃(a1 a2 a3:Option Addr) (c1 c2 c3:Nat) (js:List S2) (bs:List B6) (hs:List H3),cs=#[.slice a1 js.length c1,.slice a2 bs.length c2,.slice a3 hs.length c3]∧FrRow W a1 a2 a3 c1 c2 c3 js bs hs∧FrSized js bs hs∧js.length≤1048576∧bs.length≤1048576∧hs.length≤1048576∧Rows.uptoBulkAll (js.map (spotD (H:=H)))≤Rows.uptoBulk d:=by
 obtain⟨fuel,h⟩:=h;obtain⟨n,v0,v1,v2,y0,y1,y2,hcs,hx,h0,h1,h2⟩:=Qo3 Tryz.underlying54 Qqa rfl rfl rfl Qp7 Qp8 Qp9 rfl rfl rfl h;have e0:(Value.agg cs).cells.toList=cs.toList:=by rfl
 rw[e0] at hcs;clear h e0;obtain⟨a1,c1,js,e1,r1,l1,s1⟩:=Qfg (c:=S2.cells) (dat:=spotD) (sz:=2) ⟨⟨#[]⟩,⟨#[]⟩⟩ (by decide) (fun _=>rfl) Tryz.underlying50 Qfh (fun fuel cs x hx=>by
  obtain⟨s,t,e,hd,_⟩:=Qik Tryz.underlying25 Tryz.underlying23 Qfh Qb4 rfl rfl rfl rfl hx
  exact⟨⟨s,t⟩,e,hd⟩) h0
 obtain⟨a2,c2,bs,e2,r2,l2,s2⟩:=Qfg (c:=B6.cells) (dat:=barD) (sz:=6) ⟨0,0,⟨#[]⟩,⟨#[]⟩,⟨#[]⟩,⟨#[]⟩⟩ (by decide) (fun _=>rfl) Tryz.underlying51 Qfj (fun fuel cs x hx=>Qii Tryz.underlying68 Tryz.underlying23 Tryz.underlying3 Qfj Qb4 cellsInt rfl rfl rfl rfl rfl rfl rfl rfl rfl rfl rfl rfl hx) h1;obtain⟨a3,c3,hs,e3,r3,l3,s3⟩:=Qfg (c:=H3.cells) (dat:=holdD) (sz:=3) ⟨0,0,⟨#[]⟩⟩ (by decide) (fun _=>rfl) Tryz.underlying52 Qfk (fun fuel cs x hx=>Qij Tryz.underlying122 Tryz.underlying23 Tryz.underlying3 Tryz.underlying3 Qfk Qb4 cellsInt cellsInt rfl rfl rfl rfl rfl rfl hx) h2;obtain rfl:v0=_:=by simpa using e1
 obtain rfl:v1=_:=by simpa using e2
 obtain rfl:v2=_:=by simpa using e3
 have hd:d=.agg [y0.1,y1.1,y2.1]:=hx;subst hd;have b0:Rows.uptoBulk y0.1≤1048576:=Nat.le_trans (by simp only[Rows.uptoBulk,Rows.uptoBulkAll];omega) hb;have b1:Rows.uptoBulk y1.1≤1048576:=Nat.le_trans (by simp only[Rows.uptoBulk,Rows.uptoBulkAll];omega) hb;have b2:Rows.uptoBulk y2.1≤1048576:=Nat.le_trans (by simp only[Rows.uptoBulk,Rows.uptoBulkAll];omega) hb;have k0:=Qdv b0 l1 s1;have k1:=Qdv b1 l2 s2;have k2:=Qdv b2 l3 s3;have n0:=Qfl (H:=H) spotD (fun e=>(Qix e).1) js;have n1:=Qfl (H:=H) barD (fun e=>(Qiy e).1) bs;have n2:=Qfl (H:=H) holdD (fun e=>(Qiz e).1) hs;refine⟨a1,a2,a3,c1,c2,c3,js,bs,hs,by rw[←Array.toArray_toList (xs:=cs),hcs],⟨r1,r2,r3⟩,⟨fun p hp=>?_,fun p hp=>?_,fun p hp=>?_⟩,by omega,by omega,by omega,Nat.le_trans (Qdv (Nat.le_refl _) l1 s1) (by simp only[Rows.uptoBulk,Rows.uptoBulkAll];omega)⟩
 ·
  have g1:=Qfm (H:=H) spotD hp;have g2:=(Qix (H:=H) p).2;omega
 ·
  have g1:=Qfm (H:=H) barD hp;have g2:=(Qiy (H:=H) p).2;omega
 ·
  have g1:=Qfm (H:=H) holdD hp;have g2:=(Qiz (H:=H) p).2;omega
end
end Go.Proofs.YtbbkamnfjejceaaGreatDoor
