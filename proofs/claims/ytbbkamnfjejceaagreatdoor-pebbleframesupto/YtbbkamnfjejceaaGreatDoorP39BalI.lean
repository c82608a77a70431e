/- raftersame: Stresses; the closed fact rigged. -/
import Derived.Test.YtbbkamnfjejceaaGreatDoorP38BalG
namespace Go.Proofs.YtbbkamnfjejceaaGreatDoor
open Go.RowKit
set_option linter.unusedVariables false
set_option linter.unusedSimpArgs false
theorem q_of{l t a:List UInt8}{v q:Rat}(h1:Lib.trimPrefix l [45]=t)(h2:Lib.cut t [47]=(a,[],false))(h3:IsDig a)(hv:v=mkRat (decVal a:Nat) 1)(hq:q=if Lib.hasPrefix l [45]=true then -v else v):QOf l q:=by
 refine⟨v,.inl ⟨⟨?_,?_⟩,?_⟩,hq⟩
 · rw[h1,h2];exact h3
 · rw[h1,h2];intro h;cases h
 · rw[h1,h2];simpa using hv
theorem Qc5{c:UInt8}(h1:48≤c.toNat)(h2:c.toNat≤57):IsDig [c]:=⟨by simp,fun d hd=>by
 obtain rfl:d=c:=by simpa using hd
 exact⟨h1,h2⟩⟩
theorem q0_of:QOf tx0.data.toList 0:=q_of (l:=[48]) (t:=[48]) (a:=[48]) (v:=0) (by decide) (by decide) (Qc5 (by decide) (by decide)) (by decide) (by decide)
theorem q1_of:QOf tx1.data.toList 1:=one_q
theorem qm_of:QOf (⟨#[45,49]⟩:ByteArray).data.toList (-1):=q_of (l:=[45,49]) (t:=[49]) (a:=[49]) (v:=1) (by decide) (by decide) (Qc5 (by decide) (by decide)) (by decide) (by decide)
theorem q2_of:QOf (⟨#[50]⟩:ByteArray).data.toList 2:=q_of (l:=[50]) (t:=[50]) (a:=[50]) (v:=2) (by decide) (by decide) (Qc5 (by decide) (by decide)) (by decide) (by decide)
theorem Qc6:FrSized cornerJ cornerB cornerH:=by
 refine⟨?_,?_,?_⟩
 ·
  intro p hp;simp[cornerJ] at hp;rcases hp with rfl|rfl|rfl<;>exact⟨by decide,by decide⟩
 ·
  intro b hb;simp[cornerB,cornerBar] at hb;rcases hb with rfl|rfl|rfl<;>exact⟨by decide,by decide,by decide,by decide⟩
 ·
  intro x hx;simp[cornerH] at hx;rcases hx with rfl|rfl|rfl<;>decide
def cornerVB:List (Nat × Nat × Rat × Rat):=[(0,1,1,0),(1,2,-1,1),(2,0,0,-1)]
def cornerVH:List Nat:=[0,1,3]
theorem Qc7:FrV 1048576 cornerJ cornerB cornerH cornerVB cornerVH:=by
 refine⟨by decide,by decide,by decide,rfl,rfl,?_,?_,by decide⟩
 ·
  intro i b p hb hp
  match i,hb,hp with
  |0,hb,hp=>
   cases hb;cases hp;exact⟨rfl,rfl,by decide,_,_,0,0,1,0,rfl,rfl,by decide,by decide,by decide,by decide,q0_of,q0_of,q1_of,q0_of,by decide +kernel,by decide +kernel⟩
  |1,hb,hp=>
   cases hb;cases hp;exact⟨rfl,rfl,by decide,_,_,1,0,0,1,rfl,rfl,by decide,by decide,by decide,by decide,q1_of,q0_of,q0_of,q1_of,by decide +kernel,by decide +kernel⟩
  |2,hb,hp=>
   cases hb;cases hp;exact⟨rfl,rfl,by decide,_,_,0,1,0,0,rfl,rfl,by decide,by decide,by decide,by decide,q0_of,q1_of,q0_of,q0_of,by decide +kernel,by decide +kernel⟩
  |n+3,hb,hp=>cases hb
 ·
  intro i h r hh hr
  match i,hh,hr with
  |0,hh,hr=>
   cases hh;cases hr;exact⟨0,rfl,by decide,rfl⟩
  |1,hh,hr=>
   cases hh;cases hr;exact⟨0,rfl,by decide,rfl⟩
  |2,hh,hr=>
   cases hh;cases hr;exact⟨1,rfl,by decide,rfl⟩
  |n+3,hh,hr=>cases hh
theorem Qe0:balRows 3 cornerVB 3 cornerVH=cornerM:=by
 have hb:∀r c,6≤c→balM cornerVB 3 cornerVH r c=0:=Qbl (nb:=3) (nh:=3) rfl rfl;have hv:∀(a b c d e f:Rat) (n:Nat),vec [a,b,c,d,e,f] (n+6)=0:=fun a b c d e f n=>by simp[vec]
 have key:∀(r:Nat) (a b c d e f:Rat),balM cornerVB 3 cornerVH r 0=a→balM cornerVB 3 cornerVH r 1=b→balM cornerVB 3 cornerVH r 2=c→balM cornerVB 3 cornerVH r 3=d→balM cornerVB 3 cornerVH r 4=e→balM cornerVB 3 cornerVH r 5=f→balM cornerVB 3 cornerVH r=vec [a,b,c,d,e,f]:=by
  intro r a b c d e f h0 h1 h2 h3 h4 h5;funext i
  match i with
  |0=>rw[h0];rfl
  |1=>rw[h1];rfl
  |2=>rw[h2];rfl
  |3=>rw[h3];rfl
  |4=>rw[h4];rfl
  |5=>rw[h5];rfl
  |n+6=>rw[hb r (n+6) (by omega),hv]
 show [balM cornerVB 3 cornerVH 0,balM cornerVB 3 cornerVH 1,balM cornerVB 3 cornerVH 2,balM cornerVB 3 cornerVH 3,balM cornerVB 3 cornerVH 4,balM cornerVB 3 cornerVH 5]=cornerM
 rw[key 0 1 0 0 1 0 0 (by decide +kernel) (by decide +kernel) (by decide +kernel) (by decide +kernel) (by decide +kernel) (by decide +kernel),
  key 1 0 0 1 0 1 0 (by decide +kernel) (by decide +kernel) (by decide +kernel) (by decide +kernel) (by decide +kernel) (by decide +kernel),
  key 2 (-1) (-1) 0 0 0 0 (by decide +kernel) (by decide +kernel) (by decide +kernel) (by decide +kernel) (by decide +kernel) (by decide +kernel),
  key 3 0 1 0 0 0 1 (by decide +kernel) (by decide +kernel) (by decide +kernel) (by decide +kernel) (by decide +kernel) (by decide +kernel),
  key 4 0 1 0 0 0 0 (by decide +kernel) (by decide +kernel) (by decide +kernel) (by decide +kernel) (by decide +kernel) (by decide +kernel),
  key 5 0 (-1) (-1) 0 0 0 (by decide +kernel) (by decide +kernel) (by decide +kernel) (by decide +kernel) (by decide +kernel) (by decide +kernel)]
 rfl
theorem Qc8:FrameFault cornerJ cornerB cornerH 0 0:=by
 refine .inr (.inr ⟨by rintro(h|h|h|h)<;>exact absurd h (by decide),?_,.inr ⟨?_,rfl,rfl⟩⟩)
 ·
  intro i x hx
  match i,hx with
  |0,hx=>
   cases hx;exact .inr ⟨⟨by decide,by decide⟩,⟨by decide,by decide⟩,_,_,rfl,rfl,0,0,1,0,1,-1,2,q0_of,q0_of,q1_of,q0_of,q1_of,qm_of,q2_of,by decide +kernel⟩
  |1,hx=>
   cases hx;exact .inr ⟨⟨by decide,by decide⟩,⟨by decide,by decide⟩,_,_,rfl,rfl,1,0,0,1,1,-1,2,q1_of,q0_of,q0_of,q1_of,q1_of,qm_of,q2_of,by decide +kernel⟩
  |2,hx=>
   cases hx;exact .inr ⟨⟨by decide,by decide⟩,⟨by decide,by decide⟩,_,_,rfl,rfl,0,1,0,0,1,-1,2,q0_of,q1_of,q0_of,q0_of,q1_of,qm_of,q2_of,by decide +kernel⟩
  |n+3,hx=>cases hx
 ·
  intro i x hx
  match i,hx with
  |0,hx=>cases hx;decide
  |1,hx=>cases hx;decide
  |2,hx=>cases hx;decide
  |n+3,hx=>cases hx
def cornerL:List L3:=[⟨2,tx1,tx0⟩]
def cornerVS:List (Nat × Rat × Rat):=[(2,1,0)]
theorem Qi0:∀(i:Nat) (l:L3) (p:Nat × Rat × Rat),cornerL[i]?=some l→cornerVS[i]?=some p→LoadV 3 l p:=by
 intro i l p hl hp
 match i,hl,hp with
 |0,hl,hp=>
  cases hl;cases hp;exact⟨rfl,by decide,q1_of,q0_of,by decide,by decide⟩
 |n+1,hl,hp=>cases hl
theorem Qi1:(List.range 6).map (agn cornerVS)= [0,0,0,0,-1,0]:=by decide +kernel
theorem qt1:QText tx1.data.toList 1:=⟨[49],⟨[49],.inr ⟨by decide,[1],⟨fun d hd=>by simp at hd;omega,.inr (by simp),by simp[val]⟩,by decide⟩,by decide⟩,.inl ⟨by decide,rfl⟩⟩
theorem qtm:QText (⟨#[45,49]⟩:ByteArray).data.toList (-1):=⟨[45,49],⟨[49],.inr ⟨by decide,[1],⟨fun d hd=>by simp at hd;omega,.inr (by simp),by simp[val]⟩,by decide⟩,by decide⟩,.inl ⟨by decide,rfl⟩⟩
def TLst(w:World)(a:Option Addr)(l:List ByteArray):Prop:=∀(i:Nat) (s:ByteArray),l[i]?=some s→∃b off,a=some ⟨b,off,none⟩∧b<w.heap.size∧w.cell? ⟨b,off+i,none⟩=some (.string s)
theorem TLst.below{w w':World}{a:Option Addr}{l:List ByteArray}(h:TLst w a l)(hb:Below w.heap.size w w'):TLst w' a l:=fun i s hi=>by
 obtain⟨b,off,h1,h2,h3⟩:=h i s hi;exact⟨b,off,h1,Nat.lt_of_lt_of_le h2 hb.size,(hb.cell (p:=⟨b,off+i,none⟩) h2).trans h3⟩
theorem SB.texts{w:World}{g:Nat}{t:TypeId}{l:List ByteArray}(h:SB w g t (textsV l).toArray):TLst w (some ⟨g,0,none⟩) l:=fun i s hi=>⟨g,0,rfl,h.lt,by
 rw[Nat.zero_add,h.cell]
 simp[textsV,hi]⟩
set_option maxRecDepth 100000 in
theorem Qe1(a b:Option Addr)(c d:Nat)(l:List ByteArray)(w:World)(hu:TLst w a l)(hv:TLst w b l)(hs:l.length≤1000000):
 Calls Tryz.prog 125 #[.slice a l.length c,.slice b l.length d] w fun e w'=>e=.returned (.bool true)∧Below w.heap.size w w':=by
 have HC:=Hi hu;have HD:=Hi hv;clear hu hv;go_enter Tryz.func125,Tryz.ntmps125;go_wp2_with fail;go_loopw [13] (fun iv wr=>∃i:Nat,i≤l.length∧iv=.int .i64 i∧Below w.heap.size w wr) (fun iv _=>l.length - (intOf iv).toNat)
 case atStart=>exact⟨0,by omega,rfl,Below.refl _ _⟩
 case round=>
  obtain⟨i,hi,rfl,hb⟩:=hrel;have HB:=Hi hb;by_cases hie:i<l.length
  ·
   obtain⟨f,hf⟩:∃f,l[i]?=some f:=⟨l[i],List.getElem?_eq_getElem hie⟩;obtain⟨b1,o1,rfl,h1,d1⟩:=HC.out i f hf;obtain⟨b2,o2,rfl,h2,d2⟩:=HD.out i f hf;have d1':wr.cell? ⟨b1,o1+i,none⟩=some (.string f):=(hb.cell (p:=⟨b1,o1+i,none⟩) h1).trans d1;have d2':wr.cell? ⟨b2,o2+i,none⟩=some (.string f):=(hb.cell (p:=⟨b2,o2+i,none⟩) h2).trans d2;have q3:((i:Int)<(l.length:Int)):=by omega
   clear hf d1 d2 hb h1 h2;go_wp2_with fail;go_region;go_wp2;go_roundw
   case rel=>exact⟨i+1,by omega,by go_num,HB.out.drew⟩
   case measure=>simp[intOf];omega
  ·
   obtain rfl:i=l.length:=by omega
   clear hb;go_wp2;go_ret;exact⟨rfl,HB.out⟩
set_option maxRecDepth 100000 in
set_option maxHeartbeats 1000000 in
theorem Qi2(a b a' b':Option Addr)(c d c' d':Nat)(x y:List ByteArray)(w:World)(hx:TLst w a x)(hy:TLst w b y)(hx':TLst w a' x)(hy':TLst w b' y)(lx:x.length≤1000000)(ly:y.length≤1000000):
 Calls Tryz.prog 61 #[.agg #[.slice a x.length c,.slice b y.length d],.agg #[.slice a' x.length c',.slice b' y.length d']] w fun e w'=>e=.returned (.bool true)∧Below w.heap.size w w':=by
 obtain⟨V,hV⟩:∃V,(w.alloc (.cells #[.slice a x.length c,.slice b y.length d] 111)).alloc (.cells #[.slice a' x.length c',.slice b' y.length d'] 111)=V:=⟨_,rfl⟩;obtain⟨B0,hB0⟩:∃B0,w.heap.size=B0:=⟨_,rfl⟩;have hbV:Below w.heap.size w V:=by rw[←hV];exact Below.new2 w _ _
 have s1:SB V B0 111 #[.slice a x.length c,.slice b y.length d]:=by rw[←hV,←hB0];exact(SB.new w _ _).alloc _
 have s2:SB V (B0+1) 111 #[.slice a' x.length c',.slice b' y.length d']:=by rw[←hV,←hB0];exact Qaq w _ _ _
 have HE1:=Hi (Qe1 a a' c c' x V (hx.below hbV) (hx'.below hbV) lx);have HY:=Hi (⟨hy.below hbV,hy'.below hbV⟩:TLst V b y∧TLst V b' y);have k0:V.cell? ⟨B0,0,none⟩=some (.slice a x.length c):=s1.cell 0;have k1:V.cell? ⟨B0+1,0,none⟩=some (.slice a' x.length c'):=s2.cell 0;have HS1:=Hi s1;have HS2:=Hi s2;have HBV:=Hi hbV;rw[←hV,←hB0] at k0 k1;have HV:=Hi hV;have HB0:=Hi hB0;clear hV hB0 hbV s1 s2 hx hx' hy hy';go_enter Tryz.func61,Tryz.ntmps61;go_wp2_with fail;rw[HV.out,HB0.out];go_fit HE1.out;rintro e w1 ⟨rfl,hb1⟩;have HB1:=Hi (HBV.out.trans (hb1.mono HBV.out.size));have HE2:=Hi (Qe1 b b' d d' y w1 (HY.out.1.below hb1) (HY.out.2.below hb1) ly);have m0:w1.cell? ⟨B0,1,none⟩=some (.slice b y.length d):=(HS1.out.below hb1 HS1.out.lt).cell 1;have m1:w1.cell? ⟨B0+1,1,none⟩=some (.slice b' y.length d'):=(HS2.out.below hb1 HS2.out.lt).cell 1;clear hb1 k0 k1;go_wp2_with fail;go_fit HE2.out
 rintro e w2 ⟨rfl,hb2⟩;have HB2:=Hi (HB1.out.trans (hb2.mono HB1.out.size));clear hb2 m0 m1;go_wp2;go_ret;exact⟨rfl,HB2.out⟩
theorem Qi3{w w':World}{e:Ending}(h:CarrySays 3 3 cornerM [0,0,0,0,-1,0] w e w'):
 ∃g1 g2,e=.returned (.tuple #[.agg #[.slice (some ⟨g1,0,none⟩) 3 3,.slice (some ⟨g2,0,none⟩) 3 3],.agg #[.int .i64 0,.int .i64 0]])∧TLst w' (some ⟨g1,0,none⟩) [⟨#[49]⟩,⟨#[45,49]⟩,⟨#[49]⟩]∧TLst w' (some ⟨g2,0,none⟩) [⟨#[45,49]⟩,⟨#[45,49]⟩,⟨#[49]⟩]∧Below w.heap.size w w':=by
 have hsol:Sol 6 cornerM [0,0,0,0,-1,0] (vec [1,-1,1,-1,-1,1]):=(Qdf _).2 (by decide +kernel);obtain⟨h,hb⟩:=h;rcases h with ⟨_,h⟩|⟨_,x,y,h1,h2,c,hc,hne⟩|⟨g1,g2,x,y,us,rfl,hx,hy,htx,hty,hul,hone⟩
 · exact absurd hsol (h _)
 ·
  exfalso
  obtain⟨a0,a1,a2,a3,a4,a5⟩:=(Qdf x).1 h1;obtain⟨b0,b1,b2,b3,b4,b5⟩:=(Qdf y).1 h2;have e:c=0∨c=1∨c=2∨c=3∨c=4∨c=5:=by omega
  rcases e with rfl|rfl|rfl|rfl|rfl|rfl
  · exact hne (a0.trans b0.symm)
  · exact hne (a1.trans b1.symm)
  · exact hne (a2.trans b2.symm)
  · exact hne (a3.trans b3.symm)
  · exact hne (a4.trans b4.symm)
  · exact hne (a5.trans b5.symm)
 ·
  have hq:=(hone _).1 hsol;have text:∀(s t:ByteArray) (q:Rat),QText s.data.toList q→QText t.data.toList q→s=t:=fun s t q h1 h2=>by
   have:=h1.inj h2;cases s;cases t
   congr 1
   exact Array.toList_inj.1 this
  have hin:∀(i:Nat),i<6→∃t,us[i]?=some t∧vec [1,-1,1,-1,-1,1] i=t.q:=fun i hi=>⟨us[i]'(by omega),List.getElem?_eq_getElem (by omega),hq i _ (List.getElem?_eq_getElem (by omega))⟩
  have hX:x= [⟨#[49]⟩,⟨#[45,49]⟩,⟨#[49]⟩]:=by
   have hl:x.length=3:=by rw[htx.1,List.length_take];omega
   have at_:∀i s,i<3→x[i]?=some s→QText s.data.toList (vec [1,-1,1,-1,-1,1] i):=fun i s hi hs=>by
    obtain⟨t,ht,e⟩:=hin i (by omega);rw[e];exact htx.2 i t s (by rw[List.getElem?_take_of_lt hi];exact ht) hs
   match x,hl,at_ with
   | [s0,s1,s2],_,at_=>
     rw[text s0 ⟨#[49]⟩ 1 (at_ 0 s0 (by decide) rfl) qt1,text s1 ⟨#[45,49]⟩ (-1) (at_ 1 s1 (by decide) rfl) qtm,text s2 ⟨#[49]⟩ 1 (at_ 2 s2 (by decide) rfl) qt1]
  have hY:y= [⟨#[45,49]⟩,⟨#[45,49]⟩,⟨#[49]⟩]:=by
   have hl:y.length=3:=by rw[hty.1,List.length_drop];omega
   have at_:∀i s,i<3→y[i]?=some s→QText s.data.toList (vec [1,-1,1,-1,-1,1] (3+i)):=fun i s hi hs=>by
    obtain⟨t,ht,e⟩:=hin (3+i) (by omega);rw[e];exact hty.2 i t s (by rw[List.getElem?_drop];exact ht) hs
   match y,hl,at_ with
   | [s0,s1,s2],_,at_=>
     rw[text s0 ⟨#[45,49]⟩ (-1) (at_ 0 s0 (by decide) rfl) qtm,text s1 ⟨#[45,49]⟩ (-1) (at_ 1 s1 (by decide) rfl) qtm,text s2 ⟨#[49]⟩ 1 (at_ 2 s2 (by decide) rfl) qt1]
  subst hX;subst hY;exact⟨g1,g2,rfl,hx.texts,hy.texts,hb⟩
end Go.Proofs.YtbbkamnfjejceaaGreatDoor
