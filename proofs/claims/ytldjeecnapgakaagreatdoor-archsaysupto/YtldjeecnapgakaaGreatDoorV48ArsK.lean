/- The law ArchSays, walked. -/
import Derived.Test.YtldjeecnapgakaaGreatDoorV47ArsH
import Derived.Deep.CutBlock
namespace Go.Proofs.YtldjeecnapgakaaGreatDoor
open Go.RowKit
open Go.Proofs.Tryz
set_option linter.unusedSimpArgs false
set_option linter.unusedVariables false
set_option maxHeartbeats 8000000
set_option maxRecDepth 1000000
theorem Qgs{vs:List V4}{h:Rat}(h0:(archF vs).1=0):HasLine vs h↔¬h<0/\∃i j,i<j/\j<vs.length/\fitsTo vs (lnC vs h i j) vs.length:=by
 obtain⟨h2,_⟩:=Qat h0;constructor
 .
  rintro⟨h1,s,m,hf⟩;obtain⟨p,q,hpq,hq,hf⟩:=Qj9 h2 (Qa5 h0).1 hf;exact⟨Rat.not_lt.2 h1,p,q,hpq,hq,fun x hx=>by rw[<-Qlg];exact hf x hx⟩
 . rintro⟨h1,i,j,_,_,hf⟩
   exact⟨Rat.not_lt.1 h1,_,_,fun q hq=>by rw[<-Qlh];exact hf q hq⟩
def LineC(vs:List V4)(h:Rat)(w w':World)(v:Value)(c1 c2:Int):Prop:=
 (((archF vs).1≠0/\v=.slice none 0 0/\(c1,c2)=archF vs)∨
    ((archF vs).1=0/\h<0/\v=.slice none 0 0/\(c1,c2)=(5,(vs.length:Int)))∨
    ((archF vs).1=0/\¬h<0/\v=.slice none 0 0/\(c1,c2)=(8,0)/\∀i j,i<j->j<vs.length->¬fitsTo vs (lnC vs h i j) vs.length)∨
    ((archF vs).1=0/\¬h<0/\(c1,c2)=(0,0)/\∃(i j g:Nat) (ls:List ByteArray),i<j/\j<vs.length/\fitsTo vs (lnC vs h i j) vs.length/\v=.slice (some ⟨g,0,none⟩) vs.length vs.length/\w.heap.size<=g/\ls.length=vs.length/\SB w' g 23 (textsV ls).toArray/\∀(k:Nat) (s:ByteArray),ls[k]?=some s->QText s.data.toList (lnC vs h i j k)))
theorem LineC.bad{vs:List V4}{q:Rat}{w w':World}{v:Value}{c1 c2 f1 f2:Int}(h:LineC vs q w w' v c1 c2)(he:archF vs=(f1,f2))(hf:f1≠0):v=.slice none 0 0/\c1=f1/\c2=f2:=by
 have h0:(archF vs).1≠0:=by rw[he];exact hf
 rcases h with ⟨_,h2,h3⟩|⟨h1,_⟩|⟨h1,_⟩|⟨h1,_⟩
 .
  rw[he] at h3;obtain⟨rfl,rfl⟩:=Prod.mk.inj h3;exact⟨h2,rfl,rfl⟩
 all_goals exact absurd h1 h0
theorem LineC.neg{vs:List V4}{q:Rat}{w w':World}{v:Value}{c1 c2:Int}(h:LineC vs q w w' v c1 c2)(h0:(archF vs).1=0)(hq:q<0):v=.slice none 0 0/\c1=5/\c2=(vs.length:Int):=by
 rcases h with ⟨h1,_⟩|⟨_,h2,h3,h4⟩|⟨_,h2,_⟩|⟨_,h2,_⟩
 . exact absurd h0 h1
 . obtain⟨rfl,rfl⟩:=Prod.mk.inj h4
   exact⟨h3,rfl,rfl⟩
 all_goals exact absurd hq h2
theorem LineC.no{vs:List V4}{q:Rat}{w w':World}{v:Value}{c1 c2:Int}(h:LineC vs q w w' v c1 c2)(h0:(archF vs).1=0)(hq:¬q<0)(hl:¬HasLine vs q):v=.slice none 0 0/\c1=8/\c2=0:=by
 rcases h with ⟨h1,_⟩|⟨_,h2,_⟩|⟨_,h2,h3,h4,h5⟩|⟨_,h2,h3,i,j,g,ls,h4,h5,h6,_⟩
 . exact absurd h0 h1
 . exact absurd h2 hq
 . obtain⟨rfl,rfl⟩:=Prod.mk.inj h4
   exact⟨h3,rfl,rfl⟩
 . exact absurd ((Qgs h0).2 ⟨h2,i,j,h4,h5,h6⟩) hl
theorem LineC.yes{vs:List V4}{q:Rat}{w w':World}{v:Value}{c1 c2:Int}(h:LineC vs q w w' v c1 c2)(h0:(archF vs).1=0)(hq:¬q<0)(hl:HasLine vs q):c1=0/\c2=0/\∃(i j g:Nat) (ls:List ByteArray),i<j/\j<vs.length/\fitsTo vs (lnC vs q i j) vs.length/\v=.slice (some ⟨g,0,none⟩) vs.length vs.length/\ls.length=vs.length/\SB w' g 23 (textsV ls).toArray/\∀(k:Nat) (s:ByteArray),ls[k]?=some s->QText s.data.toList (lnC vs q i j k):=by
 rcases h with ⟨h1,_⟩|⟨_,h2,_⟩|⟨_,h2,h3,h4,h5⟩|⟨_,h2,h3,i,j,g,ls,h4,h5,h6,h7,_,h8,h9,h10⟩
 . exact absurd h0 h1
 . exact absurd h2 hq
 . obtain⟨_,i,j,hij,hj,hf⟩:=(Qgs h0).1 hl
   exact absurd hf (h5 i j hij hj)
 . obtain⟨rfl,rfl⟩:=Prod.mk.inj h3
   exact⟨rfl,rfl,i,j,g,ls,h4,h5,h6,h7,h8,h9,h10⟩
def SlackC(vs:List V4)(s1 s2:ByteArray)(o:Bool)(c1 c2:Int):Prop:=
 (((archF vs).1≠0/\s1=⟨#[]⟩/\s2=⟨#[]⟩/\o=false/\(c1,c2)=archF vs)∨
    ((archF vs).1=0/\s1=⟨#[]⟩/\s2=⟨#[]⟩/\o=false/\(c1,c2)=(8,0)/\∀h,¬HasLine vs h)∨
    ((archF vs).1=0/\(c1,c2)=(0,0)/\∃(least:Rat) (most:Option Rat),QText s1.data.toList least/\((o=true/\s2=⟨#[]⟩/\most=none)∨(o=false/\∃m,most=some m/\QText s2.data.toList m))/\InR least most least/\∀h,InR least most h↔HasLine vs h))
theorem SlackC.bad{vs:List V4}{s1 s2:ByteArray}{o:Bool}{c1 c2 f1 f2:Int}(h:SlackC vs s1 s2 o c1 c2)(he:archF vs=(f1,f2))(hf:f1≠0):s1=⟨#[]⟩/\s2=⟨#[]⟩/\o=false/\c1=f1/\c2=f2:=by
 have h0:(archF vs).1≠0:=by rw[he];exact hf
 rcases h with ⟨_,h2,h3,h4,h5⟩|⟨h1,_⟩|⟨h1,_⟩
 .
  rw[he] at h5;obtain⟨rfl,rfl⟩:=Prod.mk.inj h5;exact⟨h2,h3,h4,rfl,rfl⟩
 all_goals exact absurd h1 h0
theorem standsF.bad{vs:List V4}{q:Rat}{nl:Nat}{z:Nat->Rat}{b:Bool}{c1 c2 f1 f2:Int}(h:standsF vs q nl z b (c1,c2))(he:archF vs=(f1,f2))(hf:f1≠0):b=false/\c1=f1/\c2=f2:=by
 have h0:(archF vs).1≠0:=by rw[he];exact hf
 unfold standsF at h;rw[if_pos h0,he] at h;obtain⟨h1,h2⟩:=h;obtain⟨rfl,rfl⟩:=Prod.mk.inj h2;exact⟨h1,rfl,rfl⟩
theorem standsF.count{vs:List V4}{q:Rat}{nl:Nat}{z:Nat->Rat}{b:Bool}{c1 c2:Int}(h:standsF vs q nl z b (c1,c2))(h0:(archF vs).1=0)(hc:nl≠vs.length):b=false/\c1=10/\c2=(vs.length:Int):=by
 unfold standsF at h;rw[if_neg (by rw[h0];simp),if_pos hc] at h;obtain⟨h1,h2⟩:=h;obtain⟨rfl,rfl⟩:=Prod.mk.inj h2;exact⟨h1,rfl,rfl⟩
theorem standsF.neg{vs:List V4}{q:Rat}{nl:Nat}{z:Nat->Rat}{b:Bool}{c1 c2:Int}(h:standsF vs q nl z b (c1,c2))(h0:(archF vs).1=0)(hc:nl=vs.length)(hq:q<0):b=false/\c1=5/\c2=(vs.length:Int):=by
 unfold standsF at h;rw[if_neg (by rw[h0];simp),if_neg (by rw[hc];simp),if_pos hq] at h;obtain⟨h1,h2⟩:=h;obtain⟨rfl,rfl⟩:=Prod.mk.inj h2;exact⟨h1,rfl,rfl⟩
theorem standsF.yes{vs:List V4}{q:Rat}{nl:Nat}{z:Nat->Rat}{b:Bool}{c1 c2:Int}(h:standsF vs q nl z b (c1,c2))(h0:(archF vs).1=0)(hc:nl=vs.length)(hq:¬q<0):c1=0/\c2=0/\(b=true↔stdTo vs q z vs.length vs.length):=by
 unfold standsF at h;rw[if_neg (by rw[h0];simp),if_neg (by rw[hc];simp),if_neg hq] at h;obtain⟨h1,h2⟩:=h;obtain⟨rfl,rfl⟩:=Prod.mk.inj h1;exact⟨rfl,rfl,h2.trans (Qlw h0).symm⟩
theorem Ql6{vs:List V4}{s1 s2:ByteArray}{o there:Bool}{c1 c2:Int}{l:Rat}{m:Option Rat}(h0:(archF vs).1=0)
 (hs:SlackC vs s1 s2 o c1 c2)
 (hr:(there=true/\InR l m l/\∀h,InR l m h↔HasLine vs h)∨(there=false/\∀h,¬HasLine vs h)):
 (there=false/\s1=⟨#[]⟩/\s2=⟨#[]⟩/\o=false/\c1=8/\c2=0)∨(there=true/\m=none/\s2=⟨#[]⟩/\o=true/\c1=0/\c2=0/\QText s1.data.toList l)∨(there=true/\o=false/\c1=0/\c2=0/\QText s1.data.toList l/\∃mq,m=some mq/\QText s2.data.toList mq):=by
 rcases hs with ⟨h,_⟩|⟨_,h1,h2,h3,h4,h5⟩|⟨_,h4,least,most,h1,h2,h3,h5⟩
 . exact absurd h0 h
 .
  obtain⟨rfl,rfl⟩:=Prod.mk.inj h4;rcases hr with ⟨_,r1,r2⟩|⟨r1,_⟩
  . exact absurd ((r2 l).1 r1) (h5 l)
  . exact Or.inl ⟨r1,h1,h2,h3,rfl,rfl⟩
 .
  obtain⟨rfl,rfl⟩:=Prod.mk.inj h4;rcases hr with ⟨r0,r1,r2⟩|⟨_,r1⟩
  .
   obtain⟨rfl,rfl⟩:=InR.uniq (a:=least) (p:=most) (b:=l) (q:=m) (fun h=>(h5 h).trans (r2 h).symm) h3;rcases h2 with ⟨rfl,h2,rfl⟩|⟨rfl,mq,rfl,h2⟩
   . exact Or.inr (Or.inl ⟨r0,rfl,h2,rfl,rfl,rfl,h1⟩)
   . exact Or.inr (Or.inr ⟨r0,rfl,rfl,rfl,h1,mq,rfl,h2⟩)
  . exact absurd ((h5 least).1 h3) (r1 least)
structure StMk (w:World) (m0 m1 m2 m3:ByteArray):Prop where
 c0:w.cell? ⟨0,0,none⟩=some (.string m0)
 c1:w.cell? ⟨0,1,none⟩=some (.string m1)
 c2:w.cell? ⟨0,2,none⟩=some (.string m2)
 c3:w.cell? ⟨0,3,none⟩=some (.string m3)
theorem StMk.below{w w':World}{m0 m1 m2 m3:ByteArray}(h:StMk w m0 m1 m2 m3)(hb:Below w.heap.size w w'):StMk w' m0 m1 m2 m3:=by
 have hl:0<w.heap.size:=World.block_lt_of_cell? _ _ h.c0;exact⟨ce hb hl h.c0,ce hb hl h.c1,ce hb hl h.c2,ce hb hl h.c3⟩
theorem Qc8{s t:ByteArray}{q:Rat}(h:QText s.data.toList q)(k:QText t.data.toList q):s=t:=by
 have e:=h.inj k;cases s;cases t
 congr 1
 exact Array.toList_inj.1 e
theorem Ql7{ls ms:List ByteArray}{y:Nat->Rat}(hl:ms.length=ls.length)(h1:∀(k:Nat) (s:ByteArray),ls[k]?=some s->QText s.data.toList (y k))(h2:∀(k:Nat) (s:ByteArray),ms[k]?=some s->QText s.data.toList (y k)):ms=ls:=by
 apply List.ext_getElem?;intro k;rcases Nat.lt_or_ge k ls.length with hk|hk
 .
  have e1:ls[k]?=some ls[k]:=gE hk;have e2:ms[k]?=some (ms[k]'(by omega)):=gE (by omega);rw[e1,e2]
  congr 1
  exact Qc8 (h2 k _ e2) (h1 k _ e1)
 . rw[List.getElem?_eq_none hk,List.getElem?_eq_none (by omega)]
theorem Qby{w:World}{c:Value}{e:Ending}{w':World}(h:e=.returned c/\Below w.heap.size w w'):Makes w (Is c) e w':=⟨c,h.1,h.2,rfl⟩
theorem Ql8{w:World}{g:Nat}{t:TypeId}{l:List ByteArray}(h:SB w g t (textsV l).toArray):TLst w (some ⟨g,0,none⟩) l:=fun i s hi=>⟨g,0,rfl,h.lt,by rw[Nat.zero_add,h.cell,List.getElem?_toArray];simp[textsV,hi]⟩
theorem Ql9(al ah:Option Addr)(cl ch n1 Kh:Nat)(ss:List T4)(vs:List V4)(sk:ByteArray)(hs:List ByteArray)(z:Nat->Rat)(m0 m1 m2 m3:ByteArray)(w:World)(hg:Glob w)(hmk:StMk w m0 m1 m2 m3)(hr:ARow T4.cells w al cl ss)(hv:StonesV ss vs)(hvf:VFits (4*n1+1) vs)(hn:ss.length<=1048576)(hh:ARow tc w ah ch hs)(hhl:hs.length<=1048576)(hz:HeightsV hs z Kh)(hkh:Kh<=2000000000)(hsum:n1+sk.size<=1048576):
 Calls prog 3 #[.slice al ss.length cl,.string sk,.slice ah hs.length ch] w fun e w'=>e=.returned (.bool true)/\Below w.heap.size w w':=by
 obtain⟨q,hq⟩:=QOf.ex sk.data.toList;obtain⟨n,hnn⟩:=nm ss.length;obtain⟨nh,hnh⟩:∃n,hs.length=n:=⟨_,rfl⟩;obtain⟨HG,HMK0,HRW,HV,HVF,HVL,HSL,HHL,HH⟩:=Ih hg hmk hr hv hvf (hv.len.trans hnn) hnn hnh hh;obtain⟨HZ,HQ,HFQ⟩:=Ib hz hq hq.fitsS;have hn':n<=1048576:=by omega
 have hnh':nh<=1048576:=by omega
 rw[hnn,hnh];clear hg hmk hr hv hvf hh hz hq hnn hnh hn hhl;go_enter func3,ntmps3;go_wp2_with fail;refine(Qlc w HG.o).mono ?_;rintro e w1 ⟨rfl,hb1⟩;have hmk:=HMK0.o.below hb1;have g0:=hmk.c0;have g1:=hmk.c1;have g2:=hmk.c2;have g3:=hmk.c3;have HB1:=Hi hb1;clear hb1 hmk;go_wp2_with fail;have HLS:=Hi (Qo8 al cl ss m0 m1 m2 m3 w1 (HRW.o.below HB1.o) (by have:=HSL.o;omega));rw[HSL.o] at HLS;refine HLS.o.mono ?_;rintro e w2 ⟨gs,hgs,rfl,hrs,hb2⟩;obtain⟨HRS2,HB2⟩:=Ia hrs (HB1.o.trans (hb2.mono HB1.o.size));clear hrs hb2 HLS g0 g1 g2 g3 hgs;go_wp2_with fail;have HLT:=Hi (Qls ah ch hs ⟨#[109,97,114,107]⟩ w2 (HH.o.below HB2.o) (by have:=HHL.o;omega));rw[HHL.o] at HLT;refine HLT.o.mono ?_;rintro e w3 ⟨gh,hgh,rfl,hrh,hb3⟩;obtain⟨HRH3,HRS3,HB3⟩:=Ib hrh (HRS2.o.below hb3) (HB2.o.trans (hb3.mono HB2.o.size));clear hrh hb3 HLT HRS2 hgh
 go_wp2_with fail;have HCA:=Hi (Qlq al cl ss vs w3 (HG.o.below HB3.o) (HRW.o.below HB3.o) HV.o (by have:=HSL.o;omega));rw[HSL.o] at HCA;refine HCA.o.mono ?_;obtain⟨f1,hf1⟩:∃f,(archF vs).1=f:=⟨_,rfl⟩;obtain⟨f2,hf2⟩:∃f,(archF vs).2=f:=⟨_,rfl⟩;rw[hf1,hf2];rintro e w4 ⟨rfl,hb4⟩;have HF12:O (archF vs=(f1,f2)):=Hi (Prod.ext hf1 hf2);clear HCA hf1 hf2;obtain⟨b9,hbx⟩:∃b,w4.heap.size=b:=⟨_,rfl⟩;obtain⟨V4,hVx⟩:∃V,w4.alloc (.cells #[.int .i64 f1,.int .i64 f2] 32)=V:=⟨_,rfl⟩;have hbv:Below w4.heap.size w4 V4:=by rw[<-hVx];exact(Below.refl _ _).alloc lZ _
 have hsv:SB V4 b9 32 #[.int .i64 f1,.int .i64 f2]:=by rw[<-hVx,<-hbx];exact SB.new w4 _ _
 obtain⟨HVE4,HBE9⟩:=Ia hVx hbx;clear hVx hbx;have h3v:=hb4.trans (hbv.mono hb4.size);obtain⟨HB4,HRS4,HRH4,HS9⟩:=Ic (HB3.o.trans (h3v.mono HB3.o.size)) (HRS3.o.below h3v) (HRH3.o.below h3v) hsv;clear hb4 hbv hsv h3v HRS3 HRH3;go_wp2_with fail;rw[HVE4.o];simp only[HBE9.o];have HSC:=Hi (Qgb (some ⟨gs,0,none⟩) (n+3) ss vs V4 (HG.o.below HB4.o) HRS4.o.left HV.o (by have:=HSL.o;omega));rw[HSL.o] at HSC;refine HSC.o.mono ?_;rintro e w5 ⟨⟨s1,s2,o,c1,c2,rfl,hsc⟩,hb5⟩;have HSAYS:O (SlackC vs s1 s2 o c1 c2):=Hi hsc;clear HSC hsc;obtain⟨b13,hbx⟩:∃b,w5.heap.size=b:=⟨_,rfl⟩;obtain⟨V5,hVx⟩:∃V,w5.alloc (.cells #[.int .i64 c1,.int .i64 c2] 32)=V:=⟨_,rfl⟩;have hbv:Below w5.heap.size w5 V5:=by rw[<-hVx];exact(Below.refl _ _).alloc lZ _
 have hsv:SB V5 b13 32 #[.int .i64 c1,.int .i64 c2]:=by rw[<-hVx,<-hbx];exact SB.new w5 _ _
 obtain⟨HVE5,HBE13⟩:=Ia hVx hbx;clear hVx hbx;have h3v:=hb5.trans (hbv.mono hb5.size);obtain⟨HB5,HRS5,HRH5,HS95,HS13⟩:=Id (HB4.o.trans (h3v.mono HB4.o.size)) (HRS4.o.below h3v) (HRH4.o.below h3v) (HS9.o.below h3v HS9.o.lt) hsv;clear hb5 hbv hsv h3v HRS4 HRH4 HS9 HVE4 HBE9;go_wp2_with fail;rw[HVE5.o];simp only[HBE13.o];have HLC:=Hi (Qf9 (some ⟨gs,0,none⟩) (n+3) 4194400 (4*sk.size+1) ss vs sk q V5 (HG.o.below HB5.o) HRS5.o.left HV.o (by have:=HSL.o;omega) HQ.o (by omega) HFQ.o (by omega) (by decide) (by decide) (by omega));rw[HSL.o] at HLC;refine HLC.o.mono ?_;rintro e w6 ⟨hln,hb6⟩;obtain⟨y,d1,d2,rfl,hlc⟩:=hln;have HLN:O (LineC vs q V5 w6 y d1 d2):=Hi hlc;clear HLC hlc;obtain⟨b15,hbx⟩:∃b,w6.heap.size=b:=⟨_,rfl⟩;obtain⟨V6,hVx⟩:∃V,w6.alloc (.cells #[.int .i64 d1,.int .i64 d2] 32)=V:=⟨_,rfl⟩
 have hbv:Below w6.heap.size w6 V6:=by rw[<-hVx];exact(Below.refl _ _).alloc lZ _
 have hsv:SB V6 b15 32 #[.int .i64 d1,.int .i64 d2]:=by rw[<-hVx,<-hbx];exact SB.new w6 _ _
 obtain⟨HVE6,HBE15⟩:=Ia hVx hbx;clear hVx hbx;have h3v:=hb6.trans (hbv.mono hb6.size);obtain⟨HB6,HRS6,HRH6,HS96,HS136,HS15,H6V⟩:=If (HB5.o.trans (h3v.mono HB5.o.size)) (HRS5.o.below h3v) (HRH5.o.below h3v) (HS95.o.below h3v HS95.o.lt) (HS13.o.below h3v HS13.o.lt) hsv hbv;clear hb6 hbv hsv h3v HRS5 HRH5 HS95 HS13 HVE5 HBE13;go_wp2_with fail;rw[HVE6.o];simp only[HBE15.o];have HST:=Hi (Qf8 (some ⟨gs,0,none⟩) (some ⟨gh,0,none⟩) (n+3) (nh+3) 4194400 (4*sk.size+1) Kh ss vs sk q hs z V6 (HG.o.below HB6.o) HRS6.o.left HV.o (by have:=HSL.o;omega) (by have:=HHL.o;omega) HQ.o (by omega) HFQ.o (by omega) HRH6.o.left HZ.o (by decide) (by decide) (by omega) hkh);rw[HSL.o,HHL.o] at HST;refine HST.o.mono ?_;rintro e w7 ⟨⟨ok,e1,e2,rfl,hsf⟩,hb7⟩;have HSTF:=Hi hsf;clear HST hsf
 obtain⟨b17,hbx⟩:∃b,w7.heap.size=b:=⟨_,rfl⟩;obtain⟨X,hVx⟩:∃V,w7.alloc (.cells #[.int .i64 e1,.int .i64 e2] 32)=V:=⟨_,rfl⟩;have hbv:Below w7.heap.size w7 X:=by rw[<-hVx];exact(Below.refl _ _).alloc lZ _
 have hsv:SB X b17 32 #[.int .i64 e1,.int .i64 e2]:=by rw[<-hVx,<-hbx];exact SB.new w7 _ _
 obtain⟨HVE7,HBE17⟩:=Ia hVx hbx;clear hVx hbx;have h3v:=hb7.trans (hbv.mono hb7.size);obtain⟨Y,hY⟩:=nm X.drew;have hxy:Below X.heap.size X Y:=by rw[<-hY];exact(Below.refl _ _).drew
 have h6y:=h3v.trans (hxy.mono h3v.size);obtain⟨HBY,HRS,HRH,H9,H13,H15,H17,H6Y⟩:=Ig (HB6.o.trans (h6y.mono HB6.o.size)) (HRS6.o.below h6y) (HRH6.o.below h6y) (HS96.o.below h6y HS96.o.lt) (HS136.o.below h6y HS136.o.lt) (HS15.o.below h6y HS15.o.lt) (hsv.below hxy hsv.lt) (H6V.o.trans (h6y.mono H6V.o.size));obtain⟨HGY,HMK,HRWY,HHY,HYE⟩:=Id (HG.o.below HBY.o) (HMK0.o.below HBY.o) (HRW.o.below HBY.o) (HH.o.below HBY.o) hY;clear hb7 hbv hsv h3v hY hxy h6y HRS6 HRH6 HS96 HS136 HS15 H6V HVE6 HBE15 HB1 HB2 HB3 HB4 HB5 HB6;have HCK:O (∀u,Below Y.heap.size Y u->Calls prog 12 #[.slice (some ⟨gs,0,none⟩) n (n+3)] u (Makes u (Is (.agg #[.int .i64 f1,.int .i64 f2])))):=Hi (fun u hb=>by
  have:=Qcx (some ⟨gs,0,none⟩) (n+3) ss vs u (HGY.o.below hb) (HRS.o.left.below hb) HV.o (by have:=HSL.o;omega);rw[HSL.o,HF12.o] at this
  exact this.mono (fun e w' h=>Qby h))
 have HSS:O (∀u,Below Y.heap.size Y u->Calls prog 13 #[.slice (some ⟨gs,0,none⟩) n (n+3),.slice al n cl,.agg #[.string m0,.string m1,.string m2,.string m3]] u (Makes u (Is (.bool true)))):=Hi (fun u hb=>by
  have hr:=HRS.o.below hb;rw[<-HSL.o] at hr;have:=Qsm gs al cl ss m0 m1 m2 m3 u hr (HRWY.o.below hb) (by have:=HSL.o;omega);rw[HSL.o] at this
  exact this.mono (fun e w' h=>Qby h))
 have HSTX:O (∀u,Below Y.heap.size Y u->Calls prog 14 #[.slice (some ⟨gh,0,none⟩) nh (nh+3),.slice ah nh ch,.string ⟨#[109,97,114,107]⟩] u (Makes u (Is (.bool true)))):=Hi (fun u hb=>by
  have hr:=HRH.o.below hb;rw[<-HHL.o] at hr;have:=Qlt gh ah ch hs ⟨#[109,97,114,107]⟩ u hr (HHY.o.below hb) (by have:=HHL.o;omega);rw[HHL.o] at this
  exact this.mono (fun e w' h=>Qby h))
 go_wp2_with fail;rw[HVE7.o];simp only[HBE17.o];refine RegG.bg 17 (fun j=>some (52+j)) ?_;rw[HYE.o];refine RegG.pu (c:=?_) [] (fun w hb=>?_) ?_;rotate_left
 .
  intro K hK;go_simp;exact hK
 refine RegG.ca (φ:=Is (.agg #[.int .i64 f1,.int .i64 f2])) [0] (Is.stays _) (fun w hb=>?_) ?_
 .
  intro K hK;go_simp;exact Makes.use (HCK.o _ hb) hK
 refine RegG.pu (c:=?_) [] (fun w hb=>?_) ?_;rotate_left
 .
  intro K hK;have x9:=(H9.o.below hb H9.o.lt).cell 0;have y9:=(H9.o.below hb H9.o.lt).cell 1;simp only[List.getElem?_toArray,List.getElem?_cons_zero,List.getElem?_cons_succ] at x9 y9;go_simp;exact hK
 refine RegG.pu (c:=?_) [1,2] (fun w hb=>?_) ?_;rotate_left
 .
  intro K hK;go_simp;exact hK
 refine RegG.pu (c:=?_) [3] (fun w hb=>?_) ?_;rotate_left
 .
  intro K hK;go_simp;exact hK
 refine RegG.pu (c:=?_) [4] (fun w hb=>?_) ?_;rotate_left
 .
  intro K hK;go_simp;exact hK
 refine RegG.pu (c:=?_) [4] (fun w hb=>?_) ?_;rotate_left
 .
  intro K hK;go_simp;exact hK
 refine RegG.pu (c:=?_) [4] (fun w hb=>?_) ?_;rotate_left
 .
  intro K hK;have hmk:=HMK.o.below hb;have g0:=hmk.c0;have g1:=hmk.c1;have g2:=hmk.c2;have g3:=hmk.c3;clear hmk;go_simp;exact hK
 refine RegG.ca (φ:=Is (.bool true)) [4,5,6,7] (Is.stays _) (fun w hb=>?_) ?_
 .
  intro K hK;go_simp;exact Makes.use (HSS.o _ hb) hK
 refine RegG.pu (c:=?_) [4,8] (fun w hb=>?_) ?_;rotate_left
 .
  intro K hK;go_simp;exact hK
 refine RegG.pu (c:=?_) [4,9] (fun w hb=>?_) ?_;rotate_left
 .
  intro K hK;go_simp;exact hK
 refine RegG.pu (c:=?_) [10] (fun w hb=>?_) ?_;rotate_left
 .
  intro K hK;go_simp;exact hK
 refine RegG.pu (c:=?_) [11] (fun w hb=>?_) ?_;rotate_left
 .
  intro K hK;go_simp;exact hK
 refine RegG.pu (c:=?_) [11] (fun w hb=>?_) ?_;rotate_left
 .
  intro K hK;go_simp;exact hK
 refine RegG.ca (φ:=Is (.bool true)) [11,12,13] (Is.stays _) (fun w hb=>?_) ?_
 .
  intro K hK;go_simp;exact Makes.use (HSTX.o _ hb) hK
 refine RegG.pu (c:=?_) [11,14] (fun w hb=>?_) ?_;rotate_left
 .
  intro K hK;go_simp;exact hK
 refine RegG.pu (c:=?_) [11,15] (fun w hb=>?_) ?_;rotate_left
 .
  intro K hK;go_simp;exact hK
 refine RegG.fi (fun u9 hb=>?_);have HB9:=Hi (HBY.o.trans (hb.mono HBY.o.size));have hbu:=hb;have x9:=(H9.o.below hb H9.o.lt).cell 0;have y9:=(H9.o.below hb H9.o.lt).cell 1;simp only[List.getElem?_toArray,List.getElem?_cons_zero,List.getElem?_cons_succ] at x9 y9;have x13:=(H13.o.below hb H13.o.lt).cell 0;have y13:=(H13.o.below hb H13.o.lt).cell 1;simp only[List.getElem?_toArray,List.getElem?_cons_zero,List.getElem?_cons_succ] at x13 y13;have x15:=(H15.o.below hb H15.o.lt).cell 0;have y15:=(H15.o.below hb H15.o.lt).cell 1;simp only[List.getElem?_toArray,List.getElem?_cons_zero,List.getElem?_cons_succ] at x15 y15;have x17:=(H17.o.below hb H17.o.lt).cell 0;have y17:=(H17.o.below hb H17.o.lt).cell 1;simp only[List.getElem?_toArray,List.getElem?_cons_zero,List.getElem?_cons_succ] at x17 y17;have HYU:=Hi hbu
 clear hb hbu HCK HSS HSTX HVE7 HBE17 HYE HRS HRH HMK HMK0;by_cases hf:f1=0
 .
  subst hf;have h0:(archF vs).1=0:=by rw[HF12.o]
  have hn10:n<=10:=by have:=(Qat h0).2;have:=HVL.o;omega
  have H0:=Hi h0;clear h0;go_wp2_with fail;refine(Ql0 al cl n ss vs u9 (HG.o.below HB9.o) (HRW.o.below HB9.o) HSL.o HV.o H0.o).mono ?_;rintro e wa ⟨lv,mv,there,l,m,rfl,hrl,hmv,hba,hsay⟩;obtain⟨HCASE,HRSAY,HRL,HMV,HBA,HYA⟩:=Ie (Ql6 H0.o HSAYS.o hsay) hsay hrl hmv (HB9.o.trans (hba.mono HB9.o.size)) (HYU.o.trans (hba.mono HYU.o.size));have hb:=HYA.o;clear x9 y9 x13 y13 x15 y15 x17 y17;have x13:=(H13.o.below hb H13.o.lt).cell 0;have y13:=(H13.o.below hb H13.o.lt).cell 1;simp only[List.getElem?_toArray,List.getElem?_cons_zero,List.getElem?_cons_succ] at x13 y13;clear hrl hmv hba hsay hb HB9 HYU HSAYS;go_upto_block 0 with fail
  go_cut [130] (fun s wc=>Below wa.heap.size wa wc)
  case first=>as_aux_lemma=>
   rcases HCASE.o with ⟨rfl,rfl,rfl,rfl,rfl,rfl⟩|⟨rfl,rfl,rfl,rfl,rfl,rfl,ht1⟩|⟨rfl,rfl,rfl,rfl,ht1,mq,rfl,ht2⟩
   .
    obtain⟨Z,hZ⟩:=nm wa.drew;have haz:Below wa.heap.size wa Z:=by rw[<-hZ];exact(Below.refl _ _).drew
    obtain⟨HAZ,HZ13,HZE⟩:=Ib haz (H13.o.below (HYA.o.trans (haz.mono HYA.o.size)) H13.o.lt) hZ;clear hZ haz x13 y13 HCASE;go_wp2_with fail;refine RegG.bg 14 (fun j=>some (133+j)) ?_;rw[HZE.o];refine RegG.pu (c:=?_) [] (fun w hb=>?_) ?_;rotate_left
    .
     intro K hK;have x9:=(HZ13.o.below hb HZ13.o.lt).cell 0;have y9:=(HZ13.o.below hb HZ13.o.lt).cell 1;simp only[List.getElem?_toArray,List.getElem?_cons_zero,List.getElem?_cons_succ] at x9 y9;go_simp;exact hK
    refine RegG.ca (φ:=Is (.agg #[.int .i64 8,.int .i64 0])) [] (Is.stays _) (fun w hb=>?_) ?_
    .
     intro K hK;go_simp;exact Makes.use ((Qa3 8 0 _).mono (fun e w' h=>Qby h)) hK
    refine RegG.pu (c:=?_) [0,1] (fun w hb=>?_) ?_;rotate_left
    .
     intro K hK;go_simp;exact hK
    refine RegG.pu (c:=?_) [2] (fun w hb=>?_) ?_;rotate_left
    .
     intro K hK;go_simp;exact hK
    refine RegG.pu (c:=?_) [3] (fun w hb=>?_) ?_;rotate_left
    .
     intro K hK;go_simp;exact hK
    refine RegG.pu (c:=?_) [3,4] (fun w hb=>?_) ?_;rotate_left
    .
     intro K hK;go_simp;exact hK
    refine RegG.pu (c:=?_) [3,5] (fun w hb=>?_) ?_;rotate_left
    .
     intro K hK;go_simp;exact hK
    refine RegG.pu (c:=?_) [6] (fun w hb=>?_) ?_;rotate_left
    .
     intro K hK;go_simp;exact hK
    refine RegG.pu (c:=?_) [7] (fun w hb=>?_) ?_;rotate_left
    .
     intro K hK;go_simp;exact hK
    refine RegG.pu (c:=?_) [7,8] (fun w hb=>?_) ?_;rotate_left
    .
     intro K hK;go_simp;exact hK
    refine RegG.pu (c:=?_) [7,9] (fun w hb=>?_) ?_;rotate_left
    .
     intro K hK;go_simp;exact hK
    refine RegG.pu (c:=?_) [10] (fun w hb=>?_) ?_;rotate_left
    .
     intro K hK;go_simp;exact hK
    refine RegG.pu (c:=?_) [11] (fun w hb=>?_) ?_;rotate_left
    .
     intro K hK;go_simp;exact hK
    refine RegG.pu (c:=?_) [11,12] (fun w hb=>?_) ?_;rotate_left
    .
     intro K hK;go_simp;exact hK
    refine RegG.fi (fun u8 hb=>?_);have HU8:=Hi (HAZ.o.trans (hb.mono HAZ.o.size));clear hb;go_wp2_with fail;go_meet
    case rel=>exact HU8.o
   .
    have hmn:mv=.pointer none:=HMV.o;subst hmn;have HT1:=Hi ht1;clear ht1 HCASE;go_wp2_with fail;refine Makes.use (RF.text HRL.o (by decide)) ?_;rintro _ wb hbb ⟨st,rfl,hst⟩;obtain rfl:=Qc8 HT1.o hst;have HBB:=Hi hbb;clear hbb hst;go_wp2_with fail;go_meet
    case rel=>exact HBB.o
   .
    have HMQ:O (RF mq 1000000002 mv wa):=Hi HMV.o;obtain⟨bm,hbm,_⟩:=HMQ.o;subst hbm;obtain⟨HT1,HT2⟩:=Ia ht1 ht2;clear ht1 ht2 HCASE;go_wp2_with fail;refine Makes.use (RF.text HRL.o (by decide)) ?_;rintro _ wb hbb ⟨st,rfl,hst⟩;obtain rfl:=Qc8 HT1.o hst;have HBB:=Hi hbb;clear hbb hst;go_wp2_with fail;refine Makes.use (RF.text (HMQ.o.below HBB.o) (by decide)) ?_;rintro _ wd hbd ⟨st,rfl,hst⟩;obtain rfl:=Qc8 HT2.o hst;have HBD:=Hi (HBB.o.trans (hbd.mono HBB.o.size));clear hbd hst;go_wp2_with fail;go_meet
    case rel=>exact HBD.o
  case rest=>
  obtain⟨wb,rfl⟩:∃wx,wx=wc:=⟨wc,rfl⟩;have HAB:=Hi hcut;clear hcut x13 y13 HCASE;have HBW:=Hi (HBA.o.trans (HAB.o.mono HBA.o.size));go_wp2_with fail;refine Makes.use (RF.of (HG.o.below HBW.o) HQ.o (by omega) HFQ.o (by omega)) ?_;rintro _ wd hbd hvd;have HSQ0:=Hi hvd;obtain⟨bq,rfl,_⟩:=hvd;have HAD:=Hi (HAB.o.trans (hbd.mono HAB.o.size));clear hbd;go_wp2_with fail;refine(Qa3 5 n wd).mono ?_;rintro e we ⟨rfl,hbe⟩;obtain⟨b22,hbx⟩:∃b,we.heap.size=b:=⟨_,rfl⟩;obtain⟨V8,hVx⟩:∃V,we.alloc (.cells #[.int .i64 5,.int .i64 (n:Int)] 32)=V:=⟨_,rfl⟩;have hbv:Below we.heap.size we V8:=by rw[<-hVx];exact(Below.refl _ _).alloc lZ _
  have hsv:SB V8 b22 32 #[.int .i64 5,.int .i64 (n:Int)]:=by rw[<-hVx,<-hbx];exact SB.new we _ _
  obtain⟨HVE8,HBE22⟩:=Ia hVx hbx;clear hVx hbx;have hdv:=hbe.trans (hbv.mono hbe.size);have HAV:=Hi (HAD.o.trans (hdv.mono HAD.o.size));obtain⟨HYV,HBV,HSQ,HRLV,HMVV,H22⟩:=Ie (HYA.o.trans (HAV.o.mono HYA.o.size)) (HBA.o.trans (HAV.o.mono HBA.o.size)) (HSQ0.o.below hdv) (HRL.o.below HAV.o) (HMV.o.below HAV.o) hsv;obtain⟨HV15,HV17⟩:=Ia (H15.o.below HYV.o H15.o.lt) (H17.o.below HYV.o H17.o.lt);obtain⟨σ,hσ⟩:=nm (sgn3 q.num);have HSE:=Hi hσ;have HSG:O (σ<0↔q<0):=Hi (by rw[<-hσ];exact Qas _);clear hσ hbe hbv hsv hdv HAD HSQ0 HRL HMV H13 H15 H17 HAB HBW;go_upto_block 1 with fail
  rw[HVE8.o];simp only[HBE22.o];go_cut [198] (fun s wc=>Below V8.heap.size V8 wc)
  case first=>as_aux_lemma=>
   obtain⟨x15,y15⟩:=Qai HV15.o;obtain⟨x22,y22⟩:=Qai H22.o;go_wp2_with fail;refine Makes.use (RF.sign HSQ.o) ?_;rintro _ wf hbf rfl;rw[HSE.o];have HBF:=Hi hbf;clear hbf x15 y15 x22 y22;by_cases hsg:σ<0
   .
    have e1:decide (σ<0)=true:=decide_eq_true hsg;have HNG:O (q<0):=Hi (HSG.o.1 hsg);obtain⟨rfl,rfl,rfl⟩:=HLN.o.neg H0.o HNG.o;rw[HVL.o] at HV15;obtain⟨x15,y15⟩:=Qai (HV15.o.below HBF.o HV15.o.lt);obtain⟨x22,y22⟩:=Qai (H22.o.below HBF.o H22.o.lt);clear hsg;go_wp2_with fail;go_meet
    case rel=>exact HBF.o
   .
    have e1:decide (σ<0)=false:=decide_eq_false hsg;have HNN:O (¬q<0):=Hi (fun h=>hsg (HSG.o.2 h));clear hsg;go_upto_region 28 with fail
    go_cut [210] (fun c wc=>∃b,c=.bool b/\(b=true↔¬HasLine vs q)/\Below V8.heap.size V8 wc)
    case first=>as_aux_lemma=>
     cases there with
     |false=>
      have HNO:O (¬HasLine vs q):=Hi (by
       rcases HRSAY.o with ⟨h,_⟩|⟨_,h⟩
       . cases h
       . exact h q)
      go_wp2_with fail;go_meet
      case rel=>exact⟨true,rfl,⟨fun _=>HNO.o,fun _=>rfl⟩,HBF.o⟩
     |true=>
      have HIN:O (InR l m q↔HasLine vs q):=Hi (by
       rcases HRSAY.o with ⟨_,_,h⟩|⟨h,_⟩
       . exact h q
       . cases h)
      obtain⟨C,hC⟩:=nm (cmpQ q l);have HCE:O (C<0↔q<l):=Hi (by rw[<-hC];exact Qao _ _);go_wp2_with fail;refine Makes.use (RF.cmp (HSQ.o.below HBF.o) (HRLV.o.below HBF.o) (by omega)) ?_;rintro _ wg hbg rfl;rw[hC];have HBG:=Hi (HBF.o.trans (hbg.mono HBF.o.size));clear hbg hC;by_cases hc:C<0
      .
       have e2:decide (C<0)=true:=decide_eq_true hc;have HNO:O (¬HasLine vs q):=Hi (fun h=>absurd (HCE.o.1 hc) (Rat.not_lt.2 (HIN.o.2 h).1));clear hc;go_wp2_with fail;go_meet
       case rel=>exact⟨true,rfl,⟨fun _=>HNO.o,fun _=>rfl⟩,HBG.o⟩
      .
       have e2:decide (C<0)=false:=decide_eq_false hc;have HLQ:O (l<=q):=Hi (Rat.not_lt.1 (fun h=>hc (HCE.o.2 h)));clear hc;cases m with
       |none=>
        have hmn:mv=.pointer none:=HMVV.o;subst hmn;have HYES:O (HasLine vs q):=Hi (HIN.o.1 ⟨HLQ.o,fun m hm=>by cases hm⟩);go_wp2_with fail;go_meet
        case rel=>exact⟨false,rfl,⟨(fun h=>by cases h),fun h=>absurd HYES.o h⟩,HBG.o⟩
       |some mq=>
        have HMQ:O (RF mq 1000000002 mv V8):=Hi HMVV.o;obtain⟨bm,hbm,_⟩:=HMQ.o;subst hbm;obtain⟨D,hD⟩:=nm (cmpQ q mq);have HDE:O (0<D↔mq<q):=Hi (by rw[<-hD];exact Qaz _ _);go_wp2_with fail;refine Makes.use (RF.cmp (HSQ.o.below HBG.o) (HMQ.o.below HBG.o) (by omega)) ?_;rintro _ wh hbh rfl;rw[hD];have HBH:=Hi (HBG.o.trans (hbh.mono HBG.o.size));clear hbh hD;by_cases hd:0<D
        .
         have e3:decide (0<D)=true:=decide_eq_true hd;have HNO:O (¬HasLine vs q):=Hi (fun h=>absurd (HDE.o.1 hd) (Rat.not_lt.2 ((HIN.o.2 h).2 mq rfl)));clear hd;go_wp2_with fail;go_meet
         case rel=>exact⟨true,rfl,⟨fun _=>HNO.o,fun _=>rfl⟩,HBH.o⟩
        .
         have e3:decide (0<D)=false:=decide_eq_false hd;have HYES:O (HasLine vs q):=Hi (HIN.o.1 ⟨HLQ.o,fun m hm=>by cases hm;exact Rat.not_lt.1 (fun h=>hd (HDE.o.2 h))⟩);clear hd;go_wp2_with fail;go_meet
         case rel=>exact⟨false,rfl,⟨(fun h=>by cases h),fun h=>absurd HYES.o h⟩,HBH.o⟩
    case rest=>
    obtain⟨wg,rfl⟩:∃wx,wx=wc:=⟨wc,rfl⟩;obtain⟨b,hbs,hbl,hbg⟩:=hcut;subst hbs;obtain⟨HBG,HBL⟩:=Ia hbg hbl;clear hbg hbl HBF;cases b with
    |true=>
     obtain⟨rfl,rfl,rfl⟩:=HLN.o.no H0.o HNN.o (HBL.o.1 rfl);obtain⟨Z,hZ⟩:=nm wg.drew;have haz:Below wg.heap.size wg Z:=by rw[<-hZ];exact(Below.refl _ _).drew
     have HVZ:=Hi (HBG.o.trans (haz.mono HBG.o.size));obtain⟨HZ13,HZE⟩:=Ia (HV15.o.below HVZ.o HV15.o.lt) hZ;clear hZ haz;go_wp2_with fail;refine RegG.bg 8 (fun j=>some (229+j)) ?_;rw[HZE.o];refine RegG.pu (c:=?_) [] (fun w hb=>?_) ?_;rotate_left
     .
      intro K hK;have x9:=(HZ13.o.below hb HZ13.o.lt).cell 0;have y9:=(HZ13.o.below hb HZ13.o.lt).cell 1;simp only[List.getElem?_toArray,List.getElem?_cons_zero,List.getElem?_cons_succ] at x9 y9;go_simp;exact hK
     refine RegG.ca (φ:=Is (.agg #[.int .i64 8,.int .i64 0])) [] (Is.stays _) (fun w hb=>?_) ?_
     .
      intro K hK;go_simp;exact Makes.use ((Qa3 8 0 _).mono (fun e w' h=>Qby h)) hK
     refine RegG.pu (c:=?_) [0,1] (fun w hb=>?_) ?_;rotate_left
     .
      intro K hK;go_simp;exact hK
     refine RegG.pu (c:=?_) [2] (fun w hb=>?_) ?_;rotate_left
     .
      intro K hK;go_simp;exact hK
     refine RegG.pu (c:=?_) [3] (fun w hb=>?_) ?_;rotate_left
     .
      intro K hK;go_simp;exact hK
     refine RegG.pu (c:=?_) [3,4] (fun w hb=>?_) ?_;rotate_left
     .
      intro K hK;go_simp;exact hK
     refine RegG.pu (c:=?_) [3,5] (fun w hb=>?_) ?_;rotate_left
     .
      intro K hK;go_simp;exact hK
     refine RegG.pu (c:=?_) [3,6] (fun w hb=>?_) ?_;rotate_left
     .
      intro K hK;go_simp;exact hK
     refine RegG.fi (fun u8 hb=>?_);have HU8:=Hi (HVZ.o.trans (hb.mono HVZ.o.size));clear hb;go_wp2_with fail;go_meet
     case rel=>exact HU8.o
    |false=>
     have HYES:O (HasLine vs q):=Hi (bC (fun h=>by have:=HBL.o.2 h;cases this));obtain⟨rfl,rfl,i,j,gy,ls,hij,hj,hfit,hye,hll,hsy,hty⟩:=HLN.o.yes H0.o HNN.o HYES.o;rw[HVL.o] at hll hj hye;subst hye;have hsyY:=hsy.below H6Y.o hsy.lt;have hsyV:=hsyY.below HYV.o hsyY.lt;obtain⟨HSY,HHT⟩:=Ia (hsyV.below HBG.o hsyV.lt) (Qlj (q:=q) (i:=i) (j:=j) HVF.o HFQ.o (by omega) (by omega) (by rw[HVL.o];exact hn10) hij (by rw[HVL.o];exact hj) (by rw[HVL.o];exact hll) hty (by omega));have HSTD:O (stdTo vs q (lnC vs q i j) n n):=Hi (by
      have:=Qgq (y:=lnC vs q i j) H0.o (fun i hi=>rfl) hfit;rw[HVL.o] at this
      exact this)
     obtain⟨HLL,HTY,HVG,HVG15⟩:=Ic hll hty (HBV.o.trans (HBG.o.mono HBV.o.size)) (HV15.o.below HBG.o HV15.o.lt);obtain⟨x15,y15⟩:=Qai HVG15.o;obtain⟨K,hK⟩:=nm (215*(4*n1+1)+144*(4*sk.size+1)+252);have hKb:K<=1600000000:=by omega
     rw[hK] at HHT;clear hsy hsyY hsyV hty hll hfit hij hj hK;go_wp2_with fail;clear x15 y15;have HR1:=Hi (Qef (some ⟨gy,0,none⟩) n n K ls (lnC vs q i j) wg (HG.o.below HVG.o) (Qgg HSY.o (Nat.le_of_eq HLL.o)) HHT.o HLL.o (by omega));refine HR1.o.mono ?_;rintro e wh ⟨v1,ts,rfl,hpg,htl,hty,hbh⟩;obtain⟨a1,k1,hv1,hpr⟩:=hpg.row;rw[htl] at hv1;subst hv1;obtain⟨HS1,HGH⟩:=Ia (Qgn (Kh:=4*sk.size+1) (cy:=k1) (cl:=cl) (h:=q) (y:=lnC vs q i j) (HG.o.below (HVG.o.trans (hbh.mono HVG.o.size))) (HRW.o.below (HVG.o.trans (hbh.mono HVG.o.size))) HSL.o HV.o H0.o hpr hty htl ((HSQ.o.below HBG.o).below hbh) (by omega) (by omega)) hbh;clear hpg htl hty hbh hpr HR1;go_wp2_with fail;refine HS1.o.mono ?_;rintro e wi ⟨⟨b1,rfl,hb1⟩,hbi⟩;obtain rfl:b1=true:=hb1.2 HSTD.o;have HGI:=Hi (HGH.o.trans (hbi.mono HGH.o.size))
     obtain⟨HVI,HSYI⟩:=Ia (HVG.o.trans (HGI.o.mono HVG.o.size)) (HSY.o.below HGI.o HSY.o.lt);clear hb1 hbi HS1 HGH;go_wp2_with fail;refine(Qef (some ⟨gy,0,none⟩) n n K ls (lnC vs q i j) wi (HG.o.below HVI.o) (Qgg HSYI.o (Nat.le_of_eq HLL.o)) HHT.o HLL.o (by omega)).mono ?_;rintro e wj ⟨v2,ts,rfl,hpg,htl,hty,hbj⟩;obtain⟨a2,k2,hv2,hpr⟩:=hpg.row;rw[htl] at hv2;subst hv2;have HGJ:=Hi (HGI.o.trans (hbj.mono HGI.o.size));have HVJ:=Hi (HVG.o.trans (HGJ.o.mono HVG.o.size));have HTS:=Hi (Qtj a2 k2 n K ts wj (HG.o.below HVJ.o).most hpr (fun t ht=>by
      obtain⟨i',hi'⟩:=List.mem_iff_getElem?.1 ht
      exact Nat.le_of_eq (hty i' t hi').2) (by omega) htl (by omega))
     obtain⟨HTL,HTV⟩:=Ia htl hty;clear hpg htl hty hbj hpr HGI HVI HSYI;go_wp2_with fail;refine HTS.o.mono ?_;rintro e wk ⟨v3,ms,rfl,htg,hml,hmt,hbk⟩;obtain⟨a3,k3,hv3,htlst⟩:=TG.tlst htg;rw[hml] at hv3;subst hv3;have hms:ms=ls:=Ql7 (y:=lnC vs q i j) (by rw[hml];exact HLL.o.symm) HTY.o (fun k s hk=>by
      have hkl:=(gZ hk).1;have e2:ts[k]?=some (ts[k]'(by rw[HTL.o,<-hml];exact hkl)):=gE _;rw[<-(HTV.o k _ e2).1]
      exact hmt k _ s e2 hk)
     rw[hms] at htlst;have HGK:=Hi (HGJ.o.trans (hbk.mono HGJ.o.size));have HEQ:=Hi (Qhd (some ⟨gy,0,none⟩) a3 n k3 ls wk (Ql8 (HSY.o.below HGK.o HSY.o.lt)) htlst (by have:=HLL.o;omega));rw[HLL.o] at HEQ;clear htg hml hmt hbk htlst hms HGJ HVJ HTS HTL HTV;go_wp2_with fail;refine HEQ.o.mono ?_;rintro e wl ⟨rfl,hbl⟩;have HGL:O (Below V8.heap.size V8 wl):=Hi (HBG.o.trans ((HGK.o.trans (hbl.mono HGK.o.size)).mono HBG.o.size));clear hbl HGK HEQ;go_wp2_with fail;go_meet
     case rel=>exact HGL.o
  case rest=>
  obtain⟨wm,rfl⟩:∃wx,wx=wc:=⟨wc,rfl⟩;obtain⟨HVM,HBM,HM17,HM22,HSQM⟩:=Id hcut (HBV.o.trans (hcut.mono HBV.o.size)) (HV17.o.below hcut HV17.o.lt) (H22.o.below hcut H22.o.lt) (HSQ.o.below hcut);clear hcut HV15 HV17 H22 HSQ HRLV HMVV HLN HRSAY HAV HYV HBV HVM;by_cases hc:nh=n
  .
   obtain⟨x17,y17⟩:=Qai HM17.o;obtain⟨x22,y22⟩:=Qai HM22.o;have q1:((nh:Int) == (n:Int))=true:=by simp[hc]
   have q2:((nh:Int)=(n:Int))=True:=by simp[hc]
   have HNC:O (nh=n):=Hi hc;have HNV:O (nh=vs.length):=Hi (hc.trans HVL.o.symm);clear hc;go_wp2_with fail;refine Makes.use (RF.sign HSQM.o) ?_;rintro _ wo hbo rfl;rw[HSE.o];obtain⟨HMO,HBO⟩:=Ia hbo (HBM.o.trans (hbo.mono HBM.o.size));clear hbo x17 y17 x22 y22;by_cases hsg:σ<0
   .
    have e1:decide (σ<0)=true:=decide_eq_true hsg;obtain⟨rfl,rfl,rfl⟩:=HSTF.o.neg H0.o HNV.o (HSG.o.1 hsg);rw[HVL.o] at HM17;obtain⟨x17,y17⟩:=Qai (HM17.o.below HMO.o HM17.o.lt);obtain⟨x22,y22⟩:=Qai (HM22.o.below HMO.o HM22.o.lt);clear hsg;go_wp2;go_ret;exact⟨rfl,HBO.o⟩
   .
    have e1:decide (σ<0)=false:=decide_eq_false hsg;obtain⟨rfl,rfl,hst⟩:=HSTF.o.yes H0.o HNV.o (fun h=>hsg (HSG.o.2 h));rw[HVL.o] at hst;have HSD:=Hi hst;obtain⟨x17,y17⟩:=Qai (HM17.o.below HMO.o HM17.o.lt);have HHN:O (hs.length=n):=Hi (HHL.o.trans HNC.o);clear hsg hst;go_wp2_with fail;clear x17 y17;have HRH:=Hi (Qef ah ch n Kh hs z wo (HG.o.below HBO.o) (HH.o.below HBO.o) HZ.o HHN.o (by omega));rw[<-HNC.o] at HRH;refine HRH.o.mono ?_;rintro e wp' ⟨v1,ts,rfl,hpg,htl,hty,hbp⟩;obtain⟨a1,k1,hv1,hpr⟩:=hpg.row;rw[htl,HNC.o] at hv1;subst hv1;have HBP:=Hi (HBO.o.trans (hbp.mono HBO.o.size));have HS1:=Hi (Qgn (Kh:=4*sk.size+1) (cy:=k1) (cl:=cl) (h:=q) (y:=z) (HG.o.below HBP.o) (HRW.o.below HBP.o) HSL.o HV.o H0.o hpr hty (htl.trans HNC.o) ((HSQM.o.below HMO.o).below hbp) (by omega) (by omega));clear hpg htl hty hbp hpr HRH;go_wp2_with fail
    refine HS1.o.mono ?_;rintro e wq ⟨⟨b1,rfl,hb1⟩,hbq⟩;have hbe:ok=b1:=Bool.eq_iff_iff.2 (HSD.o.trans hb1.symm);subst hbe;have HBQ:=Hi (HBP.o.trans (hbq.mono HBP.o.size));clear hb1 hbq HS1;go_wp2;go_ret;exact⟨rfl,HBQ.o⟩
  .
   obtain⟨rfl,rfl,rfl⟩:=HSTF.o.count H0.o (by rw[HVL.o];exact hc);rw[HVL.o] at HM17;have q1:((nh:Int) == (n:Int))=false:=by simp;omega
   have q2:((nh:Int)=(n:Int))=False:=by simp;omega
   obtain⟨Z,hZ⟩:=nm wm.drew;have haz:Below wm.heap.size wm Z:=by rw[<-hZ];exact(Below.refl _ _).drew
   obtain⟨HBZ,HZ13,HZE⟩:=Ib (HBM.o.trans (haz.mono HBM.o.size)) (HM17.o.below haz HM17.o.lt) hZ;clear hZ haz hc;go_wp2_with fail;refine RegG.bg 10 (fun j=>some (bif j == 9 then 6 else 243+j)) ?_;rw[HZE.o];refine RegG.pu (c:=?_) [] (fun w hb=>?_) ?_;rotate_left
   .
    intro K hK;have x9:=(HZ13.o.below hb HZ13.o.lt).cell 0;have y9:=(HZ13.o.below hb HZ13.o.lt).cell 1;simp only[List.getElem?_toArray,List.getElem?_cons_zero,List.getElem?_cons_succ] at x9 y9;go_simp;exact hK
   refine RegG.pu (c:=?_) [] (fun w hb=>?_) ?_;rotate_left
   .
    intro K hK;go_simp;exact hK
   refine RegG.pu (c:=?_) [1] (fun w hb=>?_) ?_;rotate_left
   .
    intro K hK;go_simp;exact hK
   refine RegG.ca (φ:=Is (.agg #[.int .i64 10,.int .i64 n])) [2] (Is.stays _) (fun w hb=>?_) ?_
   .
    intro K hK;go_simp;exact Makes.use ((Qa3 10 n _).mono (fun e w' h=>Qby h)) hK
   refine RegG.pu (c:=?_) [0,3] (fun w hb=>?_) ?_;rotate_left
   .
    intro K hK;go_simp;exact hK
   refine RegG.pu (c:=?_) [4] (fun w hb=>?_) ?_;rotate_left
   .
    intro K hK;go_simp;exact hK
   refine RegG.pu (c:=?_) [5] (fun w hb=>?_) ?_;rotate_left
   .
    intro K hK;go_simp;exact hK
   refine RegG.pu (c:=?_) [5,6] (fun w hb=>?_) ?_;rotate_left
   .
    intro K hK;go_simp;exact hK
   refine RegG.pu (c:=?_) [5,7] (fun w hb=>?_) ?_;rotate_left
   .
    intro K hK;go_simp;exact hK
   refine RegG.pu (c:=?_) [8] (fun w hb=>?_) ?_;rotate_left
   .
    intro K hK;go_simp;exact hK
   refine RegG.fi (fun u8 hb=>?_);have HU8:=Hi (HBZ.o.trans (hb.mono HBZ.o.size));clear hb;go_wp2;go_ret;exact⟨rfl,HU8.o⟩
 .
  obtain⟨r1,r2,r3,r4,r5⟩:=HSAYS.o.bad HF12.o hf;obtain⟨r6,r7,r8⟩:=HLN.o.bad HF12.o hf;obtain⟨r9,ra,rb⟩:=HSTF.o.bad HF12.o hf;have e0:(f1 == 0)=false:=by simpa using hf
  have e5:(f1=0)=False:=by simpa using hf
  clear hf;subst r1 r2 r3 r4 r5 r6 r7 r8 r9 ra rb;go_wp2;go_ret;exact⟨rfl,HB9.o⟩
end Go.Proofs.YtldjeecnapgakaaGreatDoor
