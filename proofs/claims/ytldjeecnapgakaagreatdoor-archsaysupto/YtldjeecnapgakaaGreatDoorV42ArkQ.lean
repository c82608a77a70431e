/- package arch: Slacks, walked. -/
import Derived.Test.YtldjeecnapgakaaGreatDoorV41ArkO
namespace Go.Proofs.YtldjeecnapgakaaGreatDoor
open Go.RowKit
open Go.Proofs.Tryz
set_option linter.unusedSimpArgs false
set_option linter.unusedVariables false
set_option maxHeartbeats 8000000
set_option maxRecDepth 1000000
theorem Qk2(w:World):Calls prog 32 #[.int .i64 1] w (Makes w (FF 1 1)):=by
 obtain⟨B,hB⟩:=nm w.heap.size;obtain⟨V,hV⟩:=nm (w.alloc (.cells #[.bool false,.slice none 0 0,.slice none 0 0] 63));have HBV:=Ua hV;have HR:=Uf hV hB;obtain⟨HVE,HBE⟩:=Ia hV hB;clear hV hB;go_enter func32,ntmps32;go_wp2_with fail;rw[HVE.o];simp only[HBE.o];refine(Qif 1 V (by decide)).mono ?_;rintro e w1 ⟨⟨a,cap,r,rfl,hu⟩,hb1⟩;obtain⟨HU,HB1⟩:=Ia hu hb1;clear hu hb1;go_wp2_with fail;refine(Qck false a none r.length cap 0 0 1 1 w1 ⟨r,rfl,HU.o⟩ (Or.inl ⟨rfl,rfl,rfl,rfl⟩) (by decide)).mono ?_;intro e w2 hn;obtain⟨v,rfl,hb2,hv⟩:=hn.makes (k:=1) ⟨by decide,by decide⟩ (by decide);obtain⟨x1,x2,x3,rfl⟩:=hv.parts;obtain⟨o1,o2,o3⟩:=hv.1.one;have s1:=Qaa prog o1
 have s2:=Qaa prog o2;have s3:=Qaa prog o3;clear o1 o2 o3;have hbx:=HB1.o.trans (hb2.mono HB1.o.size);have hr:=TBlk.box (HR.o.below hbx HR.o.lt) (FF.zero _);obtain⟨c0,c1,c2⟩:=cells3 hr.blk;have f0:=hr.blk.free 0;have f1:=hr.blk.free 1;have f2:=hr.blk.free 2;obtain⟨hn,ho⟩:=hr.set (k:=0) (e:=⟨x1,x2,x3,_,_⟩) (by simp) hv;simp only[Nat.zero_mul,Nat.zero_add,List.set_cons_zero] at hn ho;obtain⟨HN,HO,HBW⟩:=Ib hn ho (HBV.o.trans (hbx.mono HBV.o.size));clear hn ho hr hv hb2 hbx;go_wp2;refine bodyPost_ret (v:=.agg #[x1,x2,x3]) (results_cell_row rfl _ _ B 63 #[x1,x2,x3] (0,0) _ rfl HN.o.blk underlying63 rfl Tryz.fracInfo) rfl ?_;exact⟨_,rfl,Only.fresh HBW.o HO.o (Nat.le_of_eq HBE.o),HN.o.ok _ (List.mem_singleton.2 rfl)⟩
theorem Qa5{vs:List V4}(h:(archF vs).1=0):Rising vs.length (atF vs)/\(∀i,i<vs.length->0<=wtF vs i)/\∀i,i<vs.length->loF vs i<=hiF vs i:=by
 obtain⟨h2,h10⟩:=Qat h;have h0:archF vs=archFrom 0 (ahead vs 0) (vs.drop 0):=by
  unfold archF;rw[if_neg (by omega)];rfl
 rw[h0] at h;have all:∀k,k<=vs.length->(archFrom k (ahead vs k) (vs.drop k)).1=0:=by
  intro k
  induction k with
  |zero=>exact fun _=>h
  |succ k ih=>
   intro hk;have h1:=ih (by omega);have hv:vs[k]?=some vs[k]:=gE (by omega);rw[Qcw hv] at h1
   split at h1
   . exact h1
   . rename_i hc
     exact absurd h1 hc
 have each:∀(k:Nat) (v:V4),vs[k]?=some v->stoneC (ahead vs k) v=0:=by
  intro k v hv;have h1:=all k (by have:=(gZ hv).1;omega);rw[Qcw hv] at h1
  split at h1
  . rename_i hc;exact hc
  . exact h1
 have val:∀(k:Nat) (v:V4),vs[k]?=some v->valC v=0:=by
  intro k v hv;have h1:=each k v hv;unfold stoneC at h1
  split at h1
  .
   split at h1
   . cases h1
   . exact h1
  . exact h1
 have good:∀v:V4,valC v=0->0<=v.2.1/\v.2.2.1<=v.2.2.2:=by
  intro v hv;unfold valC at hv
  split at hv
  . cases hv
  . rename_i hc
    exact⟨Rat.not_lt.1 (fun h=>hc (Or.inl h)),Rat.not_lt.1 (fun h=>hc (Or.inr h))⟩
 refine⟨Rising.of (fun i hi=>?_),fun i hi=>?_,fun i hi=>?_⟩
 .
  have hv:vs[i]?=some vs[i]:=gE (by omega);have hu:vs[i+1]?=some vs[i+1]:=gE hi;have h1:=each (i+1) _ hu;have e:ahead vs (i+1)=some (vs[i]).1:=by simp[ahead,hv]
  rw[e] at h1;unfold stoneC at h1;simp only at h1
  split at h1
  . cases h1
  .
   rename_i hc;unfold atF;rw[hv,hu];exact Rat.not_le.1 hc
 .
  have hv:vs[i]?=some vs[i]:=gE hi;unfold wtF;rw[hv];exact(good _ (val i _ hv)).1
 .
  have hv:vs[i]?=some vs[i]:=gE hi;unfold loF hiF;rw[hv];exact(good _ (val i _ hv)).2
theorem Sto.stn{A H:Nat}{vs:List V4}{h:Rat}{ts:List FE}{i:Nat}(hs:Sto A H vs h ts vs.length)(hi:i<vs.length)(hn:vs.length<=10):
 (Go.Proofs.YtldjeecnapgakaaGreatDoor.stn ts i).a.q=atF vs i/\(Go.Proofs.YtldjeecnapgakaaGreatDoor.stn ts i).l.q=loF vs i/\(Go.Proofs.YtldjeecnapgakaaGreatDoor.stn ts i).u.q=hiF vs i/\(Go.Proofs.YtldjeecnapgakaaGreatDoor.stn ts i).s.q=shp (atF vs) (wtF vs) h i/\(Go.Proofs.YtldjeecnapgakaaGreatDoor.stn ts i).a.k<=A/\(Go.Proofs.YtldjeecnapgakaaGreatDoor.stn ts i).l.k<=A/\(Go.Proofs.YtldjeecnapgakaaGreatDoor.stn ts i).u.k<=A/\(Go.Proofs.YtldjeecnapgakaaGreatDoor.stn ts i).s.k<=52*A+36*H+61:=by
 have hv:vs[i]?=some vs[i]:=gE hi;obtain⟨a,l,u,s,i1,i2,i3,i4,q1,q2,q3,q4,r1,r2,r3,r4⟩:=hs.each i _ hi hv;have e1:(Go.Proofs.YtldjeecnapgakaaGreatDoor.stn ts i).a=a:=by unfold Go.Proofs.YtldjeecnapgakaaGreatDoor.stn;simp only[List.getD_eq_getElem?_getD,i1,Option.getD_some]
 have e2:(Go.Proofs.YtldjeecnapgakaaGreatDoor.stn ts i).l=l:=by unfold Go.Proofs.YtldjeecnapgakaaGreatDoor.stn;simp only[List.getD_eq_getElem?_getD,i2,Option.getD_some]
 have e3:(Go.Proofs.YtldjeecnapgakaaGreatDoor.stn ts i).u=u:=by unfold Go.Proofs.YtldjeecnapgakaaGreatDoor.stn;simp only[List.getD_eq_getElem?_getD,i3,Option.getD_some]
 have e4:(Go.Proofs.YtldjeecnapgakaaGreatDoor.stn ts i).s=s:=by unfold Go.Proofs.YtldjeecnapgakaaGreatDoor.stn;simp only[List.getD_eq_getElem?_getD,i4,Option.getD_some]
 have a1:atF vs i=(vs[i]).1:=by simp[atF,hv]
 have a2:loF vs i=(vs[i]).2.2.1:=by simp[loF,hv]
 have a3:hiF vs i=(vs[i]).2.2.2:=by simp[hiF,hv]
 rw[e1,e2,e3,e4,a1,a2,a3];exact⟨q1,q2,q3,q4,r1,r2,r3,Nat.le_trans r4 (Qd2 (by omega))⟩
def HasLine(vs:List V4)(h:Rat):Prop:=0<=h/\∃s m,LnFits vs.length (atF vs) (loF vs) (hiF vs) (shp (atF vs) (wtF vs) h) s m
theorem Qk3{A H:Nat}{vs:List V4}{ts:List FE}(hs:Sto A H vs 1 ts vs.length)(h0:(archF vs).1=0):
 (∀i j k,i<j->j<k->k<vs.length->0<=thB ts (i,j,k))/\∀h,slackOK vs.length ts h↔HasLine vs h:=by
 obtain⟨h2,h10⟩:=Qat h0;obtain⟨hr,hw,hlh⟩:=Qa5 h0;have eq:∀i j k,i<j->j<k->k<vs.length->thN ts (i,j,k)=abv (atF vs) (loF vs) (hiF vs) i j k/\thR ts (i,j,k)=abv (atF vs) (hiF vs) (loF vs) i j k/\thB ts (i,j,k)=abv (atF vs) (shp (atF vs) (wtF vs) 1) (shp (atF vs) (wtF vs) 1) i j k:=by
  intro i j k hij hjk hk;obtain⟨a1,a2,a3,a4,_⟩:=hs.stn (i:=i) (by omega) h10;obtain⟨b1,b2,b3,b4,_⟩:=hs.stn (i:=j) (by omega) h10;obtain⟨c1,c2,c3,c4,_⟩:=hs.stn (i:=k) (by omega) h10;unfold thN thR thB abq abv;dsimp only;rw[a1,a2,a3,a4,b1,b2,b3,b4,c1,c2,c3,c4];exact⟨rfl,rfl,rfl⟩
 refine⟨fun i j k hij hjk hk=>?_,fun h=>?_⟩
 . rw[(eq i j k hij hjk hk).2.2]
   exact Qkf hr (by decide) hw hij hjk hk
 .
  unfold slackOK HasLine;rw[Qf0 h2 hr hlh];refine and_congr_right (fun _=>forall_congr' fun i=>forall_congr' fun j=>forall_congr' fun k=>forall_congr' fun h1=>forall_congr' fun h2=>forall_congr' fun h3=>?_);obtain⟨e1,e2,e3⟩:=eq i j k h1 h2 h3;unfold btw;rw[e1,e2,e3]
def SlacksSays(vs:List V4)(e:Ending):Prop:=
 ∃(s1 s2:ByteArray) (o:Bool) (c1 c2:Int),e=.returned (.tuple #[.string s1,.string s2,.bool o,.agg #[.int .i64 c1,.int .i64 c2]])/\
  (((archF vs).1≠0/\s1=⟨#[]⟩/\s2=⟨#[]⟩/\o=false/\(c1,c2)=archF vs)∨
   ((archF vs).1=0/\s1=⟨#[]⟩/\s2=⟨#[]⟩/\o=false/\(c1,c2)=(8,0)/\∀h,¬HasLine vs h)∨
   ((archF vs).1=0/\(c1,c2)=(0,0)/\∃(least:Rat) (most:Option Rat),QText s1.data.toList least/\((o=true/\s2=⟨#[]⟩/\most=none)∨(o=false/\∃m,most=some m/\QText s2.data.toList m))/\InR least most least/\∀h,InR least most h↔HasLine vs h))
theorem Qc1{tmps:Array Value}{w:World}{g:Nat}{v1 v2 v3:Value}{c1 c2:Int}(h2:tmps.getD 2 undef=v1)(h3:tmps.getD 3 undef=v2)(h4:tmps.getD 4 undef=v3)(hp:tmps.getD 5 undef=.pointer (some ⟨g,0,none⟩))(h1:SB w g 32 #[.int .i64 c1,.int .i64 c2]):
 (results Tryz.f9 tmps).run prog w=.ok (.tuple #[v1,v2,v3,.agg #[.int .i64 c1,.int .i64 c2]]) w:=by
 have e2:tmps[2]?.getD undef=v1:=by simpa using h2
 have e3:tmps[3]?.getD undef=v2:=by simpa using h3
 have e4:tmps[4]?.getD undef=v3:=by simpa using h4
 have e5:tmps[5]?.getD undef=.pointer (some ⟨g,0,none⟩):=by simpa using hp
 have hr:(Tryz.f9).results=#[.tmp 2,.tmp 3,.tmp 4,.cell 5 32]:=rfl;simp[results,hr,e2,e3,e4,e5,asAddr,run_loadVar_row w g 32 32 _ (0,0) _ h1 underlying32 rfl Tryz.faultInfo]
theorem Qai{w:World}{g:Nat}{T:TypeId}{x y:Value}(h:SB w g T #[x,y]):w.cell? ⟨g,0,none⟩=some x/\w.cell? ⟨g,1,none⟩=some y:=⟨(h.cell 0).trans rfl,(h.cell 1).trans rfl⟩
theorem Qc2{w X:World}{B:Nat}{k1 k2 y1 y2:Value}(s:SB X B 32 #[k1,k2])(hb:Below w.heap.size w X)(hB:w.heap.size=B):SB ((X.setCell ⟨B,0,none⟩ y1).setCell ⟨B,1,none⟩ y2) B 32 #[y1,y2]/\Below w.heap.size w ((X.setCell ⟨B,0,none⟩ y1).setCell ⟨B,1,none⟩ y2):=
 ⟨(s.set 0 y1).set 1 y2,(hb.setCell (p:=⟨B,0,none⟩) (Nat.le_of_eq hB) _).setCell (p:=⟨B,1,none⟩) (Nat.le_of_eq hB) _⟩
theorem Qgb(a:Option Addr)(cap:Nat)(ss:List T4)(vs:List V4)(w:World)(hg:Glob w)(hr:ARow T4.cells w a cap ss)(hv:StonesV ss vs)(hn:ss.length<=1048576):
 Calls prog 9 #[.slice a ss.length cap] w fun e w'=>SlacksSays vs e/\Below w.heap.size w w':=by
 obtain⟨HG,HRW,HV,HVL⟩:=Ic hg hr hv hv.len;obtain⟨B0,hB0⟩:=nm w.heap.size;obtain⟨V,hV⟩:=nm (w.alloc (.cells #[.int .i64 0,.int .i64 0] 32));have HB0:=Ua hV;have HS5:=Uf hV hB0;obtain⟨HVE,HB0E⟩:=Ia hV hB0;clear hg hr hv hV hB0;have HCK:=Hi (Qcx a cap ss vs V (HG.o.below HB0.o) (HRW.o.below HB0.o) HV.o hn);obtain⟨C,I,hCI⟩:∃C I,archF vs=(C,I):=⟨_,_,rfl⟩;rw[hCI] at HCK;have HCI:=Hi hCI;clear hCI;go_enter func9,ntmps9;go_wp2_with fail;rw[HVE.o];simp only[HB0E.o];refine HCK.o.mono ?_;rintro e w1 ⟨rfl,hb1⟩;clear HCK;obtain⟨b1,hb1e⟩:=nm w1.heap.size;obtain⟨V1,hV1⟩:=nm (w1.alloc (.cells #[.int .i64 C,.int .i64 I] 32))
 have HBV1:O (Below V.heap.size V V1):=Hi (by rw[<-hV1];exact hb1.trans ((bR.alloc lZ _).mono hb1.size));have HSB1:=Uf hV1 hb1e;obtain⟨HV1,HB1E⟩:=Ia hV1 hb1e;have ltB:B0<V.heap.size:=HS5.o.lt;have hltb:V.heap.size<=b1:=by rw[<-hb1e];exact hb1.size
 clear hV1 hb1e hb1;by_cases hc:C=0
 .
  subst hc;have HAF0:O ((archF vs).1=0):=Hi (by rw[HCI.o]);obtain⟨hn2,hn10⟩:=Qat HAF0.o;rw[HVL.o] at hn2 hn10;have HBW1:=Hi (HB0.o.trans (HBV1.o.mono HB0.o.size));go_wp2_with fail;rw[HV1.o];simp only[HB1E.o];refine Makes.use (Qk2 V1) ?_;intro vh w2 hb2 hh;obtain⟨x1,x2,x3,rfl⟩:=hh.parts;obtain⟨HB2,HBW2,HH⟩:=Ib (HBV1.o.trans (hb2.mono HBV1.o.size)) (HBW1.o.trans (hb2.mono HBW1.o.size)) hh;clear hb2 hh;go_wp2_with fail;refine(Qd3 _ cap 4194400 1 ss vs x1 x2 x3 1 w2 (HG.o.below HBW2.o) (HRW.o.below HBW2.o) HV.o hn10 HH.o (by decide) (by decide) (by decide)).mono ?_;rintro e w4 ⟨g,ts,rfl,hgw,htb,hst,hb4⟩;obtain⟨HB4,HBW4,HTB,HST,HSL⟩:=Id (HB2.o.trans (hb4.mono HB2.o.size)) (HBW2.o.trans (hb4.mono HBW2.o.size)) htb hst (Qk3 hst HAF0.o);have HSL2:=Hi HSL.o.2;clear htb hst hb4 HH;go_wp2_with fail
  refine(Qk1 (A:=4194400) (E:=218108897) (K:=687881898) (n:=ss.length) HTB.o (by rw[HST.o.len,HVL.o]) hn10 (fun i hi=>?_) (by decide) (fun i j k h1 h2 h3=>HSL.o.1 i j k h1 h2 (by rw[HVL.o];exact h3)) (by decide) (by decide)).mono ?_
  . obtain⟨_,_,_,_,k1,k2,k3,k4⟩:=HST.o.stn (i:=i) (by rw[HVL.o];exact hi) (by rw[HVL.o];exact hn10)
    exact⟨k1,k2,k3,Nat.le_trans k4 (by decide)⟩
  rintro e w5 ⟨hb5,am,mm,om,ok,rfl,hoa,hom,ka,km,hsay⟩;rw[<-HVL.o] at hsay;have HSAY:=Hi hsay;obtain⟨b7,hb7⟩:=nm w5.heap.size;obtain⟨V5,hV5⟩:=nm (w5.alloc (.cells #[am.x,am.y,am.z,mm.x,mm.y,mm.z,.bool om] 65));have hbv:Below w5.heap.size w5 V5:=by rw[<-hV5];exact(Below.refl _ _).alloc lZ _
  have HSK0:O (SkAt V5 b7 am mm om):=Hi ⟨by rw[<-hV5,<-hb7];exact SB.new w5 _ _,hoa.below hbv,hom.below hbv⟩;have HB5:=Hi (HB4.o.trans (hb5.mono HB4.o.size));have HBV5:O (Below V.heap.size V V5):=Hi (HB5.o.trans (hbv.mono HB5.o.size));have HBW5:=Hi (HB0.o.trans (HBV5.o.mono HB0.o.size));obtain⟨o1,o2,o3⟩:=hoa.1.one;have s1:=Qaa prog o1;have s2:=Qaa prog o2;have s3:=Qaa prog o3;clear o1 o2 o3;obtain⟨o1,o2,o3⟩:=hom.1.one;have s4:=Qaa prog o1;have s5:=Qaa prog o2;have s6:=Qaa prog o3;clear o1 o2 o3;obtain⟨HV5,HB7⟩:=Ia hV5 hb7;have lt7:B0<b7:=by have:=HB5.o.size;omega
  clear hsay hb7 hV5 hbv hb5 hoa hom HTB HST HSL;cases ok with
  |false=>
   have hs5:=HS5.o.below HBV5.o HS5.o.lt;obtain⟨z1,z2⟩:=Qai hs5;have f1:=hs5.free 0;have f2:=hs5.free 1;have HLB:=HB0.o.trans (Below.mono HBV5.o HB0.o.size);obtain⟨HL5,HLW⟩:=Ia hs5 HLB;clear hs5 HLB;rw[<-HV5.o] at z1 z2 f1 f2;go_wp2;rw[HV5.o];obtain⟨p1,p2⟩:=Qc2 (y1:=.int .i64 8) (y2:=.int .i64 0) HL5.o HLW.o HB0E.o;refine bodyPost_ret (Qc1 rfl rfl rfl rfl p1) rfl ⟨⟨_,_,_,_,_,rfl,.inr (.inl ⟨HAF0.o,rfl,rfl,rfl,rfl,?_⟩)⟩,p2⟩;rcases HSAY.o with ⟨_,h⟩|⟨h,_⟩
   . exact fun x hx=>h x ((HSL2.o x).2 hx)
   . cases h
  |true=>
   have HSY:O (InR am.q (mostOf mm om) am.q/\∀h,InR am.q (mostOf mm om) h↔HasLine vs h):=Hi (by
    rcases HSAY.o with ⟨h,_⟩|⟨_,h1,h2⟩
    . cases h
    . exact⟨h1,fun h=>(h2 h).trans (HSL2.o h)⟩)
   clear HSAY;obtain⟨g0,g1,g2,g3,g4,g5,g6⟩:=HSK0.o.cells;rw[<-HV5.o,<-HB7.o] at g0 g1 g2 g3 g4 g5 g6;cases om with
   |true=>
    go_wp2_with fail;rw[HV5.o];simp only[HB7.o];clear s1 s2 s3 s4 s5 s6 g0 g1 g2 g3 g4 g5 g6;refine Makes.use (FF.text (HG.o.below HBW5.o) HSK0.o.least (Nat.le_trans ka (by decide))) ?_;rintro _ w6 hb6 ⟨s1,rfl,hs1⟩;obtain⟨HQ,HB6⟩:=Ia hs1 (HBV5.o.trans (hb6.mono HBV5.o.size));clear hs1 hb6;have hs5:=HS5.o.below HB6.o HS5.o.lt;obtain⟨z1,z2⟩:=Qai hs5;have f1:=hs5.free 0;have f2:=hs5.free 1;have HLB:=HB0.o.trans (Below.mono HB6.o HB0.o.size);obtain⟨HL5,HLW⟩:=Ia hs5 HLB;clear hs5 HLB;go_wp2;obtain⟨p1,p2⟩:=Qc2 (y1:=.int .i64 0) (y2:=.int .i64 0) HL5.o HLW.o HB0E.o;refine bodyPost_ret (Qc1 rfl rfl rfl rfl p1) rfl ⟨⟨_,_,_,_,_,rfl,.inr (.inr ⟨HAF0.o,rfl,am.q,none,HQ.o,Or.inl ⟨rfl,rfl,rfl⟩,HSY.o⟩)⟩,p2⟩
   |false=>
    obtain⟨Y,hY⟩:=nm V5.drew;have hby:Below V5.heap.size V5 Y:=by rw[<-hY];exact(Below.refl _ _).drew
    obtain⟨HSK,HBY⟩:=Ia (HSK0.o.below hby) (HBV5.o.trans (hby.mono HBV5.o.size));have HGY:O (Glob Y):=Hi (HG.o.below (HBW5.o.trans (hby.mono HBW5.o.size)));have HYE:=Hi hY;clear hY hby;go_wp2_with fail;rw[HV5.o];simp only[HB7.o];clear s1 s2 s3 s4 s5 s6 g0 g1 g2 g3 g4 g5 g6;refine RegG.bg 10 (fun j=>some (bif j == 7 then 2 else bif j == 8 then 3 else bif j == 9 then 4 else 31+j)) ?_;rw[HYE.o];refine RegG.pu (c:=?_) [] (fun w hb=>?_) ?_;rotate_left
    .
     intro K hK;go_simp;exact hK
    refine RegG.pu (c:=?_) [0] (fun w hb=>?_) ?_;rotate_left
    .
     intro K hK;obtain⟨g0,g1,g2,g3,g4,g5,g6⟩:=(HSK.o.below hb).cells;go_simp;exact hK
    refine RegG.ca (φ:=TF am.q) [1] (TF.stays _) (fun w hb=>?_) ?_
    .
     intro K hK;go_simp;exact Makes.use (FF.text (HGY.o.below hb) (HSK.o.below hb).least (Nat.le_trans ka (by decide))) hK
    refine RegG.pu (c:=?_) [] (fun w hb=>?_) ?_;rotate_left
    .
     intro K hK;go_simp;exact hK
    refine RegG.pu (c:=?_) [3] (fun w hb=>?_) ?_;rotate_left
    .
     intro K hK;obtain⟨g0,g1,g2,g3,g4,g5,g6⟩:=(HSK.o.below hb).cells;go_simp;exact hK
    refine RegG.ca (φ:=TF mm.q) [4] (TF.stays _) (fun w hb=>?_) ?_
    .
     intro K hK;go_simp;exact Makes.use (FF.text (HGY.o.below hb) (HSK.o.below hb).most (Nat.le_trans km (by decide))) hK
    refine RegG.pu (c:=?_) [] (fun w hb=>?_) ?_;rotate_left
    .
     intro K hK;go_simp;exact hK
    refine RegG.ca (φ:=TF am.q) [2] (TF.stays _) (fun w hb=>?_) ?_
    .
     intro vq hq K hK;go_simp;exact hK _ _ bR hq
    refine RegG.ca (φ:=TF mm.q) [5] (TF.stays _) (fun w hb=>?_) ?_
    .
     intro vq hq K hK;go_simp;exact hK _ _ bR hq
    refine RegG.pu (c:=?_) [] (fun w hb=>?_) ?_;rotate_left
    .
     intro K hK;go_simp;exact hK
    refine RegG.last (by simp only[List.nil_append,List.cons_append,List.length_append,List.length_cons,List.length_nil,Nat.reduceAdd]) (by rfl) (by rfl) (by kernel_rfl) (fun u8 hb=>?_);simp only[FinG,List.nil_append,List.cons_append,Qak,Act.put,List.setIfInBounds_toArray,List.set_cons_zero,List.set_cons_succ,Nat.reduceAdd,Nat.reduceBEq,cond_true,cond_false];intro v2 _ v5 _ v7 h7 v8 h8 K9 hK;obtain⟨s1,rfl,hs1⟩:=h7;obtain⟨s2,rfl,hs2⟩:=h8;obtain⟨HQ1,HQ2,HBU⟩:=Ib hs1 hs2 (HBY.o.trans (hb.mono HBY.o.size));clear hs1 hs2 hb;have hs5:=HS5.o.below HBU.o HS5.o.lt;obtain⟨z1,z2⟩:=Qai hs5;have f1:=hs5.free 0;have f2:=hs5.free 1;have HLB:=HB0.o.trans (Below.mono HBU.o HB0.o.size);obtain⟨HL5,HLW⟩:=Ia hs5 HLB;clear hs5 HLB;go_simp;refine hK _ _ ?_;clear hK;go_wp2;obtain⟨p1,p2⟩:=Qc2 (y1:=.int .i64 0) (y2:=.int .i64 0) HL5.o HLW.o HB0E.o
    refine bodyPost_ret (Qc1 rfl rfl rfl rfl p1) rfl ⟨⟨_,_,_,_,_,rfl,.inr (.inr ⟨HAF0.o,rfl,am.q,some mm.q,HQ1.o,Or.inr ⟨rfl,_,rfl,HQ2.o⟩,HSY.o⟩)⟩,p2⟩
 .
  have HNE:O ((archF vs).1≠0):=Hi (by rw[HCI.o];exact hc);have e0:(C != 0)=true:=by simpa using hc
  clear hc;obtain⟨Y,hY⟩:=nm V1.drew;have hby:Below V1.heap.size V1 Y:=by rw[<-hY];exact(Below.refl _ _).drew
  obtain⟨HBY,HSBY,HYE⟩:=Ib (HBV1.o.trans (hby.mono HBV1.o.size)) (HSB1.o.below hby HSB1.o.lt) hY;clear hY hby;go_wp2_with fail;rw[HV1.o];simp only[HB1E.o];refine RegG.bg 4 (fun j=>some (bif j == 0 then 14 else 1+j)) ?_;rw[HYE.o];refine RegG.pu (c:=?_) [] (fun w hb=>?_) ?_;rotate_left
  .
   intro K hK;obtain⟨k0,k1⟩:=Qai (HSBY.o.below hb HSBY.o.lt);go_simp;exact hK
  refine RegG.pu (c:=?_) [] (fun w hb=>?_) ?_;rotate_left
  .
   intro K hK;go_simp;exact hK
  refine RegG.pu (c:=?_) [] (fun w hb=>?_) ?_;rotate_left
  .
   intro K hK;go_simp;exact hK
  refine RegG.pu (c:=?_) [] (fun w hb=>?_) ?_;rotate_left
  .
   intro K hK;go_simp;exact hK
  refine RegG.last (by simp only[List.nil_append,List.cons_append,List.length_append,List.length_cons,List.length_nil,Nat.reduceAdd]) (by rfl) (by rfl) (by kernel_rfl) (fun u8 hb=>?_);simp only[FinG,List.nil_append,List.cons_append,Qak,Act.put,List.setIfInBounds_toArray,List.set_cons_zero,List.set_cons_succ,Nat.reduceAdd,Nat.reduceBEq,cond_true,cond_false];intro K9 hK;have HBU:=Hi (HBY.o.trans (hb.mono HBY.o.size));clear hb;have hs5:=HS5.o.below HBU.o HS5.o.lt;obtain⟨z1,z2⟩:=Qai hs5;have f1:=hs5.free 0;have f2:=hs5.free 1;have HLB:=HB0.o.trans (Below.mono HBU.o HB0.o.size);obtain⟨HL5,HLW⟩:=Ia hs5 HLB;clear hs5 HLB;go_simp;refine hK _ _ ?_;clear hK;go_wp2;obtain⟨p1,p2⟩:=Qc2 (y1:=.int .i64 C) (y2:=.int .i64 I) HL5.o HLW.o HB0E.o;refine bodyPost_ret (Qc1 rfl rfl rfl rfl p1) rfl ⟨⟨_,_,_,_,_,rfl,.inl ⟨HNE.o,rfl,rfl,rfl,HCI.o.symm⟩⟩,p2⟩
end Go.Proofs.YtldjeecnapgakaaGreatDoor
