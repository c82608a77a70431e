import Derived.Test.YtjgofdclmcpopaaGreatDoorC50WrkN
import Derived.Test.YtjgofdclmcpopaaGreatDoorC44BalJ
namespace Go.Proofs.YtjgofdclmcpopaaGreatDoor
open Go.RowKit
open Go.Proofs.Tryz
set_option linter.unusedSimpArgs false
set_option linter.unusedVariables false
set_option maxHeartbeats 8000000
set_option maxRecDepth 1000000
def Carried(nb nh:Nat)(M:List Vec)(b:List Rat)(p1 p2:Option Addr)(n1 n2:Nat)(cd:Int)(w:World):Prop:=
 (cd=8/\∀x,¬Sol (nb+nh) M b x)∨(cd=9/\∃x,Sol (nb+nh) M b x)∨
 (cd=0/\n1=nb/\n2=nh/\∃(g1 g2:Nat) (x y:List ByteArray) (us:List FE),p1=some ⟨g1,0,none⟩/\p2=some ⟨g2,0,none⟩/\SB w g1 23 (textsV x).toArray/\SB w g2 23 (textsV y).toArray/\Told (us.take nb) x/\Told (us.drop nb) y/\us.length=nb+nh/\∀y,Sol (nb+nh) M b y↔∀(i:Nat) (t:FE),us[i]?=some t->y i=t.q)
theorem Carried.below{nb nh:Nat}{M:List Vec}{b:List Rat}{p1 p2:Option Addr}{n1 n2:Nat}{cd:Int}{w w':World}(h:Carried nb nh M b p1 p2 n1 n2 cd w)(hb:Below w.heap.size w w'):Carried nb nh M b p1 p2 n1 n2 cd w':=by
 rcases h with h|h|⟨h1,h2,h3,g1,g2,x,y,us,h4,h5,h6,h7,h8⟩
 . exact .inl h
 . exact .inr (.inl h)
 . exact .inr (.inr ⟨h1,h2,h3,g1,g2,x,y,us,h4,h5,h6.below hb h6.lt,h7.below hb h7.lt,h8⟩)
theorem CarrySays.form{nb nh:Nat}{M:List Vec}{b:List Rat}{w w':World}{e:Ending}(h:CarrySays nb nh M b w e w'):∃(p1 p2:Option Addr) (n1 n2:Nat) (cd:Int),e=.returned (.tuple #[.agg #[.slice p1 n1 n1,.slice p2 n2 n2],.agg #[.int .i64 cd,.int .i64 0]])/\Carried nb nh M b p1 p2 n1 n2 cd w'/\Below w.heap.size w w':=by
 obtain⟨h|h|⟨g1,g2,x,y,us,h1,h2⟩,hb⟩:=h
 . exact⟨none,none,0,0,8,h.1,.inl ⟨rfl,h.2⟩,hb⟩
 . obtain⟨he,x,y,hx,_⟩:=h
   exact⟨none,none,0,0,9,he,.inr (.inl ⟨rfl,x,hx⟩),hb⟩
 . exact⟨_,_,nb,nh,0,h1,.inr (.inr ⟨rfl,rfl,rfl,g1,g2,x,y,us,rfl,rfl,h2⟩),hb⟩
def Worked(xs:List Vec)(N:Nat)(b:Vec)(k:Nat)(t:Bool):Prop:=t=true↔∃(i:Nat) (x:Vec),i<k/\xs[i]?=some x/\dot N b x≠0
theorem Worked.start(xs:List Vec)(N:Nat)(b:Vec):Worked xs N b 0 false:=⟨fun h=>(by cases h),fun ⟨i,_,hi,_⟩=>by omega⟩
theorem Worked.on{xs:List Vec}{N k:Nat}{b:Vec}(h:Worked xs N b k true):Worked xs N b (k+1) true:=⟨fun _=>by
 obtain⟨i,x,h1,h2⟩:=h.1 rfl
 exact⟨i,x,by omega,h2⟩,fun _=>rfl⟩
theorem Worked.next{xs:List Vec}{N k:Nat}{b x:Vec}{t:Bool}(h:Worked xs N b k false)(hx:xs[k]?=some x)(ht:t=true↔dot N b x≠0):Worked xs N b (k+1) t:=⟨fun q=>⟨k,x,by omega,hx,ht.1 q⟩,fun ⟨i,y,h1,h2,h3⟩=>by
 by_cases hi:i=k
 .
  subst hi;rw[hx] at h2;obtain rfl:=Option.some.inj h2;exact ht.2 h3
 . have:=h.2 ⟨i,y,by omega,h2,h3⟩
   cases this⟩
theorem CRow.away{Y Z:World}{g:Nat}{T:TypeId}{x y:Int}{a:Option Addr}{us:List Value}(h:CRow Y a us)(ho:Only g Y Z)(hs:SB Y g T #[.int .i64 x,.int .i64 y])(hu:∀u,u∈ us->∀k n,u≠.int k n):CRow Z a us:=⟨fun i u hi=>by
 obtain⟨b,off,h1,h2,h3⟩:=h.cell i u hi;have hne:b≠g:=fun e=>by
  subst e;rw[hs.cell] at h3;have hm:=mO hi
  match off+i,h3 with
  |0,h3=>exact hu u hm _ _ (Option.some.inj h3).symm
  |1,h3=>exact hu u hm _ _ (Option.some.inj h3).symm
  |n+2,h3=>simp at h3
 exact⟨b,off,h1,by have:=ho.size;omega,(World.cell?_of_block (w:=Y) (ho.block b h2 hne)).trans h3⟩⟩
theorem Carried.only{nb nh:Nat}{M:List Vec}{b:List Rat}{p1 p2:Option Addr}{n1 n2 g:Nat}{cd:Int}{w w':World}{C:Array Value}(h:Carried nb nh M b p1 p2 n1 n2 cd w)(ho:Only g w w')(hs:SB w g 57 C):Carried nb nh M b p1 p2 n1 n2 cd w':=by
 rcases h with h|h|⟨h1,h2,h3,g1,g2,x,y,us,h4,h5,h6,h7,h8⟩
 . exact .inl h
 . exact .inr (.inl h)
 . exact .inr (.inr ⟨h1,h2,h3,g1,g2,x,y,us,h4,h5,h6.only ho (h6.unlike hs (by decide)),h7.only ho (h7.unlike hs (by decide)),h8⟩)
theorem SLat.row{w:World}{n:Nat}{m:SL}(h:SLat w n m):ARow S2.cells w (some ⟨m.g,0,none⟩) n m.ss:=⟨by have:=h.len;omega,⟨fun j u hj=>⟨m.g,0,rfl,h.blk.lt,by rw[Nat.zero_add,h.blk.cell];simpa using hj⟩⟩⟩
theorem Qvg{N:Nat}{ts tv:List RT}{vs:List (Nat × Rat × Rat)}{x:Vec}{SG:Int}(h1:∀(i:Nat) (t:RT),ts[i]?=some t->t.2.1= -agn vs i)(hl:ts.length=N)(h2:∀i,i<N->qv tv i=x i)(hs:sgn3 (dot N (qv ts) (qv tv)).num=SG):(SG != 0)=true↔dot N (agn vs) x≠0:=by
 have e:dot N (qv ts) (qv tv)= -dot N (agn vs) x:=by
  rw[<-Qgq];refine Qae _ _ _ _ _ (fun i hi=>?_);rw[h2 i hi,qv_at (gE (by omega)),h1 i _ (gE (by omega))]
 have hz:=Qsc (dot N (qv ts) (qv tv));rw[hs] at hz;rw[bne_iff_ne,ne_eq,<-beq_iff_eq,hz,decide_eq_true_eq,e];constructor
 . intro h1 h2;exact h1 (by rw[h2];grind)
 . intro h1 h2;exact h1 (by grind)
theorem Qlg:sgn3 (Rat.num 0)=0:=by decide
theorem Qvh{us:List FE}{xt:List ByteArray}{nb k:Nat}{t:FE}{s:ByteArray}(h:Told (us.take nb) xt)(hk:k<nb)(ht:us[k]?=some t)(hs:xt[k]?=some s):QText s.data.toList t.q:=h.2 k t s (by rw[List.getElem?_take_of_lt hk];exact ht) hs
theorem Qvi{us:List FE}{xt:List ByteArray}{nb k:Nat}{t:FE}{s:ByteArray}(h:Told (us.drop nb) xt)(ht:us[nb+k]?=some t)(hs:xt[k]?=some s):QText s.data.toList t.q:=h.2 k t s (by rw[List.getElem?_drop];exact ht) hs
theorem Qlh{w:World}{g k:Nat}{xt:List ByteArray}{s:ByteArray}(h:SB w g 23 (textsV xt).toArray)(hk:xt[k]?=some s):w.cell? ⟨g,k,none⟩=some (.string s):=by
 rw[h.cell];simp[textsV,hk]
theorem Qvj{vb:List (Nat × Nat × Rat × Rat)}{y v:Vec}{k:Nat}{p:Nat × Nat × Rat × Rat}(h:vb[k]?=some p):barSum vb y v (k+1)=barSum vb y v k+y k*stretch p v:=by
 simp only[barSum,sumQ,List.getD,h,Option.getD_some]
theorem Qvk{nb:Nat}{vh:List Nat}{y v:Vec}{k r:Nat}(h:vh[k]?=some r):holdSum nb vh y v (k+1)=holdSum nb vh y v k+y (nb+k)*v r:=by
 simp only[holdSum,sumQ,List.getD,h,Option.getD_some]
theorem Qvl{N:Nat}{ts:List RT}{vs:List (Nat × Rat × Rat)}(h1:∀(i:Nat) (t:RT),ts[i]?=some t->t.2.1= -agn vs i)(hl:ts.length=N)(x:Vec):dot N (qv ts) x= -dot N (agn vs) x:=by
 rw[<-Qgq];refine Qae _ _ _ _ _ (fun i hi=>?_);rw[qv_at (gE (by omega)),h1 i _ (gE (by omega))]
theorem Qli{nj r J:Nat}{wy:Int}(hw:wy=1∨wy=2)(hr:r=if wy=1 then 2*J else 2*J+1)(hJ:J<nj):((2*J:Nat):Int)+wy=((r+1:Nat):Int)/\r<2*nj:=by
 rcases hw with rfl|rfl
 . simp at hr;omega
 . simp at hr;omega
theorem Qvm(a1 a2 a3 al am:Option Addr)(c1 c2 c3 cl cm:Nat)(js:List S2)(bs:List B6)(hs:List H3)(ls:List L3)(mo:List S2)(vs:List (Nat × Rat × Rat))(w:World)(hg:Glob w)(hf:FrRow w a1 a2 a3 c1 c2 c3 js bs hs)(hz:FrSized js bs hs)(hl:ARow L3.cells w al cl ls)(hv:LVal ls vs)(hll:ls.length<=1048576)(hT:jW js+lW ls<=1048576)(hm:ARow S2.cells w am cm mo)(hml:mo.length<=500000)(hms:∀s,s∈ mo->s.x.size<=1048576/\s.y.size<=1048576):
 Calls prog 9 #[.agg #[.slice a1 js.length c1,.slice a2 bs.length c2,.slice a3 hs.length c3],.slice al ls.length cl,.slice am mo.length cm] w fun e w'=>e=.returned (.bool true)/\Below w.heap.size w w':=by
 obtain⟨HG,HF,HZ,HL,HLV,HT,HM,HMS⟩:=Ig hg hf hz hl hv hT hm hms;clear hg hf hz hl hv hT hm hms;obtain⟨B0,hB0⟩:=nm w.heap.size;obtain⟨W,hW⟩:=nm (w.alloc (.cells #[.slice a1 js.length c1,.slice a2 bs.length c2,.slice a3 hs.length c3] 54));have HBW:=Ua hW;have HSW:=Uf hW hB0;obtain⟨HWE,HB0,HL0⟩:=Ib hW hB0 (Qmd W (HG.o.below HBW.o));clear hW hB0;go_enter func9,ntmps9;go_wp2_with fail;rw[HWE.o,HB0.o];go_fit HL0.o;rintro e w1 ⟨rfl,hb1⟩;have HB1:=Hi (HBW.o.trans (hb1.mono HBW.o.size));have hs1:=HSW.o.below hb1 HSW.o.lt
 obtain⟨x0,x1,x2,-⟩:=zc hs1;obtain⟨HS1,HLO⟩:=Ia hs1 (Qo1 a1 a2 a3 al c1 c2 c3 cl js bs hs ls vs w1 (HG.o.below HB1.o) (HF.o.below HB1.o) HZ.o (HL.o.below HB1.o) HLV.o hll);clear hb1 hs1 HWE HL0 HBW HSW;go_wp2_with fail;go_fit HLO.o;clear x0 x1 x2 HLO;rintro e w2 ⟨hb2,lv,c,at_,rfl,hres⟩;have HRES:=Hi hres;obtain⟨U,hU⟩:=nm (w2.alloc (.cells #[.int .i64 c,.int .i64 at_] 57));obtain⟨G0,hG0⟩:=nm w2.heap.size;have hbU:Below w1.heap.size w1 U:=by rw[<-hU];exact hb2.alloc hb2.size _
 have h2U:Below w2.heap.size w2 U:=by rw[<-hU];exact(Below.refl _ _).alloc lZ _
 obtain⟨HBU,HSU⟩:=Ia (HB1.o.trans (hbU.mono HB1.o.size)) (HS1.o.below hbU HS1.o.lt);have HSG:=Uf hU hG0;obtain⟨H2U,HB2,HS2⟩:=Ib h2U (HB1.o.trans (hb2.mono HB1.o.size)) (HS1.o.below hb2 HS1.o.lt);have HGL:O (w1.heap.size<=G0):=Hi (by rw[<-hG0];exact hb2.size);obtain⟨p0,-⟩:=zc HSG.o;obtain⟨HU,HG0⟩:=Ia hU hG0;rw[<-hU] at p0;rw[<-hG0] at p0;clear hbU h2U hU hG0 hb2 hres;by_cases hc:c=0
 .
  subst hc;obtain⟨hff,hlf,hat,gL,NL,ts,hNL,hlv,hpb,htl,hq⟩:FrameFault js bs hs 0 0/\LoadsFault js.length (bs.length+hs.length) ls 0 at_/\at_=0/\∃(g N:Nat) (ts:List RT),N=2*js.length/\lv=.slice (some ⟨g,0,none⟩) N N/\PBlk w2 g ts/\ts.length=N/\∀(i:Nat) (t:RT),ts[i]?=some t->t.2.1= -agn vs i/\t.2.2<=kL 20:=by
   rcases HRES.o with ⟨h,_⟩|⟨h1,h2,⟨h,_⟩|⟨_,h3,h4⟩⟩
   . exact absurd rfl h
   . exact absurd rfl h
   . exact⟨h1,h2,h3,h4⟩
  subst hlv hat;obtain⟨vb,vh,hfv,hpt⟩:=Qmg HZ.o hff;obtain⟨hl20,hIJ,_⟩:=hlf.zero;obtain⟨P,hfp⟩:=hfv.overL hl20 HLV.o.len (HLV.o.loadV hIJ) HT.o;have HLJ:=Hi (HLV.o.loadV hIJ);rw[show 8*1048576+70=8388678 from rfl] at hfp;obtain⟨b,hb⟩:∃b,b=8388678:=⟨_,rfl⟩;rw[<-hb] at hfp;obtain⟨HBN,HFV,HFP,HPT,HFF,HNL,HPB,HTL,HTQ⟩:=Ih hb hfv hfp hpt hff hNL hpb htl hq;have nj:=hfv.j;have nb:=hfv.b;have nh:=hfv.h;clear hff hlf hNL hpb htl hq hfv hpt hIJ hfp hb HRES;have HCN:=Hi (Qkd a1 a2 a3 c1 c2 c3 js bs hs U (HG.o.below HBU.o) (HF.o.below HBU.o) HZ.o);obtain⟨x0,x1,x2,-⟩:=zc HSU.o;rw[<-HU.o] at x0 x1 x2;go_wp2_with fail
  rw[HU.o,HG0.o];go_fit HCN.o;clear x0 x1 x2 p0 HCN;rintro e w3 ⟨c3',at3,NN,rfl,hff,_,hnn,hbx⟩;obtain⟨rfl,rfl⟩:=hff.inj HFF.o;have HNN:=Hi (hnn rfl);clear hff hnn;obtain⟨Va,hVN⟩:∃V,w3.alloc (.cells #[.int .i64 0,.int .i64 0] 57)=V:=⟨_,rfl⟩;obtain⟨G1,hGB⟩:∃G,w3.heap.size=G:=⟨_,rfl⟩;have hbV:Below U.heap.size U Va:=by rw[<-hVN];exact hbx.alloc hbx.size _
  obtain⟨HBVa,HSVa,HOVa⟩:=Ib (HBU.o.trans (hbV.mono HBU.o.size)) (HSU.o.below hbV HSU.o.lt) hbV;have HXVa:=Ua hVN;have HQG1:=Uf hVN hGB;obtain⟨x0,x1,x2,-⟩:=zc HSVa.o;obtain⟨HEVa,HEG1⟩:=Ia hVN hGB;rw[<-hVN] at x0 x1 x2;clear hVN hGB hbV hbx
  have HCN:=Hi (Qgw a1 a2 a3 c1 c2 c3 1048576 (kE b) js bs hs vb vh Va (HG.o.below HBVa.o) (HF.o.below HBVa.o) HZ.o HFF.o HFV.o (by have:=HBN.o;simp only[kE];omega) (by have:=HBN.o;simp only[kE];omega) _ (HFP.o.toFrP.rows HFV.o).1 (HFP.o.toFrP.rows HFV.o).2.1);go_wp2_with fail;rw[HEVa.o,HEG1.o];go_fit HCN.o;clear x0 x1 x2 HCN;rintro e w4 ⟨⟨La,Sa,ha,rfl,hsl,hmj⟩,hbx⟩;have HMJ:=Hi hmj;obtain⟨RK,hRK⟩:=nm Sa.length;rw[hRK] at hsl ⊢;obtain⟨MA,hMA⟩:∃MA:Int,(bs.length:Int)+(hs.length:Int) - (RK:Nat)=MA:=⟨_,rfl⟩;obtain⟨YS,hYS⟩:∃YS:Int,2*(js.length:Int) - (RK:Nat)=YS:=⟨_,rfl⟩;rw[hMA,hYS];obtain⟨HRK,HMA,HYS,HSL⟩:=Ic hRK hMA hYS hsl;clear hmj hRK hMA hYS hsl;obtain⟨Vb,hVN⟩:∃V,w4.alloc (.cells #[.int .i64 0,.int .i64 0] 57)=V:=⟨_,rfl⟩;obtain⟨G2,hGB⟩:∃G,w4.heap.size=G:=⟨_,rfl⟩
  have hbV:Below Va.heap.size Va Vb:=by rw[<-hVN];exact hbx.alloc hbx.size _
  obtain⟨HBVb,HSVb,HOVb⟩:=Ib (HBVa.o.trans (hbV.mono HBVa.o.size)) (HSVa.o.below hbV HSVa.o.lt) hbV;have HXVb:=Ua hVN;have HQG2:=Uf hVN hGB;obtain⟨x0,x1,x2,-⟩:=zc HSVb.o;obtain⟨HEVb,HEG2⟩:=Ia hVN hGB;rw[<-hVN] at x0 x1 x2;clear hVN hGB hbV hbx;have HCN:=Hi (Qpe a1 a2 a3 c1 c2 c3 P b js bs hs vb vh Vb (HG.o.below HBVb.o) (HF.o.below HBVb.o) HZ.o HFF.o HFV.o HFP.o.toFrP (by have:=HBN.o;omega) (by have:=HBN.o;omega));go_wp2_with fail;rw[HEVb.o,HEG2.o];go_fit HCN.o;clear x0 x1 x2 HCN
  rintro e w5 ⟨Lb,Sb,hb,mv,ms,rfl,hmj2,hma,hbx⟩;obtain⟨ma,mc,rfl,_,hmr,_⟩:=hma.list.slice;obtain⟨HMJ2,HMA5,HMR5⟩:=Ib hmj2 hma hmr;have hlen:=Qv1 HFP.o.toFrP HFV.o HMJ.o hmj2;have hml2:=hma.len;rw[List.length_map] at hml2;rw[HRK.o] at hlen;have q9:IntKind.i64.wrap (MA - YS)=NN:=by
   have h1:=HMA.o;have h2:=HYS.o;have h3:=HNN.o;rw[Qac _ (by omega) (by omega)];omega
  have q10:(((ms.length:Nat):Int) != YS)=false:=by
   have h2:=HYS.o;have:((ms.length:Nat):Int)=YS:=by omega
   rw[this];simp
  have hms20:ms.length<=20:=by omega
  clear hmj2 hma hmr hlen hml2;obtain⟨Vc,hVN⟩:∃V,w5.alloc (.cells #[.int .i64 0,.int .i64 0] 57)=V:=⟨_,rfl⟩;obtain⟨G3,hGB⟩:∃G,w5.heap.size=G:=⟨_,rfl⟩;have hbV:Below Vb.heap.size Vb Vc:=by rw[<-hVN];exact hbx.alloc hbx.size _
  obtain⟨HBVc,HSVc,HOVc⟩:=Ib (HBVb.o.trans (hbV.mono HBVb.o.size)) (HSVb.o.below hbV HSVb.o.lt) hbV;have HXVc:=Ua hVN;have HQG3:=Uf hVN hGB;obtain⟨x0,x1,x2,-⟩:=zc HSVc.o;obtain⟨HEVc,HEG3⟩:=Ia hVN hGB;rw[<-hVN] at x0 x1 x2;clear hVN hGB hbV hbx;obtain⟨y1,-⟩:=zc ((HQG1.o.below HOVb.o HQG1.o.lt).below HOVc.o (HQG1.o.below HOVb.o HQG1.o.lt).lt);obtain⟨y2,-⟩:=zc (HQG2.o.below HOVc.o HQG2.o.lt)
  obtain⟨y3,-⟩:=zc HQG3.o;rw[<-HEVc.o] at y1 y2 y3;rw[<-HEG3.o] at y3;have HCN:=Hi (Qmj a1 a2 a3 al c1 c2 c3 cl P b js bs hs vb vh ls vs Vc (HG.o.below HBVc.o) (HF.o.below HBVc.o) HZ.o HFF.o HFV.o (HL.o.below HBVc.o) hl20 HLV.o.len HLJ.o HFP.o (by have:=HBN.o;omega) (by have:=HBN.o;omega));go_wp2_with fail;rw[HEVc.o,HEG3.o];go_fit HCN.o;clear x0 x1 x2 y1 y2 y3 HCN q9 q10;rintro e w6 hcar;obtain⟨p1,p2,n1,n2,cd,rfl,hcd,hbx⟩:=hcar.form;obtain⟨Y,hY⟩:=nm (w6.alloc (.cells #[.slice p1 n1 n1,.slice p2 n2 n2] 90));obtain⟨G4,hG4⟩:=nm w6.heap.size;have h6Y:Below w6.heap.size w6 Y:=by rw[<-hY];exact(Below.refl _ _).alloc lZ _
  have hcY:Below Vc.heap.size Vc Y:=hbx.trans (h6Y.mono hbx.size);have h5Y:Below w5.heap.size w5 Y:=HXVc.o.trans (hcY.mono HXVc.o.size);have hbY:Below Vb.heap.size Vb Y:=HOVc.o.trans (hcY.mono HOVc.o.size);have haY:Below Va.heap.size Va Y:=HOVb.o.trans (hbY.mono HOVb.o.size);have huY:Below U.heap.size U Y:=HOVa.o.trans (haY.mono HOVa.o.size);have hgY:=HSG.o.below huY HSG.o.lt;obtain⟨z0,z1,-⟩:=zc hgY;have f0:=hgY.free 0;have f1:=hgY.free 1;obtain⟨Z,hZ⟩:=nm ((Y.setCell ⟨G0,0,none⟩ (.int .i64 cd)).setCell ⟨G0,1,none⟩ (.int .i64 0));have hoZ:Only G0 Y Z:=by rw[<-hZ];exact((Only.refl _ _).setCell _ _).setCell _ _
  have hsZ:SB Z G0 57 #[.int .i64 cd,.int .i64 0]:=by rw[<-hZ];exact(hgY.set 0 _).set 1 _
  have h2Y:=H2U.o.trans (huY.mono H2U.o.size);have hle2:w2.heap.size<=G0:=by have:=HG0.o;omega
  have H2Z:O (Below w2.heap.size w2 Z):=Hi (by rw[<-hZ];exact(h2Y.setCell (p:=⟨G0,0,none⟩) hle2 _).setCell (p:=⟨G0,1,none⟩) hle2 _);obtain⟨HBZ,HSZ,HPZ,HCZ,HSG⟩:=Id (HB2.o.trans (H2Z.o.mono HB2.o.size)) (HS2.o.below H2Z.o HS2.o.lt) (HPB.o.below H2Z.o) ((hcd.below h6Y).only hoZ hgY) hsZ;have hs4:SB Y G4 90 #[.slice p1 n1 n1,.slice p2 n2 n2]:=by rw[<-hY,<-hG4];exact SB.new w6 _ _
  have HS4:=Hi (hs4.only hoZ (hs4.unlike hgY (by decide)));have HMR:=Hi ((HMR5.o.below h5Y).away hoZ hgY (fun u hu k n=>by
   obtain⟨m,_,rfl⟩:=List.mem_map.1 hu
   exact fun e=>by cases e))
  have HEA:O (∀m,m∈ ms->SLat Z js.length m):=Hi (fun m hm=>by
   have h:=((HMA5.o.each m hm).below h5Y)
   exact⟨h.blk.only hoZ (h.blk.unlike hgY (by decide)),h.len⟩)
  obtain⟨XS,hXS⟩:=nm ((freeTo hb (2*js.length)).map (fun c=>nullF c (cln Sb hb) hb hb.length));have HTO:O (∀(i:Nat) (m:SL) (x:Vec),ms[i]?=some m->XS[i]?=some x->SpotsTold x m.ss):=Hi (by rw[<-hXS];exact HMA5.o.told);have HXL:O (XS.length=ms.length):=Hi (by rw[<-hXS];exact HMA5.o.len.symm);have HNU:O (∀x,x∈ XS->Null (2*js.length) (balCols js.length vb bs.length vh hs.length) x/\∀i,Fits (x i) (kC b)):=Hi (fun x hx=>Qvw HFP.o.toFrP HFV.o HMJ2.o (by rw[hXS];exact hx));obtain⟨HXS,HYE,HZE,HG4⟩:=Ic hXS hY hZ hG4;rw[<-hY] at z0 z1 f0 f1;clear hcar hcd hbx hY hG4 h6Y hcY h5Y hbY haY huY hgY hoZ hsZ h2Y hle2 hs4 hXS hZ;go_wp2_with fail;rw[HYE.o,HZE.o,HG4.o];clear z0 z1 f0 f1
  go_loopw [90,18] (fun iv bv wr=>∃(k:Nat) (wb:Bool),k<=ms.length/\iv=.int .i64 k/\bv=.bool wb/\Worked XS NL (agn vs) k wb/\Below Z.heap.size Z wr) (fun iv _ _=>ms.length - (intOf iv).toNat)
  case atStart=>exact⟨0,false,Nat.zero_le _,rfl,rfl,Worked.start _ _ _,Below.refl _ _⟩
  case round=>
   obtain⟨k,wb,hk,rfl,rfl,hwk,hbz⟩:=hrel;obtain⟨HWK,HBK⟩:=Ia hwk hbz;clear hwk hbz;obtain⟨wo,hwo⟩:∃wo,wo=wr:=⟨_,rfl⟩;subst hwo;by_cases hks:k<ms.length
   .
    obtain⟨m,hmk⟩:∃m,ms[k]?=some m:=⟨ms[k],gE hks⟩;obtain⟨x,hxk⟩:∃x,XS[k]?=some x:=⟨XS[k]'(by have:=HXL.o;omega),gE _⟩;obtain⟨mb,mf,rfl,hmb,d0⟩:=(HMR.o.below HBK.o).cell k (m.val js.length) (by rw[List.getElem?_map,hmk];rfl);have d0:wo.cell? ⟨mb,mf+k,none⟩=some (.slice (some ⟨m.g,0,none⟩) js.length js.length):=d0;have hsm:=(HEA.o m (mO hmk)).below HBK.o;have hto:=HTO.o k m x hmk hxk;obtain⟨hnx,hfx⟩:=HNU.o x (mO hxk);obtain⟨NM,hNM⟩:=nm (2*kC b+4);obtain⟨KM,hKM⟩:=nm (4*NM+1);have hsz:=Qvt hto hfx;rw[hNM] at hsz;have hbw:Below w.heap.size w wo:=HBZ.o.trans (HBK.o.mono HBZ.o.size);have HMO:=Hi (Qir (some ⟨m.g,0,none⟩) js.length NM m.ss wo (HG.o.below hbw).most hsm.row (by have:=hsm.len;omega) (by have:=HBN.o;simp only[kC] at hNM;omega) hsz);rw[hsm.len,hKM] at HMO
    obtain⟨HML,HTX,HNX,HXK⟩:=Ic hsm.len hto hnx hxk;have HKM:O (4*(2*kC b+4)+1=KM):=Hi (by rw[hNM];exact hKM);have q1:((k:Int)<(ms.length:Int)):=by omega
    clear hmk hxk hsm hto hnx hfx hsz hbw hNM hKM;go_wp2_with fail;go_fit HMO.o;clear d0 HMO;rintro e w7 ⟨vv,tv,rfl,hpg,hmv,hb7⟩;obtain⟨av,cv,rfl,hpr⟩:=hpg.row;have HVL:O (tv.length=NL):=Hi (by rw[hmv.len,HML.o,HNL.o]);have HVX:O (∀i,i<2*js.length->qv tv i=x i):=Hi (by have:=Qvs hmv HTX.o;rw[HML.o] at this;exact this);obtain⟨HMV,HB7,HPR⟩:=Ib hmv (HBK.o.trans (hb7.mono HBK.o.size)) hpr;rw[HVL.o];clear hpg hmv hb7 hpr;cases wb
    .
     have HDO:=Hi (Qis (some ⟨gL,0,none⟩) av NL cv (kL 20) KM ts tv w7 (HPZ.o.below HB7.o).row HPR.o (HVL.o.trans HTL.o.symm) (by rw[HTL.o,HNL.o];omega) (fun t ht=>by
      obtain⟨i,hi⟩:=List.mem_iff_getElem?.1 ht
      exact(HTQ.o i t hi).2) HMV.o.k (by have:=HKM.o;have:=HBN.o;simp only[kC,kL] at *;omega))
     rw[HTL.o] at HDO;go_wp2_with fail;go_fit HDO.o;rintro e w8 ⟨g8,rfl,hrv,_,_,hb8⟩;obtain⟨SG,hSG⟩:=nm (sgn3 (dot NL (qv ts) (qv tv)).num);have HSN:=Hi (Qjx g8 _ w8 hrv);rw[hSG] at HSN;obtain⟨HWN,HB8⟩:=Ia (HWK.o.next HXK.o (Qvg (fun i t hi=>(HTQ.o i t hi).1) HTL.o (fun i hi=>HVX.o i (by rw[<-HNL.o];exact hi)) hSG)) hb8;clear hrv hSG hb8 HDO;go_wp2_with fail;go_fit HSN.o;rintro e w8' ⟨rfl,rfl⟩;clear HSN;obtain⟨HBE,HPE⟩:=Ia (HB7.o.trans (HB8.o.mono HB7.o.size)) (HPR.o.below HB8.o);obtain⟨-,x1,-⟩:=zc (HSZ.o.below HBE.o HSZ.o.lt);go_wp2_with fail;clear x1;go_loopw [112] (fun iv wi=>∃j:Nat,j<=bs.length/\iv=.int .i64 j/\Below w8'.heap.size w8' wi) (fun iv _=>bs.length - (intOf iv).toNat)
     case atStart=>exact⟨0,Nat.zero_le _,rfl,Below.refl _ _⟩
     case round=>
      obtain⟨j,hj,rfl,hbi⟩:=hrel;obtain⟨HBI,HPI,HBJ⟩:=Ib (HBE.o.trans (hbi.mono HBE.o.size)) (HPE.o.below hbi) hbi;clear hbi;by_cases hjb:j<bs.length
      .
       obtain⟨bb,hbj⟩:∃bb,bs[j]?=some bb:=⟨bs[j],gE hjb⟩;obtain⟨pp,hpj⟩:∃pp,vb[j]?=some pp:=⟨vb[j]'(by have:=HFV.o.lb;omega),gE _⟩;have hbw:Below w.heap.size w wr:=HBZ.o.trans (HBI.o.mono HBZ.o.size);have hbv:=HFV.o.vb j bb pp hbj hpj;obtain⟨pp1,pp2,_⟩:=HPT.o pp (mO hpj);have HST:=Hi (Qgn a1 a2 a3 av c1 c2 c3 cv j KM js bs hs bb pp tv wr (HG.o.below hbw).most (HF.o.below hbw) hbj hbv nj nb HPI.o (HVL.o.trans HNL.o) HMV.o.k (by have:=HKM.o;have:=HBN.o;simp only[kC] at *;omega));rw[HVL.o,(Qlq pp1 pp2 (HVX.o)).trans (Qls HFV.o HNX.o hpj pp1 pp2 hbv.ne)] at HST;have hsI:=HSZ.o.below HBI.o HSZ.o.lt;obtain⟨x0,x1,-⟩:=zc hsI
       obtain⟨-,-,x2,-⟩:=zc hsI;have q1:((j:Int)<(bs.length:Int)):=by omega
       clear hbj hpj hbw hbv pp1 pp2 hsI;go_wp2_with fail;go_fit HST.o;rintro e w9 ⟨g9,rfl,hbag⟩;obtain⟨HRB,HSN⟩:=Ia hbag (hbag.sign (List.Mem.head _));clear hbag x0 x1 x2 HST;go_wp2_with fail;go_fit HSN.o;rintro e w10 ⟨rfl,rfl⟩;rw[Qlg];go_wp2;go_roundw
       case rel=>exact⟨j+1,by omega,by go_num,HBJ.o.trans (HRB.o.base.mono HBJ.o.size)⟩
       case measure=>simp[intOf];omega
      .
       obtain rfl:j=bs.length:=by omega
       go_wp2;go_roundw
       case rel=>exact⟨k+1,_,by omega,by go_num,rfl,HWN.o,HBI.o⟩
       case measure=>simp[intOf];omega
    .
     obtain⟨HBE,HPE⟩:=Ia (HB7.o) (HPR.o);obtain⟨-,x1,-⟩:=zc (HSZ.o.below HBE.o HSZ.o.lt);go_wp2_with fail;clear x1;go_loopw [112] (fun iv wi=>∃j:Nat,j<=bs.length/\iv=.int .i64 j/\Below w7.heap.size w7 wi) (fun iv _=>bs.length - (intOf iv).toNat)
     case atStart=>exact⟨0,Nat.zero_le _,rfl,Below.refl _ _⟩
     case round=>
      obtain⟨j,hj,rfl,hbi⟩:=hrel;obtain⟨HBI,HPI,HBJ⟩:=Ib (HBE.o.trans (hbi.mono HBE.o.size)) (HPE.o.below hbi) hbi;clear hbi;by_cases hjb:j<bs.length
      .
       obtain⟨bb,hbj⟩:∃bb,bs[j]?=some bb:=⟨bs[j],gE hjb⟩;obtain⟨pp,hpj⟩:∃pp,vb[j]?=some pp:=⟨vb[j]'(by have:=HFV.o.lb;omega),gE _⟩;have hbw:Below w.heap.size w wr:=HBZ.o.trans (HBI.o.mono HBZ.o.size);have hbv:=HFV.o.vb j bb pp hbj hpj;obtain⟨pp1,pp2,_⟩:=HPT.o pp (mO hpj);have HST:=Hi (Qgn a1 a2 a3 av c1 c2 c3 cv j KM js bs hs bb pp tv wr (HG.o.below hbw).most (HF.o.below hbw) hbj hbv nj nb HPI.o (HVL.o.trans HNL.o) HMV.o.k (by have:=HKM.o;have:=HBN.o;simp only[kC] at *;omega));rw[HVL.o,(Qlq pp1 pp2 (HVX.o)).trans (Qls HFV.o HNX.o hpj pp1 pp2 hbv.ne)] at HST;have hsI:=HSZ.o.below HBI.o HSZ.o.lt;obtain⟨x0,x1,-⟩:=zc hsI
       obtain⟨-,-,x2,-⟩:=zc hsI;have q1:((j:Int)<(bs.length:Int)):=by omega
       clear hbj hpj hbw hbv pp1 pp2 hsI;go_wp2_with fail;go_fit HST.o;rintro e w9 ⟨g9,rfl,hbag⟩;obtain⟨HRB,HSN⟩:=Ia hbag (hbag.sign (List.Mem.head _));clear hbag x0 x1 x2 HST;go_wp2_with fail;go_fit HSN.o;rintro e w10 ⟨rfl,rfl⟩;rw[Qlg];go_wp2;go_roundw
       case rel=>exact⟨j+1,by omega,by go_num,HBJ.o.trans (HRB.o.base.mono HBJ.o.size)⟩
       case measure=>simp[intOf];omega
      .
       obtain rfl:j=bs.length:=by omega
       go_wp2;go_roundw
       case rel=>exact⟨k+1,_,by omega,by go_num,rfl,HWK.o.on,HBI.o⟩
       case measure=>simp[intOf];omega
   .
    obtain rfl:k=ms.length:=by omega
    obtain⟨p0,-⟩:=zc (HSG.o.below HBK.o HSG.o.lt);have HBO:=Hi (HBZ.o.trans (HBK.o.mono HBZ.o.size));rcases HCZ.o with ⟨rfl,hno⟩|hrest
    .
     have hwb:wb=true:=by
      obtain⟨x,hx,hne⟩:=Qvy HFP.o.toFrP HFV.o HMJ2.o hno;rw[HXS.o] at hx;obtain⟨i,hi⟩:=List.mem_iff_getElem?.1 hx;have hil:=(gZ hi).1;exact HWK.o.2 ⟨i,x,by have:=HXL.o;omega,hi,by rw[HNL.o];exact hne⟩
     subst hwb;clear hno;go_wp2;go_ret;exact⟨rfl,HBO.o⟩
    .
     obtain⟨hcd8,y,hy⟩:cd≠8/\∃y,Sol (bs.length+hs.length) (balRows js.length vb bs.length vh) ((List.range (2*js.length)).map (agn vs)) y:=by
      rcases hrest with ⟨h,y,hy⟩|⟨h,_,_,_,_,_,_,us,_,_,_,_,_,_,_,hu⟩
      . exact⟨by omega,y,hy⟩
      . exact⟨by omega,fun i=>(us.map (·.q)).getD i 0,(hu _).2 (fun i t hi=>by simp[List.getD,hi])⟩
     have hwb:wb=false:=by
      cases wb with
      |false=>rfl
      |true=>
       obtain⟨i,x,_,hi,hne⟩:=HWK.o.1 rfl;exact absurd (by rw[HNL.o];exact Qvz hy (HNU.o x (mO hi)).1) hne
     subst hwb;have q8:(cd == 8)=false:=by simpa using hcd8
     obtain⟨HREST,HMO⟩:=Ia hrest (Qir am cm 1048576 mo wo (HG.o.below HBO.o).most (HM.o.below HBO.o) hml (by decide) HMS.o);clear hrest hy hcd8 y;go_wp2_with fail;go_fit HMO.o;clear p0 HMO q8;rintro e w7 ⟨vv,tv,rfl,hpg,hmv,hb7⟩;obtain⟨av,cv,rfl,hpr⟩:=hpg.row;have HB7:=Hi (HBK.o.trans (hb7.mono HBK.o.size));obtain⟨HB7w,HPR,HMV⟩:=Ib (HBZ.o.trans (HB7.o.mono HBZ.o.size)) hpr hmv;obtain⟨p0,-⟩:=zc (HSG.o.below HB7.o HSG.o.lt);clear hpg hmv hpr hb7;rcases HREST.o with ⟨rfl,_⟩|⟨rfl,rfl,rfl,g1,g2,xt,yt,us,rfl,rfl,hc1,hc2,ht1,ht2,hul,hus⟩
     .
      go_wp2;go_ret;exact⟨rfl,HB7w.o⟩
     .
      have hs4:=HS4.o.below HB7.o HS4.o.lt;have hsf:=HSZ.o.below HB7.o HSZ.o.lt;obtain⟨s0,s1,-⟩:=zc hs4;obtain⟨x0,x1,x2,-⟩:=zc hsf;have lt4:=hs4.lt;have lt0:=hsf.lt;by_cases htv:tv.length=NL
      .
       have hc1:=hc1.below HB7.o hc1.lt;have hc2:=hc2.below HB7.o hc2.lt;obtain⟨HC1,HC2,HT1,HT2,HUL,HUS⟩:=Ie hc1 hc2 ht1 ht2 hul hus;have ltg1:=hc1.lt;have ltg2:=hc2.lt;obtain⟨HPA,HPB4,HX0,HX1,HX2,HVL⟩:=Ie s0 s1 x0 x1 x2 htv;rw[htv];clear hc1 hc2 ht1 ht2 hul hus hs4 hsf htv;obtain⟨gS,hgS⟩:=nm w7.heap.size;obtain⟨X,hX⟩:=nm (w7.alloc (.cells #[.bool false,.slice none 0 0,.bool false,.slice none 0 0] 116));have HBX:=Ua hX;have HRX:O (RatVal X gS 0):=Hi (by rw[<-hX,<-hgS];exact Qa0 w7);obtain⟨HXE,HGS⟩:=Ia hX hgS;have hgw:w7.heap.size<=gS:=by omega
       obtain⟨y,hyE⟩:∃y:Vec,y=fun i=>(us.map (·.q)).getD i 0:=⟨_,rfl⟩
       have HY:O (∀(i:Nat) (t:FE),us[i]?=some t->y i=t.q):=Hi (fun i t hi=>by rw[hyE];simp[List.getD,hi]);obtain⟨HSOL,HFS⟩:=Ia ((HUS.o y).2 HY.o) (Qvv HFP.o HFV.o HUL.o HUS.o);obtain⟨NM,hNM⟩:=nm (2*kC b+4);have HNM:=Hi hNM;have hNM30:NM<=500000000:=by have:=HBN.o;simp only[kC] at hNM;omega
       obtain⟨KS,hKS⟩:∃KS,KS=33554445:=⟨_,rfl⟩;have HKS:=Hi hKS;obtain⟨ZZ,hZZ⟩:=nm (4*NM+1+KS+2);have hZ30:ZZ<=2040000000:=by omega
       have hZ31:4*NM+1+KS+2<=ZZ:=by omega
       obtain⟨v,hvE⟩:=nm (qv tv);have HVE:=Hi hvE;clear hX hgS hyE hNM hZZ hvE hKS;go_wp2_with fail;rw[HXE.o,HGS.o];clear s0 s1 x0 x1 x2 p0;go_loopw [165] (fun iv wr=>∃k:Nat,k<=bs.length/\iv=.int .i64 k/\RatVal wr gS (barSum vb y v k)/\Fits (barSum vb y v k) (k*ZZ+1)/\Below w7.heap.size w7 wr) (fun iv _=>bs.length - (intOf iv).toNat)
       case atStart=>exact⟨0,Nat.zero_le _,rfl,HRX.o,Fits.zero.mono (by omega),HBX.o⟩
       case round=>
        obtain⟨k,hk,rfl,hrv,hft,hbr⟩:=hrel;obtain⟨HRV,HFT,HBR⟩:=Ib hrv hft hbr;clear hrv hft hbr;by_cases hkb:k<bs.length
        .
         obtain⟨bb,hbj⟩:∃bb,bs[k]?=some bb:=⟨bs[k],gE hkb⟩;obtain⟨pp,hpj⟩:∃pp,vb[k]?=some pp:=⟨vb[k]'(by have:=HFV.o.lb;omega),gE _⟩;obtain⟨t,htk⟩:∃t,us[k]?=some t:=⟨us[k]'(by have:=HUL.o;omega),gE _⟩;obtain⟨s,hsk⟩:∃s,xt[k]?=some s:=⟨xt[k]'(by have:=HT1.o.1;have:=HUL.o;rw[List.length_take] at *;omega),gE _⟩;have hqt:=Qvh HT1.o hkb htk hsk;have hsz:s.size<=NM:=by
          have:=QText.len hqt (HFS.o t (mO htk));have:=HNM.o;omega
         obtain⟨qT,hqT⟩:=nm t.q;rw[hqT] at hqt;have HQT:=Hi (QText.back hqt);obtain⟨st,hst⟩:=nm (stretch pp v);obtain⟨q,hq⟩:=nm (barSum vb y v k);have HQN:O (barSum vb y v (k+1)=q+qT*st):=Hi (by rw[Qvj hpj,hq,HY.o k t htk,hqT,hst]);rw[hq] at HRV HFT;obtain⟨KC,hKC⟩:=nm (k*ZZ);have hKB:KC<=24*ZZ:=by rw[<-hKC];exact Nat.mul_le_mul_right _ (by omega)
         have HLE:O (KC+1+(4*NM+1+KS)+1<=KC+ZZ+1):=Hi (by omega);have HKN:O ((k+1)*ZZ=KC+ZZ):=Hi (by rw[Nat.succ_mul,hKC]);rw[hKC] at HFT;have hbw:Below w.heap.size w wr:=HB7w.o.trans (HBR.o.mono HB7w.o.size);have hbv:=HFV.o.vb k bb pp hbj hpj;have HST:O (∀(u:World) (L:List RT),RBag wr u L->Calls prog 58 #[.agg #[.slice a1 js.length c1,.slice a2 bs.length c2,.slice a3 hs.length c3],.int .i64 k,.slice av NL cv] u (RNew wr L st KS)):=Hi (fun u L hu=>by
          have h1:=Qgn a1 a2 a3 av c1 c2 c3 cv k 4194305 js bs hs bb pp tv u hu.glob ((HF.o.below hbw).below hu.base) hbj hbv nj nb ((HPR.o.below HBR.o).below hu.base) (HVL.o.trans HNL.o) HMV.o.k (by decide);rw[HVL.o,HVE.o,hst] at h1;refine h1.mono ?_;rintro e w' ⟨g,rfl,hbag⟩
          exact⟨g,rfl,(hu.below hbag.base).put (hbag.ts _ (List.Mem.head _)).1 ((show Fits st (4*4194305+16777225) from (hbag.ts _ (List.Mem.head _)).2.1).mono (by have:=HKS.o;omega)) (by have:=HKS.o;omega)⟩)
         obtain⟨HR,HD1⟩:=Ia ((RBag.start (HG.o.below hbw).most).put HRV.o HFT.o (by omega)) (Qlh HC1.o hsk);have q1:((k:Int)<(bs.length:Int)):=by omega
         clear hbj hpj htk hsk hqt hqT hst hq hKC hbw hbv;have HB:=Hi (HBR.o.trans (HR.o.base.mono HBR.o.size));have d0:=ce HB.o lt4 HPA.o;have d1:=ce HB.o ltg1 HD1.o;obtain⟨d2,d3,d4⟩:=Jb HB.o lt0 HX0.o HX1.o HX2.o;go_wp2_with fail;go_region_held3 (fun v=>v.cell? ⟨G4,0,none⟩=some (.slice (some ⟨g1,0,none⟩) bs.length bs.length)/\v.cell? ⟨g1,k,none⟩=some (.string s)/\v.cell? ⟨B0,0,none⟩=some (.slice a1 js.length c1)/\v.cell? ⟨B0,1,none⟩=some (.slice a2 bs.length c2)/\v.cell? ⟨B0,2,none⟩=some (.slice a3 hs.length c3)) ((first|(simp [*];done)|go_keep)) (first
          |(
           go_at_call 23;apply cM;apply RBag.of (w0:=wr) (n:=NM);(focus(first|exact HR.o|exact HR.o.drew));omega;omega;rintro e wn ⟨q',hq',bo,rfl,hbag⟩;obtain rfl:=HQT.o.inj hq';clear HR HB d0 d1 d2 d3 d4;have HR:=Hi hbag;clear hq' hbag;have HB:=Hi (HBR.o.trans (HR.o.base.mono HBR.o.size));have d0:=ce HB.o lt4 HPA.o;have d1:=ce HB.o ltg1 HD1.o;obtain⟨d2,d3,d4⟩:=Jb HB.o lt0 HX0.o HX1.o HX2.o
           skip)
          |(
           go_at_call 58;apply cM;apply HST.o;(focus(first|exact HR.o|exact HR.o.drew));rintro e wn ⟨bt,rfl,hbag⟩;clear HR HB d0 d1 d2 d3 d4;have HR:=Hi hbag;clear hbag;have HB:=Hi (HBR.o.trans (HR.o.base.mono HBR.o.size));have d0:=ce HB.o lt4 HPA.o;have d1:=ce HB.o ltg1 HD1.o;obtain⟨d2,d3,d4⟩:=Jb HB.o lt0 HX0.o HX1.o HX2.o
           skip)
          |(
           go_at_call 22;apply cM;apply RBag.mul (w0:=wr);(first|exact HR.o|exact HR.o.drew);(focus(repeat(first|exact mH|apply mT)));(focus(repeat(first|exact mH|apply mT)));omega;rintro e wn ⟨bm,rfl,hbag⟩;clear HR HB d0 d1 d2 d3 d4;have HR:=Hi hbag;clear hbag;have HB:=Hi (HBR.o.trans (HR.o.base.mono HBR.o.size));have d0:=ce HB.o lt4 HPA.o;have d1:=ce HB.o ltg1 HD1.o;obtain⟨d2,d3,d4⟩:=Jb HB.o lt0 HX0.o HX1.o HX2.o
           skip)
          |(
           go_at_call 59;have hS:∀u,RatVal u gS q->RatVal u bm (qT*st)->Calls prog 59 #[.pointer (some ⟨gS,0,none⟩),.pointer (some ⟨gS,0,none⟩),.pointer (some ⟨bm,0,none⟩)] u (RatOk u gS (q+qT*st)):=fun u h1 h2=>Qd2 gS gS bm (KC+1) (4*NM+1+KS) q (qT*st) u h1.room h1 h2 HFT.o (HR.o.ts (bm,qT*st,4*NM+1+KS) (by(repeat(first|exact mH|apply mT)))).2.1 (by omega)
           apply cM;apply hS;(first|exact(HR.o.ts (gS,q,KC+1) (by(repeat(first|exact mH|apply mT)))).1|exact(HR.o.drew.ts (gS,q,KC+1) (by(repeat(first|exact mH|apply mT)))).1);(first|exact(HR.o.ts (bm,qT*st,4*NM+1+KS) (by(repeat(first|exact mH|apply mT)))).1|exact(HR.o.drew.ts (bm,qT*st,4*NM+1+KS) (by(repeat(first|exact mH|apply mT)))).1);rintro e w8 hok;have HRN:=Hi (RatOk.val hok);obtain⟨rfl,hon,_⟩:=hok;obtain⟨HB8,HFN⟩:=Ia ((by first|exact HB.o|exact HB.o.drew:Below w7.heap.size w7 _).trans (hon.below hgw (by first|exact HB.o.size|exact HB.o.drew.size))) (HFT.o.add (HR.o.ts (bm,qT*st,4*NM+1+KS) (by(repeat(first|exact mH|apply mT)))).2.1);clear HB hon d0 d1 d2 d3 d4 hS;have HB:=HB8;have d0:=ce HB.o lt4 HPA.o
           have d1:=ce HB.o ltg1 HD1.o;obtain⟨d2,d3,d4⟩:=Jb HB.o lt0 HX0.o HX1.o HX2.o
           skip)
          |fail)
         all_goals
          go_wp2;go_roundw
          case rel=>
           refine⟨k+1,by omega,by go_num,?_,?_,(by first|exact HB.o|exact HB.o.drew)⟩
           . rw[HQN.o]
             first|exact HRN.o|exact HRN.o.below bR.drew
           . rw[HQN.o,HKN.o]
             exact HFN.o.mono HLE.o
          case measure=>simp[intOf];omega
        .
         obtain rfl:k=bs.length:=by omega
         obtain⟨BS,hBS⟩:=nm (barSum vb y v bs.length);rw[hBS] at HRV HFT;have HBS:=Hi hBS;have x2:=ce HBR.o lt0 HX2.o;clear hBS;obtain⟨wp,hwp⟩:∃wp,wp=wr:=⟨_,rfl⟩;subst hwp;go_wp2_with fail;clear x2;go_loopw [186] (fun iv wr=>∃k:Nat,k<=hs.length/\iv=.int .i64 k/\RatVal wr gS (BS - holdSum bs.length vh y v k)/\Fits (BS - holdSum bs.length vh y v k) ((bs.length+k)*ZZ+1)/\Below w7.heap.size w7 wr) (fun iv _=>hs.length - (intOf iv).toNat)
         case atStart=>
          have e:BS - holdSum bs.length vh y v 0=BS:=by
           simp only[holdSum,sumQ];grind
          exact⟨0,Nat.zero_le _,rfl,by rw[e];exact HRV.o,by rw[e];exact HFT.o,HBR.o⟩
         case round=>
          clear HRV HFT HBR;obtain⟨k,hk,rfl,hrv,hft,hbr⟩:=hrel;obtain⟨HRV,HFT,HBR⟩:=Ib hrv hft hbr;have hbw:Below w.heap.size w wr:=HB7w.o.trans (HBR.o.mono HB7w.o.size);have HBWR:=Hi hbw;clear hrv hft hbr hbw;by_cases hkb:k<hs.length
          .
           obtain⟨hd,hhd⟩:∃hd,hs[k]?=some hd:=⟨hs[k],gE hkb⟩;obtain⟨R,hRk⟩:∃R,vh[k]?=some R:=⟨vh[k]'(by have:=HFV.o.lh;omega),gE _⟩;obtain⟨t,htk⟩:∃t,us[bs.length+k]?=some t:=⟨us[bs.length+k]'(by have:=HUL.o;omega),gE _⟩;obtain⟨s,hsk⟩:∃s,yt[k]?=some s:=⟨yt[k]'(by have:=HT2.o.1;have:=HUL.o;rw[List.length_drop] at *;omega),gE _⟩;have hqt:=Qvi HT2.o htk hsk;have hsz:s.size<=NM:=by
            have:=QText.len hqt (HFS.o t (mO htk));have:=HNM.o;omega
           obtain⟨qT,hqT⟩:=nm t.q;rw[hqT] at hqt;have HQT:=Hi (QText.back hqt);obtain⟨J,hJ,hJn,hJr⟩:=(HFV.o.vh k hd R hhd hRk).ex;obtain⟨WY,hWY⟩:=nm hd.w;have hway:=Qlt (HFF.o.few.2.2.1 k hd hhd);rw[hWY] at hway hJr;obtain⟨hrow,hRn⟩:=Qli hway hJr hJn;have hRL:R<NL:=by have:=HNL.o;omega
           obtain⟨⟨gR,qR,kR⟩,htR⟩:∃tR,tv[R]?=some tR:=⟨tv[R]'(by have:=HVL.o;omega),gE _⟩;obtain⟨vq,vo,rfl,ltv,DV⟩:=HPR.o.at htR;have hvR:v R=qR:=by rw[<-HVE.o];exact qv_at htR
           have hkR:kR<=4194305:=HMV.o.k _ (mO htR);have hvsR:=(HPR.o.below HBR.o).vs _ (mO htR);obtain⟨q,hq⟩:=nm (BS - holdSum bs.length vh y v k);have HQN:O (BS - holdSum bs.length vh y v (k+1)=q - qT*qR):=Hi (by
            rw[Qvk hRk,<-hq,HY.o _ t htk,hqT,hvR]
            grind)
           rw[hq] at HRV HFT;obtain⟨KC,hKC⟩:=nm ((bs.length+k)*ZZ);have hKB:KC<=44*ZZ:=by rw[<-hKC];exact Nat.mul_le_mul_right _ (by omega)
           have hKS2:kR<=KS:=by have:=HKS.o;omega
           have HLE:O (KC+1+(4*NM+1+kR)+1<=KC+ZZ+1):=Hi (by omega);have HKN:O ((bs.length+(k+1))*ZZ=KC+ZZ):=Hi (by rw[<-Nat.add_assoc,Nat.succ_mul,hKC]);rw[hKC] at HFT;obtain⟨fb,off,rfl,hfb,k0,k1,k2⟩:=(HF.o.below HBWR.o).h.hold hhd;rw[hJ] at k0;rw[hWY] at k1;obtain⟨J2,hJ2⟩:∃J2:Nat,2*J=J2:=⟨_,rfl⟩;obtain⟨J3,hJ3⟩:∃J3:Nat,R+1=J3:=⟨_,rfl⟩;have wA:IntKind.i64.wrap (2*(J:Int))=(J2:Int):=by rw[Qac _ (by omega) (by omega)];omega
           have wB:IntKind.i64.wrap ((J2:Int)+WY)=(J3:Int):=by rw[hJ2,hJ3] at hrow;rw[hrow,Qac _ (by omega) (by omega)]
           have wC:IntKind.i64.wrap ((J3:Int) - 1)=(R:Int):=by rw[Qac _ (by omega) (by omega)];omega
           obtain⟨HVR,HDV,HD1⟩:=Ib hvsR DV (Qlh HC2.o hsk);have q1:((k:Int)<(hs.length:Int)):=by omega
           obtain⟨V,hV⟩:=nm (wr.alloc (.cells #[.int .i64 (J:Int),.int .i64 WY,.string hd.q] 71));obtain⟨GH,hGH⟩:=nm wr.heap.size;have hrV:Below wr.heap.size wr V:=by rw[<-hV];exact(Below.refl _ _).alloc lZ _
           have hsV:SB V GH 71 #[.int .i64 (J:Int),.int .i64 WY,.string hd.q]:=by rw[<-hV,<-hGH];exact SB.new wr _ _
           have ltH:=hsV.lt;have hgH:GH≠gS:=fun e=>by have h1:=HRV.o.lt;omega
           obtain⟨HE0,HE1,HBV,HR,HEV,HEG⟩:=Ie (hsV.cell 0) (hsV.cell 1) (HBR.o.trans (hrV.mono HBR.o.size)) (((RBag.start ((HG.o.below HBWR.o).below hrV).most).put (hvsR.1.below hrV) hvsR.2.1 hvsR.2.2).put (HRV.o.below hrV) HFT.o (by omega)) hV hGH;clear hhd hRk htk hsk hqt hqT hJ hJn hJr hWY hway hrow htR DV hvR hvsR hq hKC hJ2 hJ3 hV hGH hrV hsV;go_wp2_with fail;rw[HEV.o,HEG.o];clear k0 k1 k2;have HB:=Hi (HBV.o.trans (HR.o.base.mono HBV.o.size));have d0:=ce HB.o lt4 HPB4.o;have d1:=ce HB.o ltg2 HD1.o;have d2:=ce HB.o ltv HDV.o;obtain⟨e0,e1⟩:=Ja HR.o.base ltH HE0.o HE1.o
           go_region_held3 (fun v=>v.cell? ⟨G4,1,none⟩=some (.slice (some ⟨g2,0,none⟩) hs.length hs.length)/\v.cell? ⟨g2,k,none⟩=some (.string s)/\v.cell? ⟨vq,vo+R,none⟩=some (.pointer (some ⟨gR,0,none⟩))/\v.cell? ⟨GH,0,none⟩=some (.int .i64 (J:Int))/\v.cell? ⟨GH,1,none⟩=some (.int .i64 WY)) ((first|(simp [*];done)|go_keep)) (first
            |(
             go_at_call 23;apply cM;apply RBag.of (w0:=V) (n:=NM);(focus(first|exact HR.o|exact HR.o.drew));omega;omega;rintro e wn ⟨q',hq',bo,rfl,hbag⟩;obtain rfl:=HQT.o.inj hq';clear HR HB d0 d1 d2 e0 e1;have HR:=Hi hbag;clear hq' hbag;have HB:=Hi (HBV.o.trans (HR.o.base.mono HBV.o.size));have d0:=ce HB.o lt4 HPB4.o;have d1:=ce HB.o ltg2 HD1.o;have d2:=ce HB.o ltv HDV.o;obtain⟨e0,e1⟩:=Ja HR.o.base ltH HE0.o HE1.o
             skip)
            |(
             go_at_call 22;apply cM;apply RBag.mul (w0:=V);(first|exact HR.o|exact HR.o.drew);(focus(repeat(first|exact mH|apply mT)));(focus(repeat(first|exact mH|apply mT)));omega;rintro e wn ⟨bm,rfl,hbag⟩;clear HR HB d0 d1 d2 e0 e1;have HR:=Hi hbag;clear hbag;have HB:=Hi (HBV.o.trans (HR.o.base.mono HBV.o.size));have d0:=ce HB.o lt4 HPB4.o;have d1:=ce HB.o ltg2 HD1.o;have d2:=ce HB.o ltv HDV.o;obtain⟨e0,e1⟩:=Ja HR.o.base ltH HE0.o HE1.o
             skip)
            |(
             go_at_call 60;have hS:∀u,RatVal u gS q->RatVal u bm (qT*qR)->Calls prog 60 #[.pointer (some ⟨gS,0,none⟩),.pointer (some ⟨gS,0,none⟩),.pointer (some ⟨bm,0,none⟩)] u (RatOk u gS (q - qT*qR)):=fun u h1 h2=>Qjt gS gS bm (KC+1) (4*NM+1+kR) q (qT*qR) u h1.room h1 h2 HFT.o (HR.o.ts (bm,qT*qR,4*NM+1+kR) (by(repeat(first|exact mH|apply mT)))).2.1 (by omega)
             apply cM;apply hS;(first|exact(HR.o.ts (gS,q,KC+1) (by(repeat(first|exact mH|apply mT)))).1|exact(HR.o.drew.ts (gS,q,KC+1) (by(repeat(first|exact mH|apply mT)))).1);(first|exact(HR.o.ts (bm,qT*qR,4*NM+1+kR) (by(repeat(first|exact mH|apply mT)))).1|exact(HR.o.drew.ts (bm,qT*qR,4*NM+1+kR) (by(repeat(first|exact mH|apply mT)))).1);rintro e w8 hok;have HRN:=Hi (RatOk.val hok);obtain⟨rfl,hon,_⟩:=hok;obtain⟨HB8,HFN⟩:=Ia ((by first|exact HB.o|exact HB.o.drew:Below w7.heap.size w7 _).trans (hon.below hgw (by first|exact HB.o.size|exact HB.o.drew.size))) (HFT.o.sub (HR.o.ts (bm,qT*qR,4*NM+1+kR) (by(repeat(first|exact mH|apply mT)))).2.1)
             have e0:=(World.cell?_of_block (hon.block GH (by have h1:=HR.o.base.size;(first|omega|(simp;omega))) hgH)).trans (by first|exact e0|(simpa using e0));have e1:=(World.cell?_of_block (hon.block GH (by have h1:=HR.o.base.size;(first|omega|(simp;omega))) hgH)).trans (by first|exact e1|(simpa using e1));clear HB hon d0 d1 d2 hS;have HB:=HB8;have d0:=ce HB.o lt4 HPB4.o;have d1:=ce HB.o ltg2 HD1.o;have d2:=ce HB.o ltv HDV.o
             skip)
            |fail)
           all_goals
            go_wp2;go_roundw
            case rel=>
             refine⟨k+1,by omega,by go_num,?_,?_,(by first|exact HB.o|exact HB.o.drew)⟩
             . rw[HQN.o]
               first|exact HRN.o|exact HRN.o.below bR.drew
             . rw[HQN.o,HKN.o]
               exact HFN.o.mono HLE.o
            case measure=>simp[intOf];omega
          .
           obtain rfl:k=hs.length:=by omega
           have HDO:=Hi (Qis (some ⟨gL,0,none⟩) av NL cv (kL 20) 4194305 ts tv wr ((HPZ.o.below HB7.o).below HBR.o).row (HPR.o.below HBR.o) (HVL.o.trans HTL.o.symm) (by rw[HTL.o,HNL.o];omega) (fun t ht=>by
            obtain⟨i,hi⟩:=List.mem_iff_getElem?.1 ht
            exact(HTQ.o i t hi).2) HMV.o.k (by decide))
           rw[HTL.o,HVE.o] at HDO;have HEQ:O (BS - holdSum bs.length vh y v hs.length=dot NL (qv ts) v):=Hi (by
            rw[Qvl (fun i t hi=>(HTQ.o i t hi).1) HTL.o v,<-HBS.o,HNL.o];exact Qv0 HFV.o (fun p hp=>by
             obtain⟨i,hi⟩:=List.mem_iff_getElem?.1 hp;obtain⟨h1,h2,_⟩:=HPT.o p hp;obtain⟨bb,hbb⟩:∃bb,bs[i]?=some bb:=⟨bs[i]'(by have:=(gZ hi).1;have:=HFV.o.lb;omega),gE _⟩
             exact⟨h1,h2,(HFV.o.vb i bb p hbb hi).ne⟩) (fun r hr=>by
             obtain⟨i,hi⟩:=List.mem_iff_getElem?.1 hr;obtain⟨hd,hhd⟩:∃hd,hs[i]?=some hd:=⟨hs[i]'(by have:=(gZ hi).1;have:=HFV.o.lh;omega),gE _⟩;obtain⟨J,_,hJn,hJr⟩:=(HFV.o.vh i hd r hhd hi).ex
             exact(Qli (Qlt (HFF.o.few.2.2.1 i hd hhd)) hJr hJn).2) HSOL.o v)
           have hKB:(bs.length+hs.length)*ZZ<=44*ZZ:=Nat.mul_le_mul_right _ (by omega);have hKD:NL*(kL 20+4194305+2)<=20*(kL 20+4194305+2):=Nat.mul_le_mul_right _ (by have:=HNL.o;omega);obtain⟨HKB,HKD⟩:=Ia hKB hKD;clear hKB hKD;go_wp2_with fail;go_fit HDO.o;rintro e w8 ⟨g8,rfl,hrv,hfd,_,hb8⟩;obtain⟨HCM,HB8⟩:=Ia (Qgc gS g8 _ _ _ _ w8 (HRV.o.below hb8) hrv HFT.o hfd (by have h1:=HKB.o;have h2:=HKD.o;simp only[kL] at h2 ⊢;omega)) (HBWR.o.trans (hb8.mono HBWR.o.size));clear hrv hfd hb8 HDO;go_wp2_with fail;go_fit HCM.o;rintro e w9 ⟨⟨cc,rfl,hcc⟩,hb9⟩;obtain rfl:=hcc.2 HEQ.o;have HB9:=Hi (HB8.o.trans (hb9.mono HB8.o.size));clear hcc hb9;go_wp2;go_ret;exact⟨by simp,HB9.o⟩
      .
       have q11:(((tv.length:Nat):Int) != ((NL:Nat):Int))=true:=by
        rw[bne_iff_ne];omega
       clear hc1 hc2 ht1 ht2 hul hus hs4 hsf;go_wp2;go_ret;exact⟨rfl,HB7w.o⟩
 .
  have e0:(c != 0)=true:=by simpa using hc
  go_wp2;rw[HU.o];go_ret;exact⟨rfl,HBU.o⟩
end Go.Proofs.YtjgofdclmcpopaaGreatDoor
