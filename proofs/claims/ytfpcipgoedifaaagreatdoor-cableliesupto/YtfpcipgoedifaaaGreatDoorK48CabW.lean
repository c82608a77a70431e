/- The law CableLies, walked. -/
import Derived.Test.YtfpcipgoedifaaaGreatDoorK47CabX
namespace Go.Proofs.YtfpcipgoedifaaaGreatDoor
open Go.RowKit
set_option linter.unusedVariables false
set_option linter.unusedSimpArgs false
theorem Qno{q:Rat}(h:0<q):sgn3 q.num=1:=by
 rcases Qeu (q:=q) (by grind) with h1|h1
 · exact h1.1
 · exfalso
   grind
theorem Qnp{q:Rat}(h:¬0<q):¬0<sgn3 q.num:=by
 by_cases h0:q=0
 · subst h0
   decide
 ·
  rcases Qeu h0 with h1|h1
  · exact absurd h1.2 h
  · rw[h1.1]
    decide
theorem Qnq{q:Vec}{k:Nat}(h:∀i,i<k->0<q i)(hk:0<q k):∀i,i<k+1->0<q i:=fun i hi=>by
 by_cases e:i=k
 · exact e ▸ hk
 · exact h i (by omega)
theorem Qnr(w:World)(x y:Value):(Instr.field 31 (.agg #[x,y]) 0).run Tryz.prog w=.ok x w:=by kernel_rfl
theorem Qhi{q:Rat}(h:0<=q):0<=sgn3 q.num:=by
 have:=Rat.num_nonneg.2 h;unfold sgn3
 split
 · omega
 · split<;>omega
theorem Qns{P:Program}{x y:Code}{Q:Exit->Act->World->Prop}{K:Act->World->Prop}(h:∀a w,Code.wp P (x.seq y) Q a w->K a w):∃R:Act->World->Prop,(∀a w,Code.wp P y Q a w->R a w)/\∀a w,Code.wp P x (Exit.then R Q) a w->K a w:=
 ⟨fun a w=>Code.wp P y Q a w,fun _ _ h=>h,fun a w h'=>h a w (wp_seq h')⟩
set_option maxRecDepth 100000 in
set_option maxHeartbeats 40000000 in
theorem Qnt(a1 a2 a3 aq ap:Option Addr)(c1 c2 c3 cq cp n:Nat)(js:List S2)(bs:List B6)(hs:List H3)(qs:List ByteArray)(ps:List S2)(q px py:Vec)(w:World)(hg:Glob w)(hf:FrRow w a1 a2 a3 c1 c2 c3 js bs hs)(hz:FrSized js bs hs)(hqr:CRow w aq (textsV qs))(hqt:QsT qs q)(hpr:ARow S2.cells w ap cp ps)(hpt:PlaT ps px py 4194305)(n2:bs.length<=1048576)(n3:hs.length<=1048576)(hll:qs.length<=1048576)(hml:ps.length<=1048576)(hn:js.length=n)(n1:n<=1048576)(hsz:(qs.map (·.size)).sum+jW js<=1048576):
 Calls Tryz.prog 3 #[.agg #[.slice a1 n c1,.slice a2 bs.length c2,.slice a3 hs.length c3],.slice aq qs.length cq,.slice ap ps.length cp] w fun e w'=>e=.returned (.bool true)/\Below w.heap.size w w':=by
 subst hn;have HG:=Hi hg;have HF:=Hi hf;have HZ:=Hi hz;have HQ:=Hi hqr;have HP:=Hi hpr;have HQT:=Hi hqt;have HPT:=Hi hpt;have HN:=Hi (And.intro n2 (And.intro n3 (And.intro hll hml)));have HSZ:=Hi hsz;obtain⟨BF,hBF⟩:=nm w.heap.size;obtain⟨V,hV⟩:=nm (w.alloc (.cells #[.slice a1 js.length c1,.slice a2 bs.length c2,.slice a3 hs.length c3] 26));have hbv:Below w.heap.size w V:=by rw[<-hV];exact(Below.refl _ _).alloc lZ _
 have HS0:Hid (SB V BF 26 #[.slice a1 js.length c1,.slice a2 bs.length c2,.slice a3 hs.length c3]):=Hi (by rw[<-hV,<-hBF];exact SB.new w _ _);have HHG:=Hi (Qnf V (hg.below hbv));have HBV:=Hi hbv;have HVE:=Hi hV;have HBF:=Hi hBF;clear hg hf hz hqr hpr hqt hpt hbv hV hBF n2 n3 hll hml hsz;go_enter Tryz.func3,Tryz.ntmps3;go_wp2_with fail;rw[HVE.out,HBF.out];go_fit HHG.out;rintro _ w1 ⟨rfl,hb1⟩;have HB1:=Hi (HBV.out.trans (hb1.mono HBV.out.size));have HS1:=Hi (HS0.out.below hb1 HS0.out.lt);have HCF:=Hi (Qsl a1 a2 a3 c1 c2 c3 js bs hs w1 (HG.out.below HB1.out) (HF.out.below HB1.out) HZ.out);have x0:=HS1.out.cell 0;have x1:=HS1.out.cell 1;have x2:=HS1.out.cell 2;simp only[List.getElem?_toArray,List.getElem?_cons_zero,List.getElem?_cons_succ] at x0 x1 x2;clear hb1 HHG HS0;go_wp2_with fail;go_fit HCF.out;rintro _ w2 ⟨c,at_,rfl,hff,hb2⟩;have hfl:=fun w=>Qnr w (.int .i64 c) (.int .i64 at_)
 have HB2:=Hi (HB1.out.trans (hb2.mono HB1.out.size));have HS2:=Hi (HS1.out.below hb2 HS1.out.lt);have y1:=HS2.out.cell 1;simp only[List.getElem?_toArray,List.getElem?_cons_zero,List.getElem?_cons_succ] at y1;clear x0 x1 x2 hb2 HCF HS1;by_cases hc:c=0
 ·
  subst hc;obtain rfl:at_=0:=by
   obtain⟨hm,hb,hh,_⟩:=hff.few;exact(hff.inj (show FrameFault js bs hs 0 0 from .inr (.inr ⟨hm,hb,.inr ⟨hh,rfl,rfl⟩⟩))).2
  have HFF:=Hi hff;clear hff;by_cases hl:qs.length=bs.length
  ·
   have e1:((qs.length:Int)=(bs.length:Int)):=by omega
   have HL:=Hi hl;clear hl;obtain⟨xv,yv,A,B,hj,hw,hcv⟩:=CabV.ex HZ.out HFF.out;have HCV:=Hi hcv;have HRO:=Hi (Qsd aq cq qs.length 4194305 qs q w2 (HG.out.below HB2.out) (HQ.out.below HB2.out) (fun i s hi=>⟨(HQT.out i s hi).1,Nat.le_trans (HQT.out i s hi).2 (by decide),QOf.fits (n:=1048576) (HQT.out i s hi).1 (by rw[Array.length_toList];exact(HQT.out i s hi).2)⟩) (by decide) rfl (by have:=hcv.n2;have:=HL.out;omega));clear hcv;go_wp2_with fail;go_fit HRO.out;rintro _ w3 ⟨v,ts,rfl,hpg,htl,htq,hb3⟩;obtain⟨ar,cr,rfl,htr⟩:=hpg.row;have htm:ts.length=bs.length:=by rw[htl];exact HL.out
   rw[htm];obtain⟨PB,hPB⟩:=nm w3.heap.size;obtain⟨w4,hU⟩:∃U,w3.alloc (.cells #[.slice ar bs.length cr] 33)=U:=⟨_,rfl⟩;have hb4:Below w3.heap.size w3 w4:=by rw[<-hU];exact(Below.refl _ _).alloc lZ _
   have HP4:Hid (SB w4 PB 33 #[.slice ar bs.length cr]):=Hi (by rw[<-hU,<-hPB];exact SB.new w3 _ _);have HB4:=Hi (HB2.out.trans ((hb3.trans (hb4.mono hb3.size)).mono HB2.out.size));have HS4:=Hi ((HS2.out.below hb3 HS2.out.lt).below hb4 (HS2.out.below hb3 HS2.out.lt).lt);have HTR:=Hi (htr.below hb4);have HTQ:=Hi htq;have HTM:=Hi htm;have z0:=HP4.out.cell 0;simp only[List.getElem?_toArray,List.getElem?_cons_zero] at z0;rw[<-hU,<-hPB] at z0;have HUE:=Hi hU;have HPE:=Hi hPB;clear hpg htl htq hb3 hU hPB hb4 htr htm HRO HS2 y1;go_wp2_with fail;rw[HUE.out,HPE.out];clear z0;go_loopw [8,47] (fun av iv wr=>∃k:Nat,k<=bs.length/\iv=.int .i64 k/\av=.bool (decide (∀i,i<k->0<q i))/\Below w4.heap.size w4 wr) (fun _ iv _=>bs.length - (intOf iv).toNat)
   case atStart=>exact⟨0,Nat.zero_le _,rfl,by simp,Below.refl _ _⟩
   case round=>
    obtain⟨k,hk,rfl,rfl,hbw⟩:=hrel;by_cases hkx:k<bs.length
    ·
     obtain⟨r,hr⟩:∃r,ts[k]?=some r:=⟨ts[k]'(by have:=HTM.out;omega),gE _⟩;have hrq:=HTQ.out k r hr;have hrr:=HTR.out.vs r (mO hr);obtain⟨gr,oq,rfl,hgl,hp1⟩:=HTR.out.at hr;have d0:=ce hbw hgl hp1;have HRF:Hid (RF (q k) 4194305 (.pointer (some ⟨r.1,0,none⟩)) wr):=Hi ⟨r.1,rfl,hrq.1 ▸ hrr.1.below hbw,hrq.1 ▸ hrq.2 ▸ hrr.2.1,by decide⟩;have q1:((k:Int)<(bs.length:Int)):=by omega
     have HBW:=Hi hbw;have hmm:bs.length<=24:=HCV.out.n2;clear hrq hrr hgl hp1 hr hbw;by_cases ha:∀i,i<k->0<q i
     ·
      rw[decide_eq_true ha];have HA:=Hi ha;clear ha;go_wp2_with fail;refine Makes.use HRF.out.sign ?_;rintro _ w5 hb5 rfl;have HB5:=Hi (HBW.out.trans (hb5.mono HBW.out.size));clear d0 hb5;by_cases hp:0<q k
      ·
       have e3:sgn3 (q k).num=1:=Qno hp;have HPK:=Hi hp;clear hp;rw[e3];go_wp2;go_roundw
       case rel=>exact⟨k+1,by omega,by go_num,by rw[decide_eq_true (Qnq HA.out HPK.out)],HB5.out⟩
       case measure=>simp[intOf];omega
      ·
       have e3:¬0<sgn3 (q k).num:=Qnp hp;have HPK:=Hi hp;clear hp;obtain⟨sg,hsg⟩:=nm (sgn3 (q k).num);rw[hsg] at e3 ⊢;clear hsg;go_wp2;go_roundw
       case rel=>exact⟨k+1,by omega,by go_num,(by rw[decide_eq_false (fun h:∀i,i<k+1->0<q i=>HPK.out (h k (by omega)))];simp;omega),HB5.out⟩
       case measure=>simp[intOf];omega
     ·
      rw[decide_eq_false ha];have HA:=Hi ha;clear ha;go_wp2;go_roundw
      case rel=>exact⟨k+1,by omega,by go_num,by rw[decide_eq_false (fun h=>HA.out (fun i hi=>h i (by omega)))],HBW.out⟩
      case measure=>simp[intOf];omega
    ·
     obtain rfl:k=bs.length:=by omega
     have hfx:=HS4.out.below hbw HS4.out.lt;obtain⟨x0,x1,x2,-⟩:=zc hfx;have HBW:=Hi hbw;clear hfx hbw;have HSH:Hid (Calls Tryz.prog 8 #[.agg #[.slice a1 js.length c1,.slice a2 bs.length c2,.slice a3 hs.length c3],.slice aq qs.length cq,.slice none 0 0] wr (ShSays wr js.length 8400000 (Cab.barM bs.length q A B) (cutV xv js.length) (ldK (fun _=>0) (fun _=>0) 0) (hdK js.length hj hw 0 hs.length) (cutV yv js.length) (ldK (fun _=>0) (fun _=>0) 0) (hdK js.length hj hw 1 hs.length))):=Hi (by
      obtain⟨⟨P,hP0,hPe,hPF,hPS⟩,_⟩:=Qhk (n:=js.length) (e:=8400000) HCV.out HQT.out HL.out HSZ.out rfl lZ;obtain⟨f1,f2⟩:=HCV.out.cutFits (J:=kC 8400000) (by decide);have hb:=HB4.out.trans (HBW.out.mono HB4.out.size);rw[HL.out]
      exact Qhe a1 a2 a3 aq none c1 c2 c3 cq 0 P 8400000 js.length js bs hs qs [] xv yv q (fun _=>0) (fun _=>0) A B (fun _=>0) hj hw wr (HG.out.below hb) (HF.out.below hb) HZ.out HFF.out HCV.out (HQ.out.below hb) HL.out HQT.out ⟨Nat.le_refl _,⟨fun j u hj=>by cases hj⟩⟩ (fun k l hk=>by cases hk) (Nat.zero_le _) rfl hP0 hPe hPF (by decide) (by decide) (hPS _ _ _ (.inl rfl) (fun _=>rfl)) (hPS _ _ _ (.inr rfl) (fun _=>rfl)) f1 f2)
     go_wp2_with fail;rename_i K1 hK1 K2 hK2;obtain⟨K0,hK0,hK1'⟩:=Qns hK1;clear hK1;have hK1:=hK1';clear hK1';go_fit HSH.out;intro en w5 hsh;obtain⟨sa,sl,sc,c,wy,rfl,hone,hb5⟩:=hsh.one (by decide);obtain⟨S,hS⟩:=nm w5.heap.size;obtain⟨U5,hU5⟩:∃U,(w5.alloc (.cells #[.slice sa sl sc] 22)).alloc (.cells #[.int .i64 c,.int .i64 wy] 31)=U:=⟨_,rfl⟩;have hbu:Below w5.heap.size w5 U5:=by rw[<-hU5];exact Below.new2 w5 _ _
     have hss:SB U5 S 22 #[.slice sa sl sc]:=by rw[<-hU5,<-hS];exact(SB.new w5 _ _).alloc _
     have hsf:SB U5 (S+1) 31 #[.int .i64 c,.int .i64 wy]:=by rw[<-hU5,<-hS];exact SB.new2 w5 _ _ _ _
     have HB5:=Hi (HBW.out.trans ((hb5.trans (hbu.mono hb5.size)).mono HBW.out.size));have z0:=hsf.cell 0;simp only[List.getElem?_toArray,List.getElem?_cons_zero,List.getElem?_cons_succ] at z0;rw[<-hU5,<-hS] at z0;have HONE:Hid (c=0->ShOne U5 js.length 8400000 (Cab.barM bs.length q A B) (cutV xv js.length) (ldK (fun _=>0) (fun _=>0) 0) (hdK js.length hj hw 0 hs.length) (cutV yv js.length) (ldK (fun _=>0) (fun _=>0) 0) (hdK js.length hj hw 1 hs.length) sa sl sc):=Hi fun h0=>by
      obtain⟨e1,e2,ss,Z,Z',k1,k2,k3,k4,k5⟩:=hone h0;exact⟨e1,e2,ss,Z,Z',k1,k2.below hbu,k3,k4,k5⟩
     have HSS:=Hi hss;have HSF:=Hi hsf;have HU5:=Hi hU5;have HS:=Hi hS;clear hsh hone hb5 x0 x1 x2 HSH hbu hss hsf hU5 hS
     have HTOT:=Hi (show ∀(X:World) (a:Option Addr) (c:Nat) (zs:List S2) (x y:Vec),Below w4.heap.size w4 X->ARow S2.cells w a c zs->zs.length=js.length->PlaT zs x y 4194305->Calls Tryz.prog 13 #[.slice a js.length c,.pointer (some ⟨BF,0,none⟩),.pointer (some ⟨PB,0,none⟩)] X (Makes X (RF (dot bs.length q (sq2 x y A B)) (24*(9*4194305+7)+1))) from fun X a c zs x y hb hr hl hp=>Qni BF PB js.length 4194305 c2 c cr a2 a ar (.slice a1 js.length c1) (.slice a3 hs.length c3) bs zs ts q x y A B X (HG.out.below (HB4.out.trans (hb.mono HB4.out.size))) (HS4.out.below hb HS4.out.lt) (HP4.out.below hb HP4.out.lt) (HF.out.b.below (HB4.out.trans (hb.mono HB4.out.size))) (hr.below (HB4.out.trans (hb.mono HB4.out.size))) (HTR.out.below hb) HTM.out HTQ.out hl hp HCV.out.e (by decide) (by decide) HCV.out.n2 (by have:=HCV.out.n1;omega))
     have HREST:=Hi (show ∀(s0 s4 s5 s6 s8 s9 s10 s11 s12 s13 s14 s15 s16 s17 s18 s19 s20 s21 s22 s23 s24 s25 s26 s27 s28 s29 s30 s31 s32 s33 s34 s35 s36 s37 s38 s39 s40 s41 s42 s43 s44 s45 s46 s47 s48 s49 s50 s51 s52 s53 s54 s55 s56 s57 s58 s59 s60 s61 s62 s63 s64 s65 s66 s67 s68 s69 s70 s71 s72 s73 s74 s75 s76 s77 s78 s79 s80 s81 s82 s83 s84 s85 s86 s87 s88 s89 s90 s91 s92 s93 s94 s95 s96 s97 s98 s99 s100 s101 s102 s103 s104 s105 s106 s107 s108 s109 s110 s111 s112 s113 s114 s115 s116 s117 s118 s119 s120 s121 s122 s123 s124 s125 s126 s127 s128 s129 s130 s131 s132 s133 s134 s135 s136 s137 s138 s139 s140 s141 s142 s143 s144 s145 s146 s147 s148 s149 s150 s151 s152 s153 s154 s155 s156 s157 s158 s159 s160 s161 s162 s163 s164 s165 s166 s167 s168 s169 s170 s171 s172 s173 s174 s175 s176 s177 s178 s179 s180 s181 s182 s183 s184 s185 s186 s187 s188 s189 s190 s191 s192 s193 s194 s195:Value) (wc:World),Below U5.heap.size U5 wc->K0 ⟨#[s0,.slice aq qs.length cq,.slice ap ps.length cp,.pointer (some ⟨BF,0,none⟩),s4,s5,s6,.pointer (some ⟨PB,0,none⟩),s8,s9,s10,s11,s12,s13,s14,s15,s16,s17,s18,s19,s20,s21,s22,s23,s24,s25,s26,s27,s28,s29,s30,s31,s32,s33,s34,s35,s36,s37,s38,s39,s40,s41,s42,s43,s44,s45,s46,s47,s48,s49,s50,s51,s52,s53,s54,s55,s56,s57,s58,s59,s60,s61,s62,s63,s64,s65,s66,s67,s68,s69,s70,s71,s72,s73,s74,s75,s76,s77,s78,s79,s80,s81,s82,s83,s84,s85,s86,s87,s88,s89,s90,s91,s92,s93,s94,s95,s96,s97,s98,s99,s100,s101,s102,s103,s104,s105,s106,s107,s108,s109,s110,s111,s112,s113,s114,s115,s116,s117,s118,s119,s120,s121,s122,s123,s124,s125,s126,s127,s128,s129,s130,s131,s132,s133,s134,s135,s136,s137,s138,s139,s140,s141,s142,s143,s144,s145,s146,s147,s148,s149,s150,s151,s152,s153,s154,s155,s156,s157,s158,s159,s160,s161,s162,s163,s164,s165,s166,s167,s168,s169,s170,s171,s172,s173,s174,s175,s176,s177,s178,s179,s180,s181,s182,s183,s184,s185,s186,s187,s188,s189,s190,s191,s192,s193,s194,s195],[]⟩ wc from by as_aux_lemma=>
      iterate 192 intro _
      intro wc hbc;have HBC:=Hi (HB5.out.trans (hbc.mono HB5.out.size));have HBA:=Hi (HB4.out.trans (HBC.out.mono HB4.out.size));have hfx:=HS4.out.below HBC.out HS4.out.lt;obtain⟨x0,x1,x2,-⟩:=zc hfx;have HFI:Hid (Calls Tryz.prog 12 #[.agg #[.slice a1 js.length c1,.slice a2 bs.length c2,.slice a3 hs.length c3],.slice aq qs.length cq] wc fun e w'=>(∃(ev:Bool) (p m:Nat),e=.returned (.tuple #[.bool ev,.int .i64 p,.int .i64 m,.agg #[.int .i64 0,.int .i64 0]])/\(ev=true↔EvAll js.length js.length (Cab.barM bs.length q A B) xv yv)/\SgnSays js.length (Cab.barM bs.length q A B) p m)/\Below wc.heap.size wc w'):=Hi (by
       obtain⟨_,P,hP0,hPe,hPq⟩:=Qhk (n:=js.length) (e:=8400000) HCV.out HQT.out HL.out HSZ.out rfl lZ;rw[HL.out]
       exact Qhb a1 a2 a3 aq c1 c2 c3 cq P 8400000 js bs hs qs xv yv q A B hj hw wc (HG.out.below HBA.out) (HF.out.below HBA.out) HZ.out HFF.out HCV.out (HQ.out.below HBA.out) HL.out HQT.out hP0 hPe hPq (by decide))
      clear hfx hbc;refine hK0 _ _ ?_;go_wp2_with fail;go_fit HFI.out;rintro _ w6 ⟨⟨ev,p,m,rfl,hev,hsg⟩,hb6⟩;obtain⟨M,hM⟩:=nm w6.heap.size;obtain⟨U6,hU6⟩:∃U,w6.alloc (.cells #[.int .i64 0,.int .i64 0] 31)=U:=⟨_,rfl⟩;have hbu:Below w6.heap.size w6 U6:=by rw[<-hU6];exact(Below.refl _ _).alloc lZ _
      have hsm:SB U6 M 31 #[.int .i64 0,.int .i64 0]:=by rw[<-hU6,<-hM];exact SB.new w6 _ _
      have HB6:=Hi (HBC.out.trans ((hb6.trans (hbu.mono hb6.size)).mono HBC.out.size));have z1:=hsm.cell 0;simp only[List.getElem?_toArray,List.getElem?_cons_zero,List.getElem?_cons_succ] at z1;rw[<-hU6,<-hM] at z1;have HU6:=Hi hU6;have HM:=Hi hM;have HEV:=Hi hev;have HSG:=Hi hsg;clear hb6 hbu hsm hU6 hM hev hsg x0 x1 x2 HFI;obtain⟨y0,-⟩:=zc (HS4.out.below HB6.out HS4.out.lt);rw[<-HU6.out] at y0;cases ev with
      |true=>
       have HTJ:=Hi (HTOT.out U6 a1 c1 js xv yv HB6.out HF.out.j rfl HCV.out.pla);go_wp2_with fail;rw[HU6.out,HM.out];refine Makes.use HTJ.out ?_;rintro _ w7 hb7 hr7;have HR7:=Hi hr7;have HB7:=Hi (HB6.out.trans (hb7.mono HB6.out.size));clear hb7 hr7 y0 HTJ;go_wp2_with fail;refine Makes.use HR7.out.sign ?_;rintro _ w8 hb8 rfl;have HB8:=Hi (HB7.out.trans (hb8.mono HB7.out.size));rw[Qnl (Qby HCV.out) (HEV.out.1 (by trivial))];obtain⟨y0,-⟩:=zc (HS4.out.below HB8.out HS4.out.lt);clear hb8;have HTP:Hid (ps.length=js.length->Calls Tryz.prog 13 #[.slice ap ps.length cp,.pointer (some ⟨BF,0,none⟩),.pointer (some ⟨PB,0,none⟩)] w8 (Makes w8 (RF (dot bs.length q (sq2 px py A B)) (24*(9*4194305+7)+1)))):=Hi fun hpl=>(by
        rw[hpl]
        exact HTOT.out w8 ap cp ps px py HB8.out HP.out hpl HPT.out)
       by_cases hm:m=0
       ·
        subst hm;by_cases hpl:ps.length=js.length
        ·
         have HTL:=Hi (HTP.out hpl);have g1:((ps.length:Int)=(js.length:Int)):=by omega
         clear hpl HTP;go_wp2_with fail;skip;refine Makes.use HTL.out ?_;rintro _ w9 hb9 hr9;have HR9:=Hi hr9;have HB9:=Hi (Below.trans HB8.out (hb9.mono (Below.size HB8.out)));clear hb9 hr9 y0 HTL;go_wp2_with fail;refine Makes.use HR9.out.sign ?_;rintro _ w10 hb10 rfl;have HB10:=Hi (HB9.out.trans (hb10.mono HB9.out.size));have g2:=Qhi (Qhh (x:=px) (y:=py) (Qby HCV.out) HSG.out);clear hb10;obtain⟨sg,hsg⟩:=nm (sgn3 (dot bs.length q (sq2 px py A B)).num);rw[hsg] at g2 ⊢;clear hsg;go_wp2;go_ret;exact⟨rfl,HB4.out.trans (HB10.out.mono HB4.out.size)⟩
        ·
         have g1:((ps.length:Int) == (js.length:Int))=false:=by simp;omega
         have g2:¬((ps.length:Int)=(js.length:Int)):=by omega
         clear hpl HTP;go_wp2_with fail;skip;go_ret;exact⟨rfl,HB4.out.trans (Below.mono HB8.out HB4.out.size)⟩
       ·
        have g1:(0:Int)<(m:Int):=by omega
        clear hm HTP;go_wp2_with fail;skip;go_ret;exact⟨rfl,HB4.out.trans (Below.mono HB8.out HB4.out.size)⟩
      |false=>
       have HTP:Hid (ps.length=js.length->Calls Tryz.prog 13 #[.slice ap ps.length cp,.pointer (some ⟨BF,0,none⟩),.pointer (some ⟨PB,0,none⟩)] U6 (Makes U6 (RF (dot bs.length q (sq2 px py A B)) (24*(9*4194305+7)+1)))):=Hi fun hpl=>(by
        rw[hpl]
        exact HTOT.out U6 ap cp ps px py HB6.out HP.out hpl HPT.out)
       by_cases hm:m=0
       ·
        subst hm;by_cases hpl:ps.length=js.length
        ·
         have HTL:=Hi (HTP.out hpl);have g1:((ps.length:Int)=(js.length:Int)):=by omega
         clear hpl HTP;go_wp2_with fail;rw[HU6.out];refine Makes.use HTL.out ?_;rintro _ w9 hb9 hr9;have HR9:=Hi hr9;have HB9:=Hi (Below.trans HB6.out (hb9.mono (Below.size HB6.out)));clear hb9 hr9 y0 HTL;go_wp2_with fail;refine Makes.use HR9.out.sign ?_;rintro _ w10 hb10 rfl;have HB10:=Hi (HB9.out.trans (hb10.mono HB9.out.size));have g2:=Qhi (Qhh (x:=px) (y:=py) (Qby HCV.out) HSG.out);clear hb10;obtain⟨sg,hsg⟩:=nm (sgn3 (dot bs.length q (sq2 px py A B)).num);rw[hsg] at g2 ⊢;clear hsg;go_wp2;go_ret;exact⟨rfl,HB4.out.trans (HB10.out.mono HB4.out.size)⟩
        ·
         have g1:((ps.length:Int) == (js.length:Int))=false:=by simp;omega
         have g2:¬((ps.length:Int)=(js.length:Int)):=by omega
         clear hpl HTP;go_wp2_with fail;rw[HU6.out];go_ret;exact⟨rfl,HB4.out.trans (Below.mono HB6.out HB4.out.size)⟩
       ·
        have g1:(0:Int)<(m:Int):=by omega
        clear hm HTP;go_wp2_with fail;rw[HU6.out];go_ret;exact⟨rfl,HB4.out.trans (Below.mono HB6.out HB4.out.size)⟩
      )
     clear hK0;by_cases ha:∀i,i<bs.length->0<q i
     ·
      rw[decide_eq_true ha];by_cases hc:c=0
      ·
       subst hc;obtain⟨rfl,rfl,ss,Z,Z',hsl,hsr,hsp,hl1,hl2⟩:=HONE.out rfl;obtain⟨x0,-⟩:=zc (HS4.out.below HB5.out HS4.out.lt);obtain⟨z1,-⟩:=zc HSS.out;rw[<-HU5.out] at x0 z1;rw[<-HS.out] at z1;have HA:=Hi ha;have HSL:=Hi hsl;have HSR:=Hi hsr;have HSP:=Hi hsp;have HL1:=Hi hl1;have HL2:=Hi hl2;clear ha hsl hsr hsp hl1 hl2;go_wp2_with fail;rw[HU5.out,HS.out];clear x0 z0 z1;go_loopw [76] (fun iv wr=>∃k:Nat,k<=2/\iv=.int .i64 k/\Below U5.heap.size U5 wr) (fun iv _=>2 - (intOf iv).toNat)
       case atStart=>exact⟨0,Nat.zero_le _,rfl,Below.refl _ _⟩
       case round=>as_aux_lemma=>
        obtain⟨k,hk,rfl,hbw⟩:=hrel;by_cases hkx:k<2
        ·
         obtain⟨Zk,Xk,hat,hlu⟩:=Qnv hkx HSP.out HL1.out HL2.out;obtain⟨W,hW⟩:=nm wr.heap.size;obtain⟨V1,hV1⟩:∃V,wr.alloc (.cells #[.int .i64 k] 3)=V:=⟨_,rfl⟩;have hbv:Below wr.heap.size wr V1:=by rw[<-hV1];exact(Below.refl _ _).alloc lZ _
         have HSW:Hid (SB V1 W 3 #[.int .i64 k]):=Hi (by rw[<-hV1,<-hW];exact SB.new wr _ _);have HBV1:=Hi (hbw.trans (hbv.mono hbw.size));have HBV4:=Hi (HB5.out.trans (HBV1.out.mono HB5.out.size));have HSS1:=Hi (HSS.out.below HBV1.out HSS.out.lt);have HS41:=Hi (HS4.out.below HBV4.out HS4.out.lt);have HF1:=Hi (HF.out.below (HB4.out.trans (HBV4.out.mono HB4.out.size)));have HAT:Hid (∀(X:World) (i:Nat),Below V1.heap.size V1 X->i<js.length->Calls Tryz.prog 9 #[.int .i64 i,.pointer (some ⟨S,0,none⟩),.pointer (some ⟨W,0,none⟩)] X (Makes X (RF (Zk i) (kC 8400000)))):=Hi (fun X i hb hi=>by
          obtain⟨s,hs⟩:∃s,ss[i]?=some s:=⟨ss[i]'(by have:=HSL.out;omega),gE _⟩;obtain⟨tx,h1,h2,h3,h4⟩:=hat i s hs
          exact Qng S W i js.length k (kC 8400000) sa ss s tx (Zk i) X (HG.out.below (HB4.out.trans ((HBV4.out.trans (hb.mono HBV4.out.size)).mono HB4.out.size))) (by rw[HSL.out];exact(HSS1.out.below hb HSS1.out.lt).cell 0) (HSS1.out.below hb HSS1.out.lt).lt ((HSW.out.below hb HSW.out.lt).cell 0) (HSW.out.below hb HSW.out.lt).lt ((HSR.out.below HBV1.out).below hb) hs h1 h2 h3 h4 (by decide))
         have HLU:=Hi hlu;have q0:((k:Int)<2):=by omega
         obtain⟨z1,-⟩:=zc HSS1.out;rw[<-hV1] at z1;have HV1:=Hi hV1;have HW:=Hi hW;clear hat hlu hW hV1 hbv hbw;go_wp2_with fail;rw[HV1.out,HW.out];clear z1;go_loopw [82] (fun iv wi=>∃i:Nat,i<=js.length/\iv=.int .i64 i/\Below V1.heap.size V1 wi) (fun iv _=>js.length - (intOf iv).toNat)
         case atStart=>exact⟨0,Nat.zero_le _,rfl,Below.refl _ _⟩
         case round=>
          obtain⟨i,hi,rfl,hbi⟩:=hrel;obtain⟨wi,hwi⟩:∃x,x=wr:=⟨_,rfl⟩;subst hwi;by_cases hix:i<js.length
          ·
           have HBI:=Hi hbi;have hfx:=HS41.out.below hbi HS41.out.lt;obtain⟨-,-,x2,-⟩:=zc hfx;have HIX:=Hi hix;have q2:((i:Int)<(js.length:Int)):=by omega
           clear hfx hbi;go_wp2_with fail;clear x2;go_loopw [16,88] (fun hv jv wj=>∃j:Nat,j<=hs.length/\jv=.int .i64 j/\hv=.bool (heldK hj hw i k j)/\Below wi.heap.size wi wj) (fun _ jv _=>hs.length - (intOf jv).toNat)
           case atStart=>exact⟨0,Nat.zero_le _,rfl,rfl,Below.refl _ _⟩
           case round=>as_aux_lemma=>
            obtain⟨j,hjl,rfl,rfl,hbj⟩:=hrel;obtain⟨wj,hwj⟩:∃x,x=wr:=⟨_,rfl⟩;subst hwj;by_cases hjx:j<hs.length
            ·
             obtain⟨h,hh⟩:∃h,hs[j]?=some h:=⟨hs[j],gE hjx⟩;obtain⟨eh,ew,lh,lw⟩:=HCV.out.h j h hh;obtain⟨b0,bo,hb0,hbl,D0,D1,D2⟩:=(HF1.out.h.below (HBI.out.trans (hbj.mono HBI.out.size))).hold hh;have q1:((j:Int)<(hs.length:Int)):=by omega
             rw[eh] at D0;rw[ew] at D1;obtain⟨hA,hhA⟩:∃x,hj j=x:=⟨_,rfl⟩;obtain⟨hB,hhB⟩:∃x,hw j=x:=⟨_,rfl⟩;rw[hhA] at D0 lh;rw[hhB] at D1 lw;have HBU:Hid (Below wi.heap.size wi (wj.alloc (.cells #[.int .i64 hA,.int .i64 (hB+1),.string h.q] 45))):=Hi (hbj.alloc hbj.size _);have d0:=(SB.new wj 45 #[.int .i64 hA,.int .i64 (hB+1),.string h.q]).cell 0;have d1:=(SB.new wj 45 #[.int .i64 hA,.int .i64 (hB+1),.string h.q]).cell 1;have d2:=(HSW.out.below (HBI.out.trans (HBU.out.mono HBI.out.size)) HSW.out.lt).cell 0;simp only[List.getElem?_toArray,List.getElem?_cons_zero,List.getElem?_cons_succ] at d0 d1 d2;have HHA:=Hi (And.intro hhA hhB);have hn20:hs.length<=20:=HCV.out.n3;subst hb0;clear hh hbl hbj eh ew hhA hhB;obtain⟨he,hhe⟩:∃x,heldK hj hw i k j=x:=⟨_,rfl⟩;have HHE:=Hi hhe;rw[hhe];clear hhe;cases he with
             |true=>
              go_wp2;go_roundw
              case rel=>exact⟨j+1,by omega,by go_num,(by rw[Qc9,HHE.out,HHA.out.1,HHA.out.2];rfl),HBU.out⟩
              case measure=>simp[intOf];omega
             |false=>
              by_cases g1:hA=i
              ·
               have g3:(hA == i)=true:=by simpa using g1
               subst g1;by_cases g2:hB=k
               ·
                have g4:(hB == k)=true:=by simpa using g2
                subst g2;go_wp2;go_roundw
                case rel=>exact⟨j+1,by omega,by go_num,(by rw[Qc9,HHE.out,HHA.out.1,HHA.out.2];simp),HBU.out⟩
                case measure=>simp[intOf];omega
               ·
                have g4:(((hB:Int)+1) == ((k:Int)+1))=false:=by
                 rw[beq_eq_false_iff_ne];omega
                have g5:(hB == k)=false:=by simpa using g2
                go_wp2;go_roundw
                case rel=>exact⟨j+1,by omega,by go_num,(by rw[Qc9,HHE.out,HHA.out.1,HHA.out.2];simp[g5]),HBU.out⟩
                case measure=>simp[intOf];omega
              ·
               have g3:(hA == i)=false:=by simpa using g1
               go_wp2;go_roundw
               case rel=>exact⟨j+1,by omega,by go_num,(by rw[Qc9,HHE.out,HHA.out.1,HHA.out.2];simp[g3]),HBU.out⟩
               case measure=>simp[intOf];omega
            ·
             obtain rfl:j=hs.length:=by omega
             have HBJ:=Hi hbj;obtain⟨-,x1,-⟩:=zc (HS41.out.below (HBI.out.trans (hbj.mono HBI.out.size)) HS41.out.lt);clear hbj;go_wp2_with fail;clear x1;go_loopw [17,18,110] (fun lv hv jv wr=>∃j:Nat,j<=bs.length/\jv=.int .i64 j/\lv=.bool (sideK A B Zk i 1 j)/\hv=.bool (sideK A B Zk i (-1) j)/\Below wj.heap.size wj wr) (fun _ _ jv _=>bs.length - (intOf jv).toNat)
             case atStart=>exact⟨0,Nat.zero_le _,rfl,rfl,rfl,Below.refl _ _⟩
             case round=>as_aux_lemma=>
              obtain⟨j,hjl,rfl,rfl,rfl,hbm⟩:=hrel;obtain⟨wm,hwm⟩:∃x,x=wr:=⟨_,rfl⟩;subst hwm;by_cases hjx:j<bs.length
              ·
               obtain⟨b,hb⟩:∃b,bs[j]?=some b:=⟨bs[j],gE hjx⟩;obtain⟨ea,eb,lA,lB,_⟩:=HCV.out.e j b hb;have hbq:=HBI.out.trans (HBJ.out.mono HBI.out.size);obtain⟨b0,bo,hb0,hbl,D0,D1,D2,D3,D4,D5⟩:=(HF1.out.b.below (hbq.trans (hbm.mono hbq.size))).bar hb;have q1:((j:Int)<(bs.length:Int)):=by omega
               rw[ea] at D0;rw[eb] at D1;obtain⟨A1,hA1⟩:∃x,A j=x:=⟨_,rfl⟩;obtain⟨B1,hB1⟩:∃x,B j=x:=⟨_,rfl⟩;obtain⟨C,hC⟩:∃x,A1+B1 - i=x:=⟨_,rfl⟩;rw[hA1] at D0 lA;rw[hB1] at D1 lB;have HBU:Hid (Below wj.heap.size wj (wm.alloc (.cells #[.int .i64 A1,.int .i64 B1,.string b.c,.string b.e,.string b.l,.string b.m] 47))):=Hi (hbm.alloc hbm.size _);have d0:=(SB.new wm 47 #[.int .i64 A1,.int .i64 B1,.string b.c,.string b.e,.string b.l,.string b.m]).cell 0;have d1:=(SB.new wm 47 #[.int .i64 A1,.int .i64 B1,.string b.c,.string b.e,.string b.l,.string b.m]).cell 1;simp only[List.getElem?_toArray,List.getElem?_cons_zero,List.getElem?_cons_succ] at d0 d1;have hm24:bs.length<=24:=HCV.out.n2;have hn10:js.length<=10:=HCV.out.n1;have HAB1:=Hi (And.intro hA1 (And.intro hB1 hC));obtain⟨lo,hlo⟩:∃x,sideK A B Zk i 1 j=x:=⟨_,rfl⟩;obtain⟨hi,hhi⟩:∃x,sideK A B Zk i (-1) j=x:=⟨_,rfl⟩;have HLO:=Hi (And.intro hlo hhi);rw[hlo,hhi]
               have HC0:Hid (A1=i∨B1=i->Calls Tryz.prog 9 #[.int .i64 ((A1:Int)+(B1:Int) - (i:Int)),.pointer (some ⟨S,0,none⟩),.pointer (some ⟨W,0,none⟩)] (wm.alloc (.cells #[.int .i64 A1,.int .i64 B1,.string b.c,.string b.e,.string b.l,.string b.m] 47)) (Makes (wm.alloc (.cells #[.int .i64 A1,.int .i64 B1,.string b.c,.string b.e,.string b.l,.string b.m] 47)) (RF (Zk C) (kC 8400000)))):=Hi fun hab=>(by
                rw[show ((A1:Int)+(B1:Int) - (i:Int))=((C:Nat):Int) from by omega]
                exact HAT.out _ C (hbq.trans (HBU.out.mono hbq.size)) (by omega))
               subst hb0;clear hb hbl hbm ea eb hA1 hB1 hC hlo hhi hbq;by_cases g1:A1=i
               ·
                have HAB:Hid (A j=i∨B j=i):=Hi (.inl (HAB1.out.1.trans g1));have g1':=g1.symm;subst g1';have g3:(i == i)=true:=by simp
                have HC1:=Hi (HC0.out (.inl rfl));clear HC0;go_wp2_with fail;refine Makes.use HC1.out ?_;rintro _ wa hba hra;have HRA:=Hi hra;have HBA1:=Hi (HBU.out.trans (hba.mono HBU.out.size));have HC2:=Hi (HAT.out wa i ((HBI.out.trans (HBJ.out.mono HBI.out.size)).trans (HBA1.out.mono (HBI.out.trans (HBJ.out.mono HBI.out.size)).size)) HIX.out);clear hba hra HC1 d0 d1;go_wp2_with fail;refine Makes.use HC2.out ?_;rintro _ wb hbb hrb;have HCM:=Hi ((HRA.out.below hbb).cmp hrb (by decide));have HBB1:=Hi (HBA1.out.trans (hbb.mono HBA1.out.size));clear hbb hrb HC2;go_wp2_with fail;refine Makes.use HCM.out ?_;rintro _ wd hbd rfl;have HBX:=Hi (HBB1.out.trans (hbd.mono HBB1.out.size));obtain⟨cc,hcc⟩:=nm (cmpQ (Zk C) (Zk i));rw[hcc];have HCC:Hid (cmpQ (Zk (A j+B j - i)) (Zk i)=cc):=Hi (by rw[HAB1.out.1,HAB1.out.2.1,HAB1.out.2.2];exact hcc);clear hcc hbd HCM;cases lo with
                |true=>
                 cases hi with
                 |true=>
                  go_wp2;go_roundw
                  case rel=>exact⟨j+1,by omega,by go_num,(by rw[Qbb HAB.out,HLO.out.1,HCC.out];first|rfl|simp),(by rw[Qbc HAB.out,HLO.out.2,HCC.out];first|rfl|simp),HBX.out⟩
                  case measure=>simp[intOf];omega
                 |false=>
                  go_wp2;go_roundw
                  case rel=>exact⟨j+1,by omega,by go_num,(by rw[Qbb HAB.out,HLO.out.1,HCC.out];first|rfl|simp),(by rw[Qbc HAB.out,HLO.out.2,HCC.out];first|rfl|simp),HBX.out⟩
                  case measure=>simp[intOf];omega
                |false=>
                 cases hi with
                 |true=>
                  go_wp2;go_roundw
                  case rel=>exact⟨j+1,by omega,by go_num,(by rw[Qbb HAB.out,HLO.out.1,HCC.out];first|rfl|simp),(by rw[Qbc HAB.out,HLO.out.2,HCC.out];first|rfl|simp),HBX.out⟩
                  case measure=>simp[intOf];omega
                 |false=>
                  go_wp2;go_roundw
                  case rel=>exact⟨j+1,by omega,by go_num,(by rw[Qbb HAB.out,HLO.out.1,HCC.out];first|rfl|simp),(by rw[Qbc HAB.out,HLO.out.2,HCC.out];first|rfl|simp),HBX.out⟩
                  case measure=>simp[intOf];omega
               ·
                by_cases g2:B1=i
                ·
                 have HAB:Hid (A j=i∨B j=i):=Hi (.inr (HAB1.out.2.1.trans g2));have g3:(A1 == i)=false:=by simpa using g1
                 have g2':=g2.symm;subst g2';have g4:(i == i)=true:=by simp
                 have hc1:=HC0.out (.inr rfl);rw[show ((A1:Int)+(i:Int) - (i:Int))=(A1:Int) from by omega] at hc1;have HC1:=Hi hc1;clear hc1;clear HC0;go_wp2_with fail;refine Makes.use HC1.out ?_;rintro _ wa hba hra;have HRA:=Hi hra;have HBA1:=Hi (HBU.out.trans (hba.mono HBU.out.size));have HC2:=Hi (HAT.out wa i ((HBI.out.trans (HBJ.out.mono HBI.out.size)).trans (HBA1.out.mono (HBI.out.trans (HBJ.out.mono HBI.out.size)).size)) HIX.out);clear hba hra HC1 d0 d1;go_wp2_with fail;refine Makes.use HC2.out ?_;rintro _ wb hbb hrb;have HCM:=Hi ((HRA.out.below hbb).cmp hrb (by decide));have HBB1:=Hi (HBA1.out.trans (hbb.mono HBA1.out.size));clear hbb hrb HC2;go_wp2_with fail;refine Makes.use HCM.out ?_;rintro _ wd hbd rfl;have HBX:=Hi (HBB1.out.trans (hbd.mono HBB1.out.size));obtain⟨cc,hcc⟩:=nm (cmpQ (Zk C) (Zk i));rw[hcc]
                 have HCC:Hid (cmpQ (Zk (A j+B j - i)) (Zk i)=cc):=Hi (by rw[HAB1.out.1,HAB1.out.2.1,HAB1.out.2.2];exact hcc);clear hcc hbd HCM;cases lo with
                 |true=>
                  cases hi with
                  |true=>
                   go_wp2;go_roundw
                   case rel=>exact⟨j+1,by omega,by go_num,(by rw[Qbb HAB.out,HLO.out.1,HCC.out];first|rfl|simp),(by rw[Qbc HAB.out,HLO.out.2,HCC.out];first|rfl|simp),HBX.out⟩
                   case measure=>simp[intOf];omega
                  |false=>
                   go_wp2;go_roundw
                   case rel=>exact⟨j+1,by omega,by go_num,(by rw[Qbb HAB.out,HLO.out.1,HCC.out];first|rfl|simp),(by rw[Qbc HAB.out,HLO.out.2,HCC.out];first|rfl|simp),HBX.out⟩
                   case measure=>simp[intOf];omega
                 |false=>
                  cases hi with
                  |true=>
                   go_wp2;go_roundw
                   case rel=>exact⟨j+1,by omega,by go_num,(by rw[Qbb HAB.out,HLO.out.1,HCC.out];first|rfl|simp),(by rw[Qbc HAB.out,HLO.out.2,HCC.out];first|rfl|simp),HBX.out⟩
                   case measure=>simp[intOf];omega
                  |false=>
                   go_wp2;go_roundw
                   case rel=>exact⟨j+1,by omega,by go_num,(by rw[Qbb HAB.out,HLO.out.1,HCC.out];first|rfl|simp),(by rw[Qbc HAB.out,HLO.out.2,HCC.out];first|rfl|simp),HBX.out⟩
                   case measure=>simp[intOf];omega
                ·
                 have g3:(A1 == i)=false:=by simpa using g1
                 have g4:(B1 == i)=false:=by simpa using g2
                 have g5:((A1:Int) != (i:Int))=true:=by
                  rw[bne_iff_ne];omega
                 have g6:((B1:Int) != (i:Int))=true:=by
                  rw[bne_iff_ne];omega
                 have HAB:=Hi (And.intro (fun h:A j=i=>g1 (HAB1.out.1.symm.trans h)) (fun h:B j=i=>g2 (HAB1.out.2.1.symm.trans h)));clear HC0;go_wp2;go_roundw
                 case rel=>exact⟨j+1,by omega,by go_num,(by rw[Qhm HAB.out.1 HAB.out.2,HLO.out.1]),(by rw[Qhm HAB.out.1 HAB.out.2,HLO.out.2]),HBU.out⟩
                 case measure=>simp[intOf];omega
              ·
               obtain rfl:j=bs.length:=by omega
               have HBM:=Hi (HBI.out.trans ((HBJ.out.trans (hbm.mono HBJ.out.size)).mono HBI.out.size));have hn10:js.length<=10:=HCV.out.n1;clear hbm;obtain⟨he,hhe⟩:∃x,heldK hj hw i k hs.length=x:=⟨_,rfl⟩;cases he with
               |true=>
                rw[hhe];clear hhe;go_wp2;go_roundw
                case rel=>exact⟨i+1,by omega,by go_num,HBM.out⟩
                case measure=>simp[intOf];omega
               |false=>
                rw[hhe,Qhn HCV.out HA.out HLU.out HIX.out (fun _=>rfl) (Qhl hhe) (.inl rfl),Qhn HCV.out HA.out HLU.out HIX.out (fun _=>rfl) (Qhl hhe) (.inr rfl)];clear hhe;go_wp2;go_roundw
                case rel=>exact⟨i+1,by omega,by go_num,HBM.out⟩
                case measure=>simp[intOf];omega
          ·
           obtain rfl:i=js.length:=by omega
           have HBI:=Hi (HBV1.out.trans (hbi.mono HBV1.out.size));clear hbi;go_wp2;go_roundw
           case rel=>exact⟨k+1,by omega,by go_num,HBI.out⟩
           case measure=>simp[intOf];omega
        ·
         obtain rfl:k=2:=by omega
         go_wp2_with fail;exact HREST.out _ _ _ _ _ _ _ _ _ _ _ _ _ _ _ _ _ _ _ _ _ _ _ _ _ _ _ _ _ _ _ _ _ _ _ _ _ _ _ _ _ _ _ _ _ _ _ _ _ _ _ _ _ _ _ _ _ _ _ _ _ _ _ _ _ _ _ _ _ _ _ _ _ _ _ _ _ _ _ _ _ _ _ _ _ _ _ _ _ _ _ _ _ _ _ _ _ _ _ _ _ _ _ _ _ _ _ _ _ _ _ _ _ _ _ _ _ _ _ _ _ _ _ _ _ _ _ _ _ _ _ _ _ _ _ _ _ _ _ _ _ _ _ _ _ _ _ _ _ _ _ _ _ _ _ _ _ _ _ _ _ _ _ _ _ _ _ _ _ _ _ _ _ _ _ _ _ _ _ _ _ _ _ _ _ _ _ _ _ _ _ _ wr hbw
      ·
       have e2:(c == 0)=false:=by simpa using hc
       have HA:=Hi ha;clear ha;go_wp2_with fail;rw[HU5.out,HS.out];exact HREST.out _ _ _ _ _ _ _ _ _ _ _ _ _ _ _ _ _ _ _ _ _ _ _ _ _ _ _ _ _ _ _ _ _ _ _ _ _ _ _ _ _ _ _ _ _ _ _ _ _ _ _ _ _ _ _ _ _ _ _ _ _ _ _ _ _ _ _ _ _ _ _ _ _ _ _ _ _ _ _ _ _ _ _ _ _ _ _ _ _ _ _ _ _ _ _ _ _ _ _ _ _ _ _ _ _ _ _ _ _ _ _ _ _ _ _ _ _ _ _ _ _ _ _ _ _ _ _ _ _ _ _ _ _ _ _ _ _ _ _ _ _ _ _ _ _ _ _ _ _ _ _ _ _ _ _ _ _ _ _ _ _ _ _ _ _ _ _ _ _ _ _ _ _ _ _ _ _ _ _ _ _ _ _ _ _ _ _ _ _ _ _ _ U5 bR
     ·
      rw[decide_eq_false ha];have HA:=Hi ha;clear ha;go_wp2_with fail;rw[HU5.out,HS.out];exact HREST.out _ _ _ _ _ _ _ _ _ _ _ _ _ _ _ _ _ _ _ _ _ _ _ _ _ _ _ _ _ _ _ _ _ _ _ _ _ _ _ _ _ _ _ _ _ _ _ _ _ _ _ _ _ _ _ _ _ _ _ _ _ _ _ _ _ _ _ _ _ _ _ _ _ _ _ _ _ _ _ _ _ _ _ _ _ _ _ _ _ _ _ _ _ _ _ _ _ _ _ _ _ _ _ _ _ _ _ _ _ _ _ _ _ _ _ _ _ _ _ _ _ _ _ _ _ _ _ _ _ _ _ _ _ _ _ _ _ _ _ _ _ _ _ _ _ _ _ _ _ _ _ _ _ _ _ _ _ _ _ _ _ _ _ _ _ _ _ _ _ _ _ _ _ _ _ _ _ _ _ _ _ _ _ _ _ _ _ _ _ _ _ _ U5 bR
  ·
   have e1:((qs.length:Int) == (bs.length:Int))=false:=by simp;omega
   have e2:¬((qs.length:Int)=(bs.length:Int)):=by omega
   clear hl;go_wp2;go_ret;exact⟨rfl,HB2.out⟩
 ·
  have e1:(c == 0)=false:=by simpa using hc
  clear hff;go_wp2;go_ret;exact⟨rfl,HB2.out⟩
end Go.Proofs.YtfpcipgoedifaaaGreatDoor
