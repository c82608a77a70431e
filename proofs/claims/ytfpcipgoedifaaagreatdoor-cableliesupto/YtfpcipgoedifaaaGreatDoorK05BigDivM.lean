/- rafterbig's div, its long way. -/
import Derived.Test.YtfpcipgoedifaaaGreatDoorK04BigDivL2
namespace Go.Proofs.YtfpcipgoedifaaaGreatDoor
open Go.RowKit
set_option linter.unusedVariables false
set_option maxRecDepth 1000000 in
def PlaceExit(Qx:Exit->Act->World->Prop)(w3:World)(bv ov cv gu gq n M L X V:Nat)(v:List Nat)(x10:Value):Prop:=
 ∀(us qs:List Nat) {s0 s1 s2 s3 s4 s5 s6 s7 s8 s9 s11 s13 s14 s16 s17 s18 s19 s20 s21 s22 s23 s24 s25 s26 s27 s28 s29 s30 s31 s32 s33 s34 s35 s36 s37 s38 s39 s40 s41 s42 s43 s44 s45 s46 s47 s48 s49 s50 s51 s52 s53 s54 s55 s56 s57 s58 s59 s60 s61 s62 s63 s64 s65 s66 s67 s68 s69 s70 s71 s72 s73 s74 s75 s76 s77 s78 s79 s80 s81 s82 s83 s84 s85 s86 s87 s88 s89 s90 s91 s92 s93 s94 s95 s96 s97 s98 s99 s100 s101 s102 s103 s104 s105 s106 s107 s108 s109 s110 s111 s112 s113 s114 s115 s116 s117 s118 s119 s120 s121 s122 s123 s124 s125 s126 s127 s128 s129 s130 s131 s132 s133 s134 s135 s136 s137 s138 s139 s140 s141 s142 s143 s144 s145 s146 s147 s148 s149 s150 s151 s152 s153 s154 s155 s156 s157 s158 s159 s160 s161 s162 s163 s164 s165 s166 s167 s168 s169 s170 s171 s172 s173 s174 s175 s176 s177 s178 s179 s180 s181 s182 s183 s184 s185 s186 s187 s188 s189 s190 s191 s192 s193 s194 s195 s196 s197 s198 s199 s200 s201 s202 s203 s204 s205 s206 s207 s208 s209 s210 s211 s212 s213 s214 s215 s216 s217 s218 s219 s220 s221 s222 s223 s224 s225 s226 s227 s228 s229 s230 s231 s232 s233 s234 s235 s236 s237 s238 s239 s240 s241 s242 s243 s244 s245 s246 s247 s248 s249 s250 s251 s252 s253 s254 s255 s256 s257 s258 s259 s260 s261 s262 s263 s264 s265 s266 s267 s268 s269 s270 s271 s272:Value} (wr:World),DivMem w3 wr bv ov gu gq n L v us qs->DivInv X V n M 0 us qs->
    Qx (.exit 0) ⟨#[s0,s1,s2,s3,s4,s5,s6,s7,s8,s9,x10,s11,.slice (some ⟨gu,0,none⟩) L L,s13,s14,.slice (some ⟨gq,0,none⟩) (M+1) (M+1),s16,s17,s18,s19,s20,s21,s22,s23,s24,s25,s26,s27,s28,s29,s30,s31,s32,s33,s34,s35,s36,s37,s38,s39,s40,s41,s42,s43,s44,s45,s46,s47,s48,s49,s50,s51,s52,s53,s54,s55,s56,s57,s58,s59,s60,s61,s62,s63,s64,s65,s66,s67,s68,s69,s70,s71,s72,s73,s74,s75,s76,s77,s78,s79,s80,s81,s82,s83,s84,s85,s86,s87,s88,s89,s90,s91,s92,s93,s94,s95,s96,s97,s98,s99,s100,s101,s102,s103,s104,s105,s106,s107,s108,s109,s110,s111,s112,s113,s114,s115,s116,s117,s118,s119,s120,s121,s122,s123,s124,s125,s126,s127,s128,s129,s130,s131,s132,s133,s134,s135,s136,s137,s138,s139,s140,s141,s142,s143,s144,s145,s146,s147,s148,s149,s150,s151,s152,s153,s154,s155,s156,s157,s158,s159,s160,s161,s162,s163,s164,s165,s166,s167,s168,s169,s170,s171,s172,s173,s174,s175,s176,s177,s178,s179,s180,s181,s182,s183,s184,s185,s186,s187,s188,s189,s190,s191,s192,s193,s194,s195,s196,s197,s198,s199,s200,s201,s202,s203,s204,s205,s206,s207,s208,s209,s210,s211,s212,s213,s214,s215,s216,s217,s218,s219,s220,s221,s222,s223,s224,s225,s226,s227,s228,s229,s230,s231,s232,s233,s234,s235,s236,s237,s238,s239,s240,s241,s242,s243,s244,s245,s246,s247,s248,s249,s250,s251,s252,s253,s254,s255,s256,s257,s258,s259,s260,s261,s262,s263,s264,s265,s266,s267,s268,s269,s270,s271,s272],[]⟩ wr
set_option maxRecDepth 1000000 in
def PlaceAt(Qx:Exit->Act->World->Prop)(w3:World)(bv ov cv gu gq n M L v1 v0 X V:Nat)(v:List Nat)(x10:Value)(t:Nat):Prop:=
 ∀(us qs:List Nat) {s0 s1 s2 s3 s4 s5 s6 s7 s8 s9 s14 s19 s20 s21 s22 s23 s24 s25 s26 s27 s28 s29 s30 s31 s32 s33 s34 s35 s36 s37 s38 s39 s40 s41 s42 s43 s44 s45 s46 s47 s48 s49 s50 s51 s52 s53 s54 s55 s56 s57 s58 s59 s60 s61 s62 s63 s64 s65 s66 s67 s68 s69 s70 s71 s72 s73 s74 s75 s76 s77 s78 s79 s80 s81 s82 s83 s84 s85 s86 s87 s88 s89 s90 s91 s92 s93 s94 s95 s96 s97 s98 s99 s100 s101 s102 s103 s104 s105 s106 s107 s108 s109 s110 s111 s112 s113 s114 s115 s116 s117 s118 s119 s120 s121 s122 s123 s124 s125 s126 s127 s128 s129 s130 s131 s132 s133 s134 s135 s136 s137 s138 s139 s140 s141 s142 s143 s144 s145 s146 s147 s148 s149 s150 s151 s152 s153 s154 s155 s156 s157 s158 s159 s160 s161 s162 s163 s164 s165 s166 s167 s168 s169 s170 s171 s172 s173 s174 s175 s176 s177 s178 s179 s180 s181 s182 s183 s184 s185 s186 s187 s188 s189 s190 s191 s192 s193 s194 s195 s196 s197 s198 s199 s200 s201 s202 s203 s204 s205 s206 s207 s208 s209 s210 s211 s212 s213 s214 s215 s216 s217 s218 s219 s220 s221 s222 s223 s224 s225 s226 s227 s228 s229 s230 s231 s232 s233 s234 s235 s236 s237 s238 s239 s240 s241 s242 s243 s244 s245 s246 s247 s248 s249 s250 s251 s252 s253 s254 s255 s256 s257 s258 s259 s260 s261 s262 s263 s264 s265 s266 s267 s268 s269 s270 s271 s272:Value} (wr:World),t<=M+1->DivMem w3 wr bv ov gu gq n L v us qs->DivInv X V n M t us qs->
    Code.rounds Tryz.prog (((Tryz.f112.body.map loopsIn).getD []).getD 0 .skip) Qx (t+1) ⟨#[s0,s1,s2,s3,s4,s5,s6,s7,s8,s9,x10,.slice (some ⟨bv,ov,none⟩) (n+2) cv,.slice (some ⟨gu,0,none⟩) L L,.int .i64 ((n:Int)+2),s14,.slice (some ⟨gq,0,none⟩) (M+1) (M+1),.int .u64 (v1:Int),.int .u64 (v0:Int),.int .i64 ((t:Int) - 1),s19,s20,s21,s22,s23,s24,s25,s26,s27,s28,s29,s30,s31,s32,s33,s34,s35,s36,s37,s38,s39,s40,s41,s42,s43,s44,s45,s46,s47,s48,s49,s50,s51,s52,s53,s54,s55,s56,s57,s58,s59,s60,s61,s62,s63,s64,s65,s66,s67,s68,s69,s70,s71,s72,s73,s74,s75,s76,s77,s78,s79,s80,s81,s82,s83,s84,s85,s86,s87,s88,s89,s90,s91,s92,s93,s94,s95,s96,s97,s98,s99,s100,s101,s102,s103,s104,s105,s106,s107,s108,s109,s110,s111,s112,s113,s114,s115,s116,s117,s118,s119,s120,s121,s122,s123,s124,s125,s126,s127,s128,s129,s130,s131,s132,s133,s134,s135,s136,s137,s138,s139,s140,s141,s142,s143,s144,s145,s146,s147,s148,s149,s150,s151,s152,s153,s154,s155,s156,s157,s158,s159,s160,s161,s162,s163,s164,s165,s166,s167,s168,s169,s170,s171,s172,s173,s174,s175,s176,s177,s178,s179,s180,s181,s182,s183,s184,s185,s186,s187,s188,s189,s190,s191,s192,s193,s194,s195,s196,s197,s198,s199,s200,s201,s202,s203,s204,s205,s206,s207,s208,s209,s210,s211,s212,s213,s214,s215,s216,s217,s218,s219,s220,s221,s222,s223,s224,s225,s226,s227,s228,s229,s230,s231,s232,s233,s234,s235,s236,s237,s238,s239,s240,s241,s242,s243,s244,s245,s246,s247,s248,s249,s250,s251,s252,s253,s254,s255,s256,s257,s258,s259,s260,s261,s262,s263,s264,s265,s266,s267,s268,s269,s270,s271,s272],[]⟩ wr
set_option maxRecDepth 1000000 in
set_option maxHeartbeats 4000000 in
theorem Qlp(Qx:Exit->Act->World->Prop)(w3:World)(bv ov cv gu gq n M L v1 v0 X V:Nat)(v:List Nat)(x10:Value)(hexit:PlaceExit Qx w3 bv ov cv gu gq n M L X V v x10):PlaceAt Qx w3 bv ov cv gu gq n M L v1 v0 X V v x10 0:=by
 intro us qs
 iterate 265 intro
 intro wr ht hm hi;have HM:=Hi hm;have HI:=Hi hi;clear hm hi;rw[rounds_succ]
 conv=>arg 2;whnf
 go_wp2;exact hexit _ _ _ HM.out HI.out
set_option maxRecDepth 1000000 in
set_option maxHeartbeats 8000000 in
theorem Qlq(Qx:Exit->Act->World->Prop)(w3:World)(bv ov cv gu gq n M L v1 v0 X V:Nat)(v:List Nat)(x10:Value)(hL:L=M+n+3)(hLb:L<=1099511627776)(hv:Num 4294967296 v V)(hvl:v.length=n+2)(hv1:v.getD (n+1) 0=v1)(hv0:v.getD n 0=v0)(h1:1<=v1)
 (j:Nat) (ih:PlaceAt Qx w3 bv ov cv gu gq n M L v1 v0 X V v x10 j):PlaceAt Qx w3 bv ov cv gu gq n M L v1 v0 X V v x10 (j+1):=by
 intro us qs
 iterate 265 intro
 intro wr hjM hm hI;have hv1b:v1<4294967296:=by rw[<-hv1];exact hv.small.getD (by omega) _
 have hv0b:v0<4294967296:=by rw[<-hv0];exact hv.small.getD (by omega) _
 have hV0:0<V:=by
  have e1:=hv.trim.pow_le (B:=4294967296) (by omega);rw[hv.eq] at e1;have e2:0<4294967296 ^ (v.length - 1):=Nat.pow_pos (by omega);omega
 have hul:=hI.ulen;have ei:((j+1:Nat):Int) - 1=(j:Int):=by omega
 rw[ei];clear ei;obtain⟨u2,hu2⟩:∃d,us.getD (j+(n+2)) 0=d:=⟨_,rfl⟩;obtain⟨u1,hu1⟩:∃d,us.getD (j+(n+1)) 0=d:=⟨_,rfl⟩;obtain⟨u0,hu0⟩:∃d,us.getD (j+n) 0=d:=⟨_,rfl⟩;have b2:u2<4294967296:=by rw[<-hu2];exact hI.usmall.getD (by omega) _
 have b1:u1<4294967296:=by rw[<-hu1];exact hI.usmall.getD (by omega) _
 have b0:u0<4294967296:=by rw[<-hu0];exact hI.usmall.getD (by omega) _
 have g2:=hm.ub.cell (j+(n+2)) (by omega);have g1:=hm.ub.cell (j+(n+1)) (by omega);rw[hu2] at g2;rw[hu1] at g1;obtain⟨hh,hhh⟩:=nm (u2*4294967296+u1);obtain⟨Q,hQ⟩:=nm (val 4294967296 us / (4294967296 ^ j*V));obtain⟨G1,G2,G3,G4⟩:=hI.guess (by omega) hv hvl hu2 hu1 hu0 hv1 hv0 h1 hhh hQ;have hQb:=hI.q_lt hV0;rw[hQ] at hQb;have ok:GuessOk n j L v1 v0 u0 Q hh us:=⟨hLb,by omega,h1,hv1b,hv0b,hu0,b0,hQb,G2,G3,G4⟩;have hor:bits .or .u64 ((u2:Int)*4294967296) (u1:Int)=(hh:Int):=by
  rw[or64 ((u2:Int)*4294967296) (u1:Int) u2 u1 32 (by omega) rfl b1 (by omega)];omega
 have hhb:hh<18446744073709551616:=by omega
 obtain⟨g',hg'⟩:∃g',hh / v1=g':=⟨_,rfl⟩;obtain⟨r',hr'⟩:∃r',hh % v1=r':=⟨_,rfl⟩;have t1:(hh:Int) / (v1:Int)=(g':Int):=by rw[<-hg'];simp
 have t2:(hh:Int) % (v1:Int)=(r':Int):=by rw[<-hr'];simp
 have t3:(hh:Int).tmod (v1:Int)=(r':Int):=by rw[Int.tmod_eq_emod_of_nonneg (by omega)];exact t2
 have t4:(hh:Int).tdiv (v1:Int)=(g':Int):=by rw[Int.tdiv_eq_ediv_of_nonneg (by omega)];exact t1
 have hgb:g'<18446744073709551616:=by rw[<-hg'];exact Nat.lt_of_le_of_lt (Nat.div_le_self _ _) hhb
 have hrb:r'<v1:=by rw[<-hr'];exact Nat.mod_lt _ (by omega)
 have t5:=Qbx g' hgb;have hgr:g'*v1+r'=hh:=by rw[<-hg',<-hr',Nat.mul_comm];exact Nat.div_add_mod _ _
 have hQg:Q<=g':=by rw[<-hg'];exact G1
 have qv:((v1:Int) == 0)=false:=by rw[beq_eq_false_iff_ne];omega
 have OK:=Hi ok;have HM:=Hi hm;have HI:=Hi hI;have HQ:=Hi hQ;have HU2:=Hi hu2;have HGR:=Hi hgr;have HVN:=Hi hv;have HVL:=Hi hvl;have HL:=Hi hL;have HJ:=Hi hjM;have hjn:j+(n+2)<L:=by omega
 have hjn':(j:Int)+((n:Int)+2)<(L:Int):=by omega
 have hjn0:(0:Int)<=(j:Int)+((n:Int)+2):=by omega
 have hjn1:(j:Int)+((n:Int)+2) - 1<(L:Int):=by omega
 have hjn2:(0:Int)<=(j:Int)+((n:Int)+2) - 1:=by omega
 clear G1 G2 G3 G4 hg' hr' hgr hQ hu2 hu1 hu0 hI hm hhh hul hv hvl hv1 hv0 ok hL hjM;rw[rounds_succ]
 conv=>arg 2;whnf
 go_wp2;go_quiet (fail);go_wp2;go_quiet (fail);go_wp2;refine wp_loop_rounds (g'+1) ?_;refine(Qlu _ w3 bv ov cv gu gq n j L v1 v0 u0 Q hh v us qs x10 _ OK.out ?hex g') g' r' _ lZ ((HM.out.drewN _).drewN _) hgb (by omega) HGR.out hQg
 case hex=>
  clear g1 g2 hor t1 t2 t3 t4 t5 hgb hrb hQg qv;intro g
  iterate 264 intro
  intro wr1 hm1 hgB hQg hgQ;go_wp2;refine wp_loop_rounds (n+2+1) ?_;refine(Qlw _ w3 bv ov cv gu gq n j L (val 4294967296 (us.take (j+(n+2)))) u2 g v qs x10 _ _ _ hLb hjn hgB ?hex2 (n+2)) 0 0 0 us _ (by omega) hm1 (by omega) (by omega) HU2.out ?hz2 ?hv2
  case hz2=>
   intro p hp;have e1:=HL.out;have e2:=HJ.out;have e3:=Qab (B:=4294967296) (by omega) HVN.out.small;rw[HVN.out.eq,HVL.out] at e3;have e4:=HI.out.zero (by omega) e3;exact Qpo 4294967296 (by omega) us (j+(n+2)) e4 p hp
  case hv2=>simp[val]
  case hex2=>
   intro c d us1
   iterate 262 intro
   intro wr2 hm2 hc hd ha hz hvv;have hql:=HI.out.qlen;have hul1:=hm2.ul;have k0:=hm2.ub.cell (j+(n+2)) (by omega);have k1:=hm2.ub.free (j+(n+2));rw[ha] at k0;have f0:=hm2.qb.cell j (by have:=HJ.out;omega);have f1:=hm2.qb.free j;obtain⟨z,hz0⟩:=nm (qs.getD j 0);rw[hz0] at f0;have hVb:=Qab (B:=4294967296) (by omega) HVN.out.small;rw[HVN.out.eq,HVL.out] at hVb;have hU:val 4294967296 us=val 4294967296 (us.take (j+(n+2)))+4294967296 ^ (j+(n+2))*u2:=by
    have e1:=HL.out;have e2:=HJ.out;exact Qir 4294967296 us (j+(n+2)) u2 (by have:=HI.out.ulen;omega) HU2.out (HI.out.zero (by omega) hVb)
   have hLt:val 4294967296 (us1.take (j+(n+2)))<4294967296 ^ (j+(n+2)):=by
    have e1:=Qab (B:=4294967296) (by omega) (hm2.usmall.take (j+(n+2)));rw[List.length_take,hul1,Nat.min_eq_left (by omega)] at e1;exact e1
   rw[show v.take (n+2)=v from List.take_of_length_le (by rw[HVL.out];exact Nat.le_refl _),HVN.out.eq] at hvv;have hend:=Qpl 4294967296 j (n+2) u2 c d g _ _ V _ hLt hU hV0 (by omega) hvv (by rw[HQ.out];exact hQg) (by rw[HQ.out];exact hgQ) (by omega);have hD:4294967296 ^ j*V<=4294967296 ^ (j+(n+2)):=by rw[Nat.pow_add];exact Nat.mul_le_mul_left _ (by omega)
   have hmod:=Nat.mod_lt (val 4294967296 us) (Nat.mul_pos (Nat.pow_pos (n:=j) (show 0<4294967296 by omega)) hV0);rw[HQ.out] at hend;have HM2:=Hi hm2;have HZ:=Hi hz;have HD:=Hi hD;have HMOD:=Hi hmod;have HUL:=Hi hul1;have hjq:(j:Int)<(M:Int)+1:=by have:=HJ.out;omega
   have HHQ:=Hi HI.out;clear hD hmod hvv hU hVb hz hm2 hul1 hql hz0 ha hLt hm1;rcases hend with ⟨rfl,hcd,hmo⟩|⟨hgQ1,hcd,hmo⟩
   ·
    have tt:IntKind.u64.wrap (IntKind.u64.wrap ((u2:Int) - (c:Int)) - (d:Int))=0:=by
     rw[Qaq,Qaq];omega
    have HMO:=Hi hmo;clear hmo hcd hQg hgQ;go_wp2;refine ih (us1.set (j+(n+2)) 0) (qs.set j g) _ (by have:=HJ.out;omega) ((HM2.out.setU _ 0 (by omega)).setQ j g) (HI.out.next (by have:=HJ.out;omega) hV0 HQ.out (by rw[List.length_set,HUL.out,HL.out]) (HM2.out.usmall.set _ (by omega)) ?_);rw[Qis _ _ _ (by rw[HUL.out];exact hjn) HZ.out];exact HMO.out
   ·
    obtain⟨T,hT⟩:∃T:Nat,T=18446744073709551615:=⟨_,rfl⟩;have tt:IntKind.u64.wrap (IntKind.u64.wrap ((u2:Int) - (c:Int)) - (d:Int))=(T:Int):=by
     rw[Qaq,Qaq];omega
    have t1:(T:Int) % 4294967296=4294967295:=by omega
    have t2:(T:Int) / 9223372036854775808=1:=by omega
    have hTb:T<18446744073709551616:=by omega
    have eg:(g:Int) - 1=(Q:Int):=by omega
    have EG:=Hi eg;have hg1:(1:Int)<=(g:Int):=by omega
    have HMO:=Hi hmo;clear hmo hcd hQg hgQ hT eg hgQ1;go_wp2;rw[EG.out];refine wp_loop_rounds (n+2+1) ?_;refine(Ql0 _ w3 bv ov cv gu gq n j L (val 4294967296 (us1.take (j+(n+2)))) 4294967295 v qs x10 _ _ _ _ hLb hjn ?hex3 (n+2)) 0 0 (us1.set (j+(n+2)) 4294967295) _ (by omega) (HM2.out.setU _ 4294967295 (by omega)) (by omega) (Qbe _ _ _ (by rw[HUL.out];exact hjn)) ?hz3 ?hv3
    case hz3=>intro p hp;rw[getD_set_ne _ _ _ _ (by omega)];exact HZ.out p hp
    case hv3=>rw[List.take_set_of_le lZ];simp[val]
    case hex3=>
     clear k0 k1 f0 f1 tt t1 t2 hTb hg1;intro c3 us3
     iterate 263 intro
     intro wr3 hm3 hc3 ha3 hz3 hv3;have k0:=hm3.ub.cell (j+(n+2)) (by rw[hm3.ul];exact hjn);have k1:=hm3.ub.free (j+(n+2));rw[ha3] at k0;have f0:=hm3.qb.cell j (by have:=HJ.out;have:=HI.out.qlen;omega);have f1:=hm3.qb.free j;obtain⟨z',hz0'⟩:∃z,qs.getD j 0=z:=⟨_,rfl⟩;rw[hz0'] at f0;have hLt:val 4294967296 (us3.take (j+(n+2)))<4294967296 ^ (j+(n+2)):=by
      have e1:=Qab (B:=4294967296) (by omega) (hm3.usmall.take (j+(n+2)));rw[List.length_take,hm3.ul,Nat.min_eq_left (by omega)] at e1;exact e1
     rw[show v.take (n+2)=v from List.take_of_length_le (by rw[HVL.out];exact Nat.le_refl _),HVN.out.eq,HMO.out] at hv3;obtain⟨hc1,hmo⟩:=Qpq _ _ c3 _ _ hLt HMOD.out HD.out hc3 hv3;subst hc1;have HM3:=Hi hm3;have HZ3:=Hi hz3;have HMO3:=Hi hmo;clear hm3 hz3 hmo hv3 hLt ha3 hz0' hc3;go_wp2;refine ih (us3.set (j+(n+2)) 0) (qs.set j Q) _ (by have:=HJ.out;omega) ((HM3.out.setU _ 0 (by omega)).setQ j Q) (HI.out.next (by have:=HJ.out;omega) hV0 HQ.out (by rw[List.length_set,HM3.out.ul,HL.out]) (HM3.out.usmall.set _ (by omega)) ?_);rw[Qis _ _ _ (by rw[HM3.out.ul];exact hjn) HZ3.out];exact HMO3.out
theorem Qlr(Qx:Exit->Act->World->Prop)(w3:World)(bv ov cv gu gq n M L v1 v0 X V:Nat)(v:List Nat)(x10:Value)(hL:L=M+n+3)(hLb:L<=1099511627776)(hv:Num 4294967296 v V)(hvl:v.length=n+2)(hv1:v.getD (n+1) 0=v1)(hv0:v.getD n 0=v0)(h1:1<=v1)
 (hexit:PlaceExit Qx w3 bv ov cv gu gq n M L X V v x10) (t:Nat):PlaceAt Qx w3 bv ov cv gu gq n M L v1 v0 X V v x10 t:=by
 induction t with
 |zero=>exact Qlp Qx w3 bv ov cv gu gq n M L v1 v0 X V v x10 hexit
 |succ t ih=>exact Qlq Qx w3 bv ov cv gu gq n M L v1 v0 X V v x10 hL hLb hv hvl hv1 hv0 h1 t ih
theorem Blk.setRow{k:IntKind}{t:TypeId}{w:World}{g:Nat}{l:List Nat}(h:Blk k t w g l)(m:List Nat):Blk k t (w.setRow g (wordCells k m)) g m:=setRow_heap w g _ _ t _ h
theorem Ql1(X V n M k:Nat)(xl v:List Nat)(hx:Num 4294967296 xl X)(hXb:X<4294967296 ^ (M+n+2))(hv:Num 4294967296 v V)(hvl:v.length=n+2)(hk:xl.length+k=M+n+3):
 DivInv X V n M (M+1) (xl++zeros k) (zeros (M+1)):=by
 refine⟨by rw[List.length_append,Qai];exact hk,Qai _,hx.small.append (Qap _ _ (by decide)),Qap _ _ (by decide),?_,?_⟩
 · rw[Qdc,Qdv,hx.eq,List.drop_of_length_le (by rw[Qai];exact Nat.le_refl _),Qdb,Nat.mul_zero,Nat.mul_zero]
   rfl
 ·
  rw[Qdc,Qdv,hx.eq,Nat.mul_zero,Nat.add_zero];have e3:=hv.trim.pow_le (B:=4294967296) (by rw[hvl];exact Nat.succ_pos _);rw[hv.eq,hvl] at e3;have e4:=Nat.mul_le_mul_left (4294967296 ^ (M+1)) e3;rw[<-Nat.pow_add,show M+1+(n+2 - 1)=M+n+2 from by omega] at e4;exact Nat.lt_of_lt_of_le hXb e4
theorem Ql2(w:World)(g n cx bx ox:Nat)(xl:List Nat)(hB:Blk .u32 155 w g (zeros n))(hx:Row .u32 w (some ⟨bx,ox,none⟩) cx xl)(hn:xl.length<=n):
 Sem.run Tryz.prog (Builtin.copy_ #[51,51] 3 #[.slice (some ⟨g,0,none⟩) n n,.slice (some ⟨bx,ox,none⟩) xl.length cx]) w=.ok (.int .i64 xl.length) (w.setRow g (wordCells .u32 (xl++zeros (n - xl.length)))):=by
 have h:=run_copy_row (P:=Tryz.prog) w 51 51 3 155 g 0 n n ⟨bx,ox,none⟩ xl.length cx (wordCells .u32 (zeros n)) 155 (xl.map (fun n:Nat=>Value.int .u32 n)) Tryz.underlying51 (by kernel_rfl) hB
  (by rw[List.length_map];exact(Nat.min_eq_left hn).symm) ?_ (by simp[wordCells,Qai];omega) ?_
 ·
  have e:(List.take 0 (wordCells .u32 (zeros n)).toList++xl.map (fun n:Nat=>Value.int .u32 n)++List.drop (0+(xl.map (fun n:Nat=>Value.int .u32 n)).length) (wordCells .u32 (zeros n)).toList).toArray=wordCells .u32 (xl++zeros (n - xl.length)):=by
   unfold wordCells zeros;simp
  rw[e] at h;rw[List.length_map] at h;exact h
 ·
  intro j u hj;obtain⟨hlt,hu⟩:=gZ hj;have hlt':j<xl.length:=by simpa using hlt
  obtain⟨b',off',e1,_,hc⟩:=hx.cell j hlt';obtain⟨rfl,rfl⟩:bx=b'/\ox=off':=by simpa using e1
  rw[Qay,hc,<-hu];simp[hlt']
 · intro u hu;obtain⟨n,_,rfl⟩:=List.mem_map.1 hu;rfl
set_option maxRecDepth 100000 in
set_option maxHeartbeats 4000000 in
theorem Ql3(a1 a2:Option Addr)(c1 c2:Nat)(l m:List Nat)(x y:Nat)(w:World)(h1:U32 w a1 c1 l x)(h2:U32 w a2 c2 m y)(hy:0<y)(hxy:y<=x)(hl:2<l.length)(hm:1<m.length)(hlb:l.length<1099511627770):
 Calls Tryz.prog 112 #[.slice a1 l.length c1,.slice a2 m.length c2] w (DivOk w x y):=by
 have s2:=h2.short;have hml:m.length<=l.length:=by
  apply bC;intro hc;have:=Qas (B:=4294967296) (by omega) h1.num.small h2.num.trim (by omega);rw[h1.num.eq,h2.num.eq] at this;omega
 have q1:((m.length:Int) == 0)=false:=by rw[beq_eq_false_iff_ne];omega
 have q2:((m.length:Int) == 1)=false:=by rw[beq_eq_false_iff_ne];omega
 have hc:¬cmp3 x y<0:=by rw[Qat];omega
 have hzb:nb y<=32*m.length:=Num.nb_le (q:=32) h2.num;obtain⟨z,hz⟩:=nm (nb y);have hz1:1<=z:=by rw[<-hz];exact Qdd hy
 obtain⟨s,hs⟩:=nm (31 - (z - 1) % 32);have hs31:s<32:=by omega
 have hs':32 - ((z:Int) - 1) % 32 - 1=(s:Int):=by omega
 rw[hz] at hzb;have HZ:Hid (nb y=z):=hz;clear hz hs;go_enter Tryz.func112,Tryz.ntmps112;go_wp2_with fail;refine(Qa8 a1 a2 c1 c2 l m x y w h1 h2).mono ?_;rintro e w1 ⟨rfl,hb⟩;replace h1:=h1.below hb;replace h2:=h2.below hb;go_wp2_with fail;refine(Ql5 a2 c2 m y w1 h2).mono ?_;rintro e w2 ⟨rfl,rfl⟩;rw[HZ.out];clear hc;go_wp2_with fail;refine(Qgm a2 c2 s m y w2 h2 hs31 (by omega) (by omega)).mono ?_;rintro e w3 ⟨⟨av,cv,v,rfl,hv⟩,hb3⟩;replace h1:=h1.below hb3;have hpow:=Qep hs31;have hpos:0<2 ^ s:=Nat.pow_pos (by omega);obtain⟨V,hV⟩:=nm (y*2 ^ s);obtain⟨X,hX⟩:=nm (x*2 ^ s);rw[hV] at hv;have hyV:y<=V:=by rw[<-hV];exact Nat.le_mul_of_pos_right _ hpos
 have hVX:V<=X:=by rw[<-hV,<-hX];exact Nat.mul_le_mul_right _ hxy
 have hXb:X<4294967296 ^ (l.length+1):=by
  have e1:=Qab (B:=4294967296) (by omega) h1.num.small;rw[h1.num.eq] at e1;rw[<-hX,Nat.pow_succ];exact Nat.mul_lt_mul'' e1 (by omega)
 have hvl2:2<=v.length:=by
  apply bC;intro hn;have e1:=Qab (B:=4294967296) (by omega) hv.num.small;have e2:=Qb1 (B:=4294967296) (by omega) (show v.length<=1 by omega);have e3:=h2.num.trim.pow_le (B:=4294967296) (by omega);have e4:=Qb1 (B:=4294967296) (by omega) (show 1<=m.length - 1 by omega);rw[hv.num.eq] at e1;rw[h2.num.eq] at e3;omega
 have hvll:v.length<=l.length+1:=hv.num.length_le_of_lt (by omega) (by omega);have HV:Hid (y*2 ^ s=V):=hV;have HX:Hid (x*2 ^ s=X):=hX;have HXB:Hid (X<4294967296 ^ (l.length+1)):=hXb;clear hV hX hXb hpow hpos hyV;have hmk:∀w,(Instr.makeSlice 51 (.int .i64 ((l.length:Int)+2)) (.int .i64 ((l.length:Int)+2))).run Tryz.prog w=.ok (.slice (some ⟨w.heap.size,0,none⟩) (l.length+2) (l.length+2)) (w.alloc (.cells (wordCells .u32 (zeros (l.length+2))) 155)):=
  fun w=>Qa4 _ (l.length+2) (by omega) (by omega) w
 go_wp2_with fail;have hba:Below w3.heap.size w3 (w3.alloc (.cells (wordCells .u32 (zeros (l.length+2))) 155)):=bR.alloc lZ _;refine(Qgm a1 c1 s l x _ (h1.below hba) hs31 (by omega) (by omega)).mono ?_;rintro e w4 ⟨⟨ax,cx,xl,rfl,hx⟩,hb4⟩;clear hmk;rw[HX.out] at hx;have hxl1:xl.length<=l.length+1:=hx.num.length_le_of_lt (by omega) HXB.out;have hxl0:0<xl.length:=by
  have:=(hx.num.len_zero (by omega)).2;have:=HV.out;have:0<y*2 ^ s:=Nat.mul_pos hy (Nat.pow_pos (by omega));omega
 have hBu:Blk .u32 155 w4 w3.heap.size (zeros (l.length+2)):=(Blk.new .u32 155 w3 _).below hb4 (by simp);have hb34:Below w3.heap.size w3 w4:=hba.trans (hb4.mono (by simp));have hs4:=hb34.size;have hlt4:=hBu.lt;clear hba hb4;obtain⟨bx,ox,hax,hbx,hcx⟩:=hx.row.cell 0 hxl0;subst hax;have hcp:=Ql2 w4 w3.heap.size (l.length+2) cx bx ox xl hBu hx.row (by omega);clear hcx;obtain⟨n,hn⟩:∃n,v.length=n+2:=⟨v.length - 2,by omega⟩;have HN:Hid (v.length=n+2):=hn;rw[hn];rw[hn] at hvl2 hvll;clear hn;obtain⟨M,hM⟩:∃M,l.length=M+n+1:=⟨l.length - 1 - n,by omega⟩;have HM:Hid (l.length=M+n+1):=hM;have hmk2:∀w,(Instr.makeSlice 51 (.int .i64 ((l.length:Int)+2 - ((n:Int)+2))) (.int .i64 ((l.length:Int)+2 - ((n:Int)+2)))).run Tryz.prog w=.ok (.slice (some ⟨w.heap.size,0,none⟩) (M+1) (M+1)) (w.alloc (.cells (wordCells .u32 (zeros (M+1))) 155)):=
  fun w=>Qa4 _ (M+1) (by omega) (by omega) w
 clear hM;go_wp2_with fail;clear hcp hmk2;generalize hW0:(w4.setRow w3.heap.size (wordCells .u32 (xl++zeros (l.length+2 - xl.length)))).alloc (.cells (wordCells .u32 (zeros (M+1))) 155)=W0 at*;have hgq:(w4.setRow w3.heap.size (wordCells .u32 (xl++zeros (l.length+2 - xl.length)))).heap.size=w4.heap.size:=by simp[World.setRow]
 have hBu0:Blk .u32 155 W0 w3.heap.size (xl++zeros (l.length+2 - xl.length)):=by
  rw[<-hW0];exact(hBu.setRow _).alloc _
 have hBq0:Blk .u32 155 W0 w4.heap.size (zeros (M+1)):=by
  rw[<-hW0,<-hgq];exact Blk.new _ _ _ _
 have hb0:Below w3.heap.size w3 W0:=by
  rw[<-hW0];exact(below_setRow hb34 lZ _).alloc (by rw[hgq];omega) _
 clear hW0 hgq hBu;obtain⟨bv,ov,hav,hbv,_⟩:=hv.row.cell 0 (by have:=HN.out;omega);subst hav;have hvc:∀i,i<n+2->w3.cell? ⟨bv,ov+i,none⟩=some (.int .u32 ((v.getD i 0:Nat):Int)):=by
  intro i hi;obtain⟨b',o',e1,_,e2⟩:=hv.row.cell i (by have:=HN.out;omega);obtain⟨rfl,rfl⟩:bv=b'/\ov=o':=by simpa using e1
  exact e2
 obtain⟨v1,hv1⟩:=nm (v.getD (n+1) 0);obtain⟨v0,hv0⟩:=nm (v.getD n 0);have hv1b:v1<4294967296:=by rw[<-hv1];exact hv.num.small.getD (by omega) _
 have hv0b:v0<4294967296:=by rw[<-hv0];exact hv.num.small.getD (by omega) _
 have hv1p:1<=v1:=by
  have e1:=hv.num.trim;have e2:=HN.out;rcases e1 with e1|e1
  · rw[e1] at e2;simp at e2
  · rw[e2] at e1;rw[<-hv1];simp only[Nat.add_one_sub_one] at e1;omega
 have g1:=(hb0.cell (p:=⟨bv,ov+(n+1),none⟩) hbv).trans (hvc (n+1) (by omega));have g2:=(hb0.cell (p:=⟨bv,ov+n,none⟩) hbv).trans (hvc n (by omega));rw[hv1] at g1;rw[hv0] at g2;have HVC:Hid (∀i,i<n+2->w3.cell? ⟨bv,ov+i,none⟩=some (.int .u32 ((v.getD i 0:Nat):Int))):=hvc;have HV1:Hid (v.getD (n+1) 0=v1):=hv1;have HV0:Hid (v.getD n 0=v0):=hv0;clear hvc hv1 hv0;go_region
 all_goals
  go_wp2
 clear g1 g2;have hVb:V<4294967296 ^ (n+2):=by
  have e1:=Qab (B:=4294967296) (by omega) hv.num.small;rw[hv.num.eq,HN.out] at e1;exact e1
 have hV0:0<V:=by rw[<-HV.out];exact Nat.mul_pos hy (Nat.pow_pos (by omega))
 have HI0:DivInv X V n M (M+1) (xl++zeros (l.length+2 - xl.length)) (zeros (M+1)):=
  Ql1 X V n M _ xl v hx.num (by rw[show M+n+2=l.length+1 from by have:=HM.out;omega];exact HXB.out) hv.num HN.out (by have:=HM.out;omega)
 have HM0:DivMem w3 W0 bv ov w3.heap.size w4.heap.size n (l.length+2) v (xl++zeros (l.length+2 - xl.length)) (zeros (M+1)):=
  ⟨hb0,hbv,HVC.out,hv.num.small,hBu0,hBq0,hlt4,by rw[List.length_append,Qai];omega,hx.num.small.append (Qap _ _ (by omega))⟩
 have HMH:=Hi HM0;have HIH:=Hi HI0;clear HI0 hVb hBu0 hBq0 hb0 hs' HM0;rw[show (l.length:Int)+2 - ((n:Int)+2) - 1=((M+1:Nat):Int) - 1 from by have:=HM.out;omega];refine wp_loop_rounds (M+1+1) ?_;refine(Qlr _ w3 bv ov cv w3.heap.size w4.heap.size n M (l.length+2) v1 v0 X V v _ (by have:=HM.out;omega) (by omega) hv.num HN.out HV1.out HV0.out hv1p ?hex (M+1)) _ _ _ lZ HMH.out.drew HIH.out
 case hex=>
  intro us qs
  iterate 270 intro
  intro wr hm hI;have hdone:val 4294967296 qs=x / y/\val 4294967296 us / 2 ^ s=x % y:=by
   have e1:=hI.eq;have e2:=hI.lt;rw[Nat.pow_zero,Nat.one_mul] at e1 e2;rw[List.drop_zero] at e1;exact Qfg (Nat.pow_pos (by decide)) HX.out HV.out e1 e2
  obtain⟨hd1,hd2⟩:=hdone;have HD2:=Hi hd2;have HIN:=Hi hI;have HME:=Hi hm;clear hd2 hI hm HMH HIH;go_wp2_with fail;refine(Qax w4.heap.size (M+1) (M+1) (x / y) qs wr HME.out.qb HIN.out.qlen HIN.out.qsmall lZ (by have:=HM.out;omega) hd1).mono ?_;rintro e w5 ⟨⟨aq,cq,rq,rfl,huq⟩,rfl⟩;go_wp2_with fail;refine(Qax w3.heap.size (l.length+2) (l.length+2) _ us w5 HME.out.ub HME.out.ul HME.out.usmall lZ (by omega) rfl).mono ?_;rintro e w6 ⟨⟨au,cu,ru,rfl,huu⟩,rfl⟩;go_wp2_with fail;refine(Ql6 au cu s ru _ w6 huu hs31).mono ?_;rintro e w7 ⟨⟨ar,cr,rr,rfl,hur⟩,hb7⟩;go_wp2;go_ret2;rw[HD2.out] at hur;refine⟨⟨aq,cq,rq,ar,cr,rr,rfl,huq.below hb7,hur⟩,?_⟩;have hb36:Below w3.heap.size w3 w6:=HME.out.below;exact hb.trans ((hb3.mono hb.size).trans ((hb36.mono (Nat.le_trans hb.size hb3.size)).trans (hb7.mono (Nat.le_trans hb.size (Nat.le_trans hb3.size hb36.size)))))
theorem Qa9(a1 a2:Option Addr)(c1 c2:Nat)(l m:List Nat)(x y:Nat)(w:World)(h1:U32 w a1 c1 l x)(h2:U32 w a2 c2 m y)(hy:0<y)(hlb:l.length<1099511627770):
 Calls Tryz.prog 112 #[.slice a1 l.length c1,.slice a2 m.length c2] w (DivOk w x y):=by
 by_cases hxy:x<y
 · exact Qlm a1 a2 c1 c2 l m x y w h1 h2 hxy
 by_cases hl:l.length<=2
 · exact Qln a1 a2 c1 c2 l m x y w h1 h2 hy (by omega) hl
 by_cases hm:m.length=1
 · exact Qlo a1 a2 c1 c2 l m x y w h1 h2 hy (by omega) (by omega) hm
 ·
  have hm0:m.length≠0:=by
   intro h0;have:=(h2.num.len_zero (by decide)).2 h0;omega
  exact Ql3 a1 a2 c1 c2 l m x y w h1 h2 hy (by omega) (by omega) (by omega) hlb
end Go.Proofs.YtfpcipgoedifaaaGreatDoor
