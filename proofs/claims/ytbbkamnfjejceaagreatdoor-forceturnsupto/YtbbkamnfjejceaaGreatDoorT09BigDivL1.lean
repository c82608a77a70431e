/- rafterbig's div: its loop over the places, from above. -/
import Derived.Test.YtbbkamnfjejceaaGreatDoorT08BigDivL2
namespace Go.Proofs.YtbbkamnfjejceaaGreatDoor
open Go.RowKit
set_option linter.unusedVariables false
set_option maxRecDepth 1000000 in
def PlaceExit(Qx:Exit→Act→World→Prop)(w3:World)(bv ov cv gu gq n M L X V:Nat)(v:List Nat)(x10:Value):Prop:=
 ∀(us qs:List Nat) {s0 s1 s2 s3 s4 s5 s6 s7 s8 s9 s11 s13 s14 s16 s17 s18 s19 s20 s21 s22 s23 s24 s25 s26 s27 s28 s29 s30 s31 s32 s33 s34 s35 s36 s37 s38 s39 s40 s41 s42 s43 s44 s45 s46 s47 s48 s49 s50 s51 s52 s53 s54 s55 s56 s57 s58 s59 s60 s61 s62 s63 s64 s65 s66 s67 s68 s69 s70 s71 s72 s73 s74 s75 s76 s77 s78 s79 s80 s81 s82 s83 s84 s85 s86 s87 s88 s89 s90 s91 s92 s93 s94 s95 s96 s97 s98 s99 s100 s101 s102 s103 s104 s105 s106 s107 s108 s109 s110 s111 s112 s113 s114 s115 s116 s117 s118 s119 s120 s121 s122 s123 s124 s125 s126 s127 s128 s129 s130 s131 s132 s133 s134 s135 s136 s137 s138 s139 s140 s141 s142 s143 s144 s145 s146 s147 s148 s149 s150 s151 s152 s153 s154 s155 s156 s157 s158 s159 s160 s161 s162 s163 s164 s165 s166 s167 s168 s169 s170 s171 s172 s173 s174 s175 s176 s177 s178 s179 s180 s181 s182 s183 s184 s185 s186 s187 s188 s189 s190 s191 s192 s193 s194 s195 s196 s197 s198 s199 s200 s201 s202 s203 s204 s205 s206 s207 s208 s209 s210 s211 s212 s213 s214 s215 s216 s217 s218 s219 s220 s221 s222 s223 s224 s225 s226 s227 s228 s229 s230 s231 s232 s233 s234 s235 s236 s237 s238 s239 s240 s241 s242 s243 s244 s245 s246 s247 s248 s249 s250 s251 s252 s253 s254 s255 s256 s257 s258 s259 s260 s261 s262 s263 s264 s265 s266 s267 s268 s269 s270 s271 s272:Value} (wr:World),DivMem w3 wr bv ov gu gq n L v us qs→DivInv X V n M 0 us qs→
    Qx (.exit 0) ⟨#[s0,s1,s2,s3,s4,s5,s6,s7,s8,s9,x10,s11,.slice (some ⟨gu,0,none⟩) L L,s13,s14,.slice (some ⟨gq,0,none⟩) (M+1) (M+1),s16,s17,s18,s19,s20,s21,s22,s23,s24,s25,s26,s27,s28,s29,s30,s31,s32,s33,s34,s35,s36,s37,s38,s39,s40,s41,s42,s43,s44,s45,s46,s47,s48,s49,s50,s51,s52,s53,s54,s55,s56,s57,s58,s59,s60,s61,s62,s63,s64,s65,s66,s67,s68,s69,s70,s71,s72,s73,s74,s75,s76,s77,s78,s79,s80,s81,s82,s83,s84,s85,s86,s87,s88,s89,s90,s91,s92,s93,s94,s95,s96,s97,s98,s99,s100,s101,s102,s103,s104,s105,s106,s107,s108,s109,s110,s111,s112,s113,s114,s115,s116,s117,s118,s119,s120,s121,s122,s123,s124,s125,s126,s127,s128,s129,s130,s131,s132,s133,s134,s135,s136,s137,s138,s139,s140,s141,s142,s143,s144,s145,s146,s147,s148,s149,s150,s151,s152,s153,s154,s155,s156,s157,s158,s159,s160,s161,s162,s163,s164,s165,s166,s167,s168,s169,s170,s171,s172,s173,s174,s175,s176,s177,s178,s179,s180,s181,s182,s183,s184,s185,s186,s187,s188,s189,s190,s191,s192,s193,s194,s195,s196,s197,s198,s199,s200,s201,s202,s203,s204,s205,s206,s207,s208,s209,s210,s211,s212,s213,s214,s215,s216,s217,s218,s219,s220,s221,s222,s223,s224,s225,s226,s227,s228,s229,s230,s231,s232,s233,s234,s235,s236,s237,s238,s239,s240,s241,s242,s243,s244,s245,s246,s247,s248,s249,s250,s251,s252,s253,s254,s255,s256,s257,s258,s259,s260,s261,s262,s263,s264,s265,s266,s267,s268,s269,s270,s271,s272],[]⟩ wr
set_option maxRecDepth 1000000 in
def PlaceAt(Qx:Exit→Act→World→Prop)(w3:World)(bv ov cv gu gq n M L v1 v0 X V:Nat)(v:List Nat)(x10:Value)(t:Nat):Prop:=
 ∀(us qs:List Nat) {s0 s1 s2 s3 s4 s5 s6 s7 s8 s9 s14 s19 s20 s21 s22 s23 s24 s25 s26 s27 s28 s29 s30 s31 s32 s33 s34 s35 s36 s37 s38 s39 s40 s41 s42 s43 s44 s45 s46 s47 s48 s49 s50 s51 s52 s53 s54 s55 s56 s57 s58 s59 s60 s61 s62 s63 s64 s65 s66 s67 s68 s69 s70 s71 s72 s73 s74 s75 s76 s77 s78 s79 s80 s81 s82 s83 s84 s85 s86 s87 s88 s89 s90 s91 s92 s93 s94 s95 s96 s97 s98 s99 s100 s101 s102 s103 s104 s105 s106 s107 s108 s109 s110 s111 s112 s113 s114 s115 s116 s117 s118 s119 s120 s121 s122 s123 s124 s125 s126 s127 s128 s129 s130 s131 s132 s133 s134 s135 s136 s137 s138 s139 s140 s141 s142 s143 s144 s145 s146 s147 s148 s149 s150 s151 s152 s153 s154 s155 s156 s157 s158 s159 s160 s161 s162 s163 s164 s165 s166 s167 s168 s169 s170 s171 s172 s173 s174 s175 s176 s177 s178 s179 s180 s181 s182 s183 s184 s185 s186 s187 s188 s189 s190 s191 s192 s193 s194 s195 s196 s197 s198 s199 s200 s201 s202 s203 s204 s205 s206 s207 s208 s209 s210 s211 s212 s213 s214 s215 s216 s217 s218 s219 s220 s221 s222 s223 s224 s225 s226 s227 s228 s229 s230 s231 s232 s233 s234 s235 s236 s237 s238 s239 s240 s241 s242 s243 s244 s245 s246 s247 s248 s249 s250 s251 s252 s253 s254 s255 s256 s257 s258 s259 s260 s261 s262 s263 s264 s265 s266 s267 s268 s269 s270 s271 s272:Value} (wr:World),t≤M+1→DivMem w3 wr bv ov gu gq n L v us qs→DivInv X V n M t us qs→
    Code.rounds Tryz.prog (((Tryz.f172.body.map loopsIn).getD []).getD 0 .skip) Qx (t+1) ⟨#[s0,s1,s2,s3,s4,s5,s6,s7,s8,s9,x10,.slice (some ⟨bv,ov,none⟩) (n+2) cv,.slice (some ⟨gu,0,none⟩) L L,.int .i64 ((n:Int)+2),s14,.slice (some ⟨gq,0,none⟩) (M+1) (M+1),.int .u64 (v1:Int),.int .u64 (v0:Int),.int .i64 ((t:Int) - 1),s19,s20,s21,s22,s23,s24,s25,s26,s27,s28,s29,s30,s31,s32,s33,s34,s35,s36,s37,s38,s39,s40,s41,s42,s43,s44,s45,s46,s47,s48,s49,s50,s51,s52,s53,s54,s55,s56,s57,s58,s59,s60,s61,s62,s63,s64,s65,s66,s67,s68,s69,s70,s71,s72,s73,s74,s75,s76,s77,s78,s79,s80,s81,s82,s83,s84,s85,s86,s87,s88,s89,s90,s91,s92,s93,s94,s95,s96,s97,s98,s99,s100,s101,s102,s103,s104,s105,s106,s107,s108,s109,s110,s111,s112,s113,s114,s115,s116,s117,s118,s119,s120,s121,s122,s123,s124,s125,s126,s127,s128,s129,s130,s131,s132,s133,s134,s135,s136,s137,s138,s139,s140,s141,s142,s143,s144,s145,s146,s147,s148,s149,s150,s151,s152,s153,s154,s155,s156,s157,s158,s159,s160,s161,s162,s163,s164,s165,s166,s167,s168,s169,s170,s171,s172,s173,s174,s175,s176,s177,s178,s179,s180,s181,s182,s183,s184,s185,s186,s187,s188,s189,s190,s191,s192,s193,s194,s195,s196,s197,s198,s199,s200,s201,s202,s203,s204,s205,s206,s207,s208,s209,s210,s211,s212,s213,s214,s215,s216,s217,s218,s219,s220,s221,s222,s223,s224,s225,s226,s227,s228,s229,s230,s231,s232,s233,s234,s235,s236,s237,s238,s239,s240,s241,s242,s243,s244,s245,s246,s247,s248,s249,s250,s251,s252,s253,s254,s255,s256,s257,s258,s259,s260,s261,s262,s263,s264,s265,s266,s267,s268,s269,s270,s271,s272],[]⟩ wr
set_option maxRecDepth 1000000 in
set_option maxHeartbeats 4000000 in
theorem Qha(Qx:Exit→Act→World→Prop)(w3:World)(bv ov cv gu gq n M L v1 v0 X V:Nat)(v:List Nat)(x10:Value)(hexit:PlaceExit Qx w3 bv ov cv gu gq n M L X V v x10):PlaceAt Qx w3 bv ov cv gu gq n M L v1 v0 X V v x10 0:=by
 intro us qs
 iterate 265 intro
 intro wr ht hm hi;have HM:=Hi hm;have HI:=Hi hi;clear hm hi;rw[rounds_succ]
 conv=>arg 2;whnf
 go_wp2;exact hexit _ _ _ HM.out HI.out
set_option maxRecDepth 1000000 in
set_option maxHeartbeats 8000000 in
theorem Qhb(Qx:Exit→Act→World→Prop)(w3:World)(bv ov cv gu gq n M L v1 v0 X V:Nat)(v:List Nat)(x10:Value)(hL:L=M+n+3)(hLb:L≤1099511627776)(hv:Num 4294967296 v V)(hvl:v.length=n+2)(hv1:v.getD (n+1) 0=v1)(hv0:v.getD n 0=v0)(h1:1≤v1)
 (j:Nat) (ih:PlaceAt Qx w3 bv ov cv gu gq n M L v1 v0 X V v x10 j):PlaceAt Qx w3 bv ov cv gu gq n M L v1 v0 X V v x10 (j+1):=by
 intro us qs
 iterate 265 intro
 intro wr hjM hm hI;have hv1b:v1<4294967296:=by rw[←hv1];exact hv.small.getD (by omega) _
 have hv0b:v0<4294967296:=by rw[←hv0];exact hv.small.getD (by omega) _
 have hV0:0<V:=by
  have e1:=hv.trim.pow_le (B:=4294967296) (by omega);rw[hv.eq] at e1;have e2:0<4294967296 ^ (v.length - 1):=Nat.pow_pos (by omega);omega
 have hul:=hI.ulen;have ei:((j+1:Nat):Int) - 1=(j:Int):=by omega
 rw[ei];clear ei;obtain⟨u2,hu2⟩:∃d,us.getD (j+(n+2)) 0=d:=⟨_,rfl⟩;obtain⟨u1,hu1⟩:∃d,us.getD (j+(n+1)) 0=d:=⟨_,rfl⟩;obtain⟨u0,hu0⟩:∃d,us.getD (j+n) 0=d:=⟨_,rfl⟩;have b2:u2<4294967296:=by rw[←hu2];exact hI.usmall.getD (by omega) _
 have b1:u1<4294967296:=by rw[←hu1];exact hI.usmall.getD (by omega) _
 have b0:u0<4294967296:=by rw[←hu0];exact hI.usmall.getD (by omega) _
 have g2:=hm.ub.cell (j+(n+2)) (by omega);have g1:=hm.ub.cell (j+(n+1)) (by omega);rw[hu2] at g2;rw[hu1] at g1;obtain⟨hh,hhh⟩:∃hh,u2*4294967296+u1=hh:=⟨_,rfl⟩;obtain⟨Q,hQ⟩:∃Q,val 4294967296 us / (4294967296 ^ j*V)=Q:=⟨_,rfl⟩;obtain⟨G1,G2,G3,G4⟩:=hI.guess (by omega) hv hvl hu2 hu1 hu0 hv1 hv0 h1 hhh hQ;have hQb:=hI.q_lt hV0;rw[hQ] at hQb;have ok:GuessOk n j L v1 v0 u0 Q hh us:=⟨hLb,by omega,h1,hv1b,hv0b,hu0,b0,hQb,G2,G3,G4⟩;have hor:bits .or .u64 ((u2:Int)*4294967296) (u1:Int)=(hh:Int):=by
  rw[or64 ((u2:Int)*4294967296) (u1:Int) u2 u1 32 (by omega) rfl b1 (by omega)];omega
 have hhb:hh<18446744073709551616:=by omega
 obtain⟨g',hg'⟩:∃g',hh / v1=g':=⟨_,rfl⟩;obtain⟨r',hr'⟩:∃r',hh % v1=r':=⟨_,rfl⟩;have t1:(hh:Int) / (v1:Int)=(g':Int):=by rw[←hg'];simp
 have t2:(hh:Int) % (v1:Int)=(r':Int):=by rw[←hr'];simp
 have t3:(hh:Int).tmod (v1:Int)=(r':Int):=by rw[Int.tmod_eq_emod_of_nonneg (by omega)];exact t2
 have t4:(hh:Int).tdiv (v1:Int)=(g':Int):=by rw[Int.tdiv_eq_ediv_of_nonneg (by omega)];exact t1
 have hgb:g'<18446744073709551616:=by rw[←hg'];exact Nat.lt_of_le_of_lt (Nat.div_le_self _ _) hhb
 have hrb:r'<v1:=by rw[←hr'];exact Nat.mod_lt _ (by omega)
 have t5:=Qbg g' hgb;have hgr:g'*v1+r'=hh:=by rw[←hg',←hr',Nat.mul_comm];exact Nat.div_add_mod _ _
 have hQg:Q≤g':=by rw[←hg'];exact G1
 have qv:((v1:Int) == 0)=false:=by rw[beq_eq_false_iff_ne];omega
 have OK:=Hi ok;have HM:=Hi hm;have HI:=Hi hI;have HQ:=Hi hQ;have HU2:=Hi hu2;have HGR:=Hi hgr;have HVN:=Hi hv;have HVL:=Hi hvl;have HL:=Hi hL;have HJ:=Hi hjM;have hjn:j+(n+2)<L:=by omega
 have hjn':(j:Int)+((n:Int)+2)<(L:Int):=by omega
 have hjn0:(0:Int)≤(j:Int)+((n:Int)+2):=by omega
 have hjn1:(j:Int)+((n:Int)+2) - 1<(L:Int):=by omega
 have hjn2:(0:Int)≤(j:Int)+((n:Int)+2) - 1:=by omega
 clear G1 G2 G3 G4 hg' hr' hgr hQ hu2 hu1 hu0 hI hm hhh hul hv hvl hv1 hv0 ok hL hjM;rw[rounds_succ]
 conv=>arg 2;whnf
 go_wp2;go_quiet (fail);go_wp2;go_quiet (fail);go_wp2;refine wp_loop_rounds (g'+1) ?_;refine(Qhf _ w3 bv ov cv gu gq n j L v1 v0 u0 Q hh v us qs x10 _ OK.out ?hex g') g' r' _ (Nat.le_refl _) ((HM.out.drewN _).drewN _) hgb (by omega) HGR.out hQg
 case hex=>
  clear g1 g2 hor t1 t2 t3 t4 t5 hgb hrb hQg qv;intro g
  iterate 264 intro
  intro wr1 hm1 hgB hQg hgQ;go_wp2;refine wp_loop_rounds (n+2+1) ?_;refine(Qhh _ w3 bv ov cv gu gq n j L (val 4294967296 (us.take (j+(n+2)))) u2 g v qs x10 _ _ _ hLb hjn hgB ?hex2 (n+2)) 0 0 0 us _ (by omega) hm1 (by omega) (by omega) HU2.out ?hz2 ?hv2
  case hz2=>
   intro p hp;have e1:=HL.out;have e2:=HJ.out;have e3:=Qab (B:=4294967296) (by omega) HVN.out.small;rw[HVN.out.eq,HVL.out] at e3;have e4:=HI.out.zero (by omega) e3;exact Qjw 4294967296 (by omega) us (j+(n+2)) e4 p hp
  case hv2=>simp[val]
  case hex2=>
   intro c d us1
   iterate 262 intro
   intro wr2 hm2 hc hd ha hz hvv;have hql:=HI.out.qlen;have hul1:=hm2.ul;have k0:=hm2.ub.cell (j+(n+2)) (by omega);have k1:=hm2.ub.free (j+(n+2));rw[ha] at k0;have f0:=hm2.qb.cell j (by have:=HJ.out;omega);have f1:=hm2.qb.free j;obtain⟨z,hz0⟩:∃z,qs.getD j 0=z:=⟨_,rfl⟩;rw[hz0] at f0;have hVb:=Qab (B:=4294967296) (by omega) HVN.out.small;rw[HVN.out.eq,HVL.out] at hVb;have hU:val 4294967296 us=val 4294967296 (us.take (j+(n+2)))+4294967296 ^ (j+(n+2))*u2:=by
    have e1:=HL.out;have e2:=HJ.out;exact Qfg 4294967296 us (j+(n+2)) u2 (by have:=HI.out.ulen;omega) HU2.out (HI.out.zero (by omega) hVb)
   have hLt:val 4294967296 (us1.take (j+(n+2)))<4294967296 ^ (j+(n+2)):=by
    have e1:=Qab (B:=4294967296) (by omega) (hm2.usmall.take (j+(n+2)));rw[List.length_take,hul1,Nat.min_eq_left (by omega)] at e1;exact e1
   rw[show v.take (n+2)=v from List.take_of_length_le (by rw[HVL.out];exact Nat.le_refl _),HVN.out.eq] at hvv;have hend:=Qjt 4294967296 j (n+2) u2 c d g _ _ V _ hLt hU hV0 (by omega) hvv (by rw[HQ.out];exact hQg) (by rw[HQ.out];exact hgQ) (by omega);have hD:4294967296 ^ j*V≤4294967296 ^ (j+(n+2)):=by rw[Nat.pow_add];exact Nat.mul_le_mul_left _ (by omega)
   have hmod:=Nat.mod_lt (val 4294967296 us) (Nat.mul_pos (Nat.pow_pos (n:=j) (show 0<4294967296 by omega)) hV0);rw[HQ.out] at hend;have HM2:=Hi hm2;have HZ:=Hi hz;have HD:=Hi hD;have HMOD:=Hi hmod;have HUL:=Hi hul1;have hjq:(j:Int)<(M:Int)+1:=by have:=HJ.out;omega
   have HHQ:=Hi HI.out;clear hD hmod hvv hU hVb hz hm2 hul1 hql hz0 ha hLt hm1;rcases hend with ⟨rfl,hcd,hmo⟩|⟨hgQ1,hcd,hmo⟩
   ·
    have tt:IntKind.u64.wrap (IntKind.u64.wrap ((u2:Int) - (c:Int)) - (d:Int))=0:=by
     rw[Qan,Qan];omega
    have HMO:=Hi hmo;clear hmo hcd hQg hgQ;go_wp2;refine ih (us1.set (j+(n+2)) 0) (qs.set j g) _ (by have:=HJ.out;omega) ((HM2.out.setU _ 0 (by omega)).setQ j g) (HI.out.next (by have:=HJ.out;omega) hV0 HQ.out (by rw[List.length_set,HUL.out,HL.out]) (HM2.out.usmall.set _ (by omega)) ?_);rw[Qfh _ _ _ (by rw[HUL.out];exact hjn) HZ.out];exact HMO.out
   ·
    obtain⟨T,hT⟩:∃T:Nat,T=18446744073709551615:=⟨_,rfl⟩;have tt:IntKind.u64.wrap (IntKind.u64.wrap ((u2:Int) - (c:Int)) - (d:Int))=(T:Int):=by
     rw[Qan,Qan];omega
    have t1:(T:Int) % 4294967296=4294967295:=by omega
    have t2:(T:Int) / 9223372036854775808=1:=by omega
    have hTb:T<18446744073709551616:=by omega
    have eg:(g:Int) - 1=(Q:Int):=by omega
    have EG:=Hi eg;have hg1:(1:Int)≤(g:Int):=by omega
    have HMO:=Hi hmo;clear hmo hcd hQg hgQ hT eg hgQ1;go_wp2;rw[EG.out];refine wp_loop_rounds (n+2+1) ?_;refine(Qhl _ w3 bv ov cv gu gq n j L (val 4294967296 (us1.take (j+(n+2)))) 4294967295 v qs x10 _ _ _ _ hLb hjn ?hex3 (n+2)) 0 0 (us1.set (j+(n+2)) 4294967295) _ (by omega) (HM2.out.setU _ 4294967295 (by omega)) (by omega) (Qa4 _ _ _ (by rw[HUL.out];exact hjn)) ?hz3 ?hv3
    case hz3=>intro p hp;rw[getD_set_ne _ _ _ _ (by omega)];exact HZ.out p hp
    case hv3=>rw[List.take_set_of_le (Nat.le_refl _)];simp[val]
    case hex3=>
     clear k0 k1 f0 f1 tt t1 t2 hTb hg1;intro c3 us3
     iterate 263 intro
     intro wr3 hm3 hc3 ha3 hz3 hv3;have k0:=hm3.ub.cell (j+(n+2)) (by rw[hm3.ul];exact hjn);have k1:=hm3.ub.free (j+(n+2));rw[ha3] at k0;have f0:=hm3.qb.cell j (by have:=HJ.out;have:=HI.out.qlen;omega);have f1:=hm3.qb.free j;obtain⟨z',hz0'⟩:∃z,qs.getD j 0=z:=⟨_,rfl⟩;rw[hz0'] at f0;have hLt:val 4294967296 (us3.take (j+(n+2)))<4294967296 ^ (j+(n+2)):=by
      have e1:=Qab (B:=4294967296) (by omega) (hm3.usmall.take (j+(n+2)));rw[List.length_take,hm3.ul,Nat.min_eq_left (by omega)] at e1;exact e1
     rw[show v.take (n+2)=v from List.take_of_length_le (by rw[HVL.out];exact Nat.le_refl _),HVN.out.eq,HMO.out] at hv3;obtain⟨hc1,hmo⟩:=Qjy _ _ c3 _ _ hLt HMOD.out HD.out hc3 hv3;subst hc1;have HM3:=Hi hm3;have HZ3:=Hi hz3;have HMO3:=Hi hmo;clear hm3 hz3 hmo hv3 hLt ha3 hz0' hc3;go_wp2;refine ih (us3.set (j+(n+2)) 0) (qs.set j Q) _ (by have:=HJ.out;omega) ((HM3.out.setU _ 0 (by omega)).setQ j Q) (HI.out.next (by have:=HJ.out;omega) hV0 HQ.out (by rw[List.length_set,HM3.out.ul,HL.out]) (HM3.out.usmall.set _ (by omega)) ?_);rw[Qfh _ _ _ (by rw[HM3.out.ul];exact hjn) HZ3.out];exact HMO3.out
theorem Qhc(Qx:Exit→Act→World→Prop)(w3:World)(bv ov cv gu gq n M L v1 v0 X V:Nat)(v:List Nat)(x10:Value)(hL:L=M+n+3)(hLb:L≤1099511627776)(hv:Num 4294967296 v V)(hvl:v.length=n+2)(hv1:v.getD (n+1) 0=v1)(hv0:v.getD n 0=v0)(h1:1≤v1)
 (hexit:PlaceExit Qx w3 bv ov cv gu gq n M L X V v x10) (t:Nat):PlaceAt Qx w3 bv ov cv gu gq n M L v1 v0 X V v x10 t:=by
 induction t with
 |zero=>exact Qha Qx w3 bv ov cv gu gq n M L v1 v0 X V v x10 hexit
 |succ t ih=>exact Qhb Qx w3 bv ov cv gu gq n M L v1 v0 X V v x10 hL hLb hv hvl hv1 hv0 h1 t ih
end Go.Proofs.YtbbkamnfjejceaaGreatDoor
