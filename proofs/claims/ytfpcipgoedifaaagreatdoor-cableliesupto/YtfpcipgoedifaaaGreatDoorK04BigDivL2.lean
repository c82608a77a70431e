/- rafterbig's div: its loop that mends the guess. -/
import Derived.Test.YtfpcipgoedifaaaGreatDoorK03BigDivL3
namespace Go.Proofs.YtfpcipgoedifaaaGreatDoor
open Go.RowKit
set_option linter.unusedVariables false
set_option maxRecDepth 1000000 in
def GuessExit(Qx:Exit->Act->World->Prop)(w3:World)(bv ov cv gu gq n j L v1 v0 Q:Nat)(v us qs:List Nat)(x10 x15:Value):Prop:=
 ∀(g:Nat) {s0 s1 s2 s3 s4 s5 s6 s7 s8 s9 s14 s19 s21 s22 s23 s24 s25 s26 s27 s28 s29 s30 s31 s32 s33 s34 s35 s36 s37 s38 s39 s40 s41 s42 s43 s44 s45 s46 s47 s48 s49 s50 s51 s52 s53 s54 s55 s56 s57 s58 s59 s60 s61 s62 s63 s64 s65 s66 s67 s68 s69 s70 s71 s72 s73 s74 s75 s76 s77 s78 s79 s80 s81 s82 s83 s84 s85 s86 s87 s88 s89 s90 s91 s92 s93 s94 s95 s96 s97 s98 s99 s100 s101 s102 s103 s104 s105 s106 s107 s108 s109 s110 s111 s112 s113 s114 s115 s116 s117 s118 s119 s120 s121 s122 s123 s124 s125 s126 s127 s128 s129 s130 s131 s132 s133 s134 s135 s136 s137 s138 s139 s140 s141 s142 s143 s144 s145 s146 s147 s148 s149 s150 s151 s152 s153 s154 s155 s156 s157 s158 s159 s160 s161 s162 s163 s164 s165 s166 s167 s168 s169 s170 s171 s172 s173 s174 s175 s176 s177 s178 s179 s180 s181 s182 s183 s184 s185 s186 s187 s188 s189 s190 s191 s192 s193 s194 s195 s196 s197 s198 s199 s200 s201 s202 s203 s204 s205 s206 s207 s208 s209 s210 s211 s212 s213 s214 s215 s216 s217 s218 s219 s220 s221 s222 s223 s224 s225 s226 s227 s228 s229 s230 s231 s232 s233 s234 s235 s236 s237 s238 s239 s240 s241 s242 s243 s244 s245 s246 s247 s248 s249 s250 s251 s252 s253 s254 s255 s256 s257 s258 s259 s260 s261 s262 s263 s264 s265 s266 s267 s268 s269 s270 s271 s272:Value} (wr:World),DivMem w3 wr bv ov gu gq n L v us qs->g<4294967296->Q<=g->g<=Q+1->
    Qx (.exit 2) ⟨#[s0,s1,s2,s3,s4,s5,s6,s7,s8,s9,x10,.slice (some ⟨bv,ov,none⟩) (n+2) cv,.slice (some ⟨gu,0,none⟩) L L,.int .i64 ((n:Int)+2),s14,x15,.int .u64 (v1:Int),.int .u64 (v0:Int),.int .i64 (j:Int),s19,.int .u64 (g:Int),s21,s22,s23,s24,s25,s26,s27,s28,s29,s30,s31,s32,s33,s34,s35,s36,s37,s38,s39,s40,s41,s42,s43,s44,s45,s46,s47,s48,s49,s50,s51,s52,s53,s54,s55,s56,s57,s58,s59,s60,s61,s62,s63,s64,s65,s66,s67,s68,s69,s70,s71,s72,s73,s74,s75,s76,s77,s78,s79,s80,s81,s82,s83,s84,s85,s86,s87,s88,s89,s90,s91,s92,s93,s94,s95,s96,s97,s98,s99,s100,s101,s102,s103,s104,s105,s106,s107,s108,s109,s110,s111,s112,s113,s114,s115,s116,s117,s118,s119,s120,s121,s122,s123,s124,s125,s126,s127,s128,s129,s130,s131,s132,s133,s134,s135,s136,s137,s138,s139,s140,s141,s142,s143,s144,s145,s146,s147,s148,s149,s150,s151,s152,s153,s154,s155,s156,s157,s158,s159,s160,s161,s162,s163,s164,s165,s166,s167,s168,s169,s170,s171,s172,s173,s174,s175,s176,s177,s178,s179,s180,s181,s182,s183,s184,s185,s186,s187,s188,s189,s190,s191,s192,s193,s194,s195,s196,s197,s198,s199,s200,s201,s202,s203,s204,s205,s206,s207,s208,s209,s210,s211,s212,s213,s214,s215,s216,s217,s218,s219,s220,s221,s222,s223,s224,s225,s226,s227,s228,s229,s230,s231,s232,s233,s234,s235,s236,s237,s238,s239,s240,s241,s242,s243,s244,s245,s246,s247,s248,s249,s250,s251,s252,s253,s254,s255,s256,s257,s258,s259,s260,s261,s262,s263,s264,s265,s266,s267,s268,s269,s270,s271,s272],[]⟩ wr
set_option maxRecDepth 1000000 in
def GuessAt(Qx:Exit->Act->World->Prop)(w3:World)(bv ov cv gu gq n j L v1 v0 Q hh:Nat)(v us qs:List Nat)(x10 x15:Value)(t:Nat):Prop:=
 ∀(g r:Nat) {s0 s1 s2 s3 s4 s5 s6 s7 s8 s9 s14 s19 s22 s23 s24 s25 s26 s27 s28 s29 s30 s31 s32 s33 s34 s35 s36 s37 s38 s39 s40 s41 s42 s43 s44 s45 s46 s47 s48 s49 s50 s51 s52 s53 s54 s55 s56 s57 s58 s59 s60 s61 s62 s63 s64 s65 s66 s67 s68 s69 s70 s71 s72 s73 s74 s75 s76 s77 s78 s79 s80 s81 s82 s83 s84 s85 s86 s87 s88 s89 s90 s91 s92 s93 s94 s95 s96 s97 s98 s99 s100 s101 s102 s103 s104 s105 s106 s107 s108 s109 s110 s111 s112 s113 s114 s115 s116 s117 s118 s119 s120 s121 s122 s123 s124 s125 s126 s127 s128 s129 s130 s131 s132 s133 s134 s135 s136 s137 s138 s139 s140 s141 s142 s143 s144 s145 s146 s147 s148 s149 s150 s151 s152 s153 s154 s155 s156 s157 s158 s159 s160 s161 s162 s163 s164 s165 s166 s167 s168 s169 s170 s171 s172 s173 s174 s175 s176 s177 s178 s179 s180 s181 s182 s183 s184 s185 s186 s187 s188 s189 s190 s191 s192 s193 s194 s195 s196 s197 s198 s199 s200 s201 s202 s203 s204 s205 s206 s207 s208 s209 s210 s211 s212 s213 s214 s215 s216 s217 s218 s219 s220 s221 s222 s223 s224 s225 s226 s227 s228 s229 s230 s231 s232 s233 s234 s235 s236 s237 s238 s239 s240 s241 s242 s243 s244 s245 s246 s247 s248 s249 s250 s251 s252 s253 s254 s255 s256 s257 s258 s259 s260 s261 s262 s263 s264 s265 s266 s267 s268 s269 s270 s271 s272:Value} (wr:World),g<=t->DivMem w3 wr bv ov gu gq n L v us qs->g<18446744073709551616->r<4294967296->g*v1+r=hh->Q<=g->
    Code.rounds Tryz.prog (((Tryz.f112.body.map loopsIn).getD []).getD 1 .skip) Qx (t+1) ⟨#[s0,s1,s2,s3,s4,s5,s6,s7,s8,s9,x10,.slice (some ⟨bv,ov,none⟩) (n+2) cv,.slice (some ⟨gu,0,none⟩) L L,.int .i64 ((n:Int)+2),s14,x15,.int .u64 (v1:Int),.int .u64 (v0:Int),.int .i64 (j:Int),s19,.int .u64 (g:Int),.int .u64 (r:Int),s22,s23,s24,s25,s26,s27,s28,s29,s30,s31,s32,s33,s34,s35,s36,s37,s38,s39,s40,s41,s42,s43,s44,s45,s46,s47,s48,s49,s50,s51,s52,s53,s54,s55,s56,s57,s58,s59,s60,s61,s62,s63,s64,s65,s66,s67,s68,s69,s70,s71,s72,s73,s74,s75,s76,s77,s78,s79,s80,s81,s82,s83,s84,s85,s86,s87,s88,s89,s90,s91,s92,s93,s94,s95,s96,s97,s98,s99,s100,s101,s102,s103,s104,s105,s106,s107,s108,s109,s110,s111,s112,s113,s114,s115,s116,s117,s118,s119,s120,s121,s122,s123,s124,s125,s126,s127,s128,s129,s130,s131,s132,s133,s134,s135,s136,s137,s138,s139,s140,s141,s142,s143,s144,s145,s146,s147,s148,s149,s150,s151,s152,s153,s154,s155,s156,s157,s158,s159,s160,s161,s162,s163,s164,s165,s166,s167,s168,s169,s170,s171,s172,s173,s174,s175,s176,s177,s178,s179,s180,s181,s182,s183,s184,s185,s186,s187,s188,s189,s190,s191,s192,s193,s194,s195,s196,s197,s198,s199,s200,s201,s202,s203,s204,s205,s206,s207,s208,s209,s210,s211,s212,s213,s214,s215,s216,s217,s218,s219,s220,s221,s222,s223,s224,s225,s226,s227,s228,s229,s230,s231,s232,s233,s234,s235,s236,s237,s238,s239,s240,s241,s242,s243,s244,s245,s246,s247,s248,s249,s250,s251,s252,s253,s254,s255,s256,s257,s258,s259,s260,s261,s262,s263,s264,s265,s266,s267,s268,s269,s270,s271,s272],[]⟩ wr
structure GuessOk (n j L v1 v0 u0 Q hh:Nat) (us:List Nat):Prop where
 o1:L<=1099511627776
 o2:j+(n+2)<L
 o3:1<=v1
 o4:v1<4294967296
 o5:v0<4294967296
 o6:us.getD (j+n) 0=u0
 o7:u0<4294967296
 o8:Q<4294967296
 down:∀g r,g*v1+r=hh->r*4294967296+u0<g*v0->Q<g
 done:∀g r,g*v1+r=hh->g<4294967296->g*v0<=r*4294967296+u0->g<=Q+1
 brk:∀g r,g*v1+r=hh->4294967296<=r->g<4294967296
set_option maxRecDepth 1000000 in
set_option maxHeartbeats 4000000 in
theorem Qgk(Qx:Exit->Act->World->Prop)(w3:World)(bv ov cv gu gq n j L v1 v0 u0 Q hh:Nat)(v us qs:List Nat)(x10 x15:Value)(ok:GuessOk n j L v1 v0 u0 Q hh us)
 (hexit:GuessExit Qx w3 bv ov cv gu gq n j L v1 v0 Q v us qs x10 x15) (t g r:Nat) {s0 s1 s2 s3 s4 s5 s6 s7 s8 s9 s14 s19 s22 s23 s24 s25 s26 s27 s28 s29 s30 s31 s32 s33 s34 s35 s36 s37 s38 s39 s40 s41 s42 s43 s44 s45 s46 s47 s48 s49 s50 s51 s52 s53 s54 s55 s56 s57 s58 s59 s60 s61 s62 s63 s64 s65 s66 s67 s68 s69 s70 s71 s72 s73 s74 s75 s76 s77 s78 s79 s80 s81 s82 s83 s84 s85 s86 s87 s88 s89 s90 s91 s92 s93 s94 s95 s96 s97 s98 s99 s100 s101 s102 s103 s104 s105 s106 s107 s108 s109 s110 s111 s112 s113 s114 s115 s116 s117 s118 s119 s120 s121 s122 s123 s124 s125 s126 s127 s128 s129 s130 s131 s132 s133 s134 s135 s136 s137 s138 s139 s140 s141 s142 s143 s144 s145 s146 s147 s148 s149 s150 s151 s152 s153 s154 s155 s156 s157 s158 s159 s160 s161 s162 s163 s164 s165 s166 s167 s168 s169 s170 s171 s172 s173 s174 s175 s176 s177 s178 s179 s180 s181 s182 s183 s184 s185 s186 s187 s188 s189 s190 s191 s192 s193 s194 s195 s196 s197 s198 s199 s200 s201 s202 s203 s204 s205 s206 s207 s208 s209 s210 s211 s212 s213 s214 s215 s216 s217 s218 s219 s220 s221 s222 s223 s224 s225 s226 s227 s228 s229 s230 s231 s232 s233 s234 s235 s236 s237 s238 s239 s240 s241 s242 s243 s244 s245 s246 s247 s248 s249 s250 s251 s252 s253 s254 s255 s256 s257 s258 s259 s260 s261 s262 s263 s264 s265 s266 s267 s268 s269 s270 s271 s272:Value} (wr:World) (hm:DivMem w3 wr bv ov gu gq n L v us qs) (hr:r<4294967296) (hgr:g*v1+r=hh) (hQ:Q<=g)
 (hg:g<4294967296) (hc:g*v0<=r*4294967296+u0):
   Code.rounds Tryz.prog (((Tryz.f112.body.map loopsIn).getD []).getD 1 .skip) Qx (t+1) ⟨#[s0,s1,s2,s3,s4,s5,s6,s7,s8,s9,x10,.slice (some ⟨bv,ov,none⟩) (n+2) cv,.slice (some ⟨gu,0,none⟩) L L,.int .i64 ((n:Int)+2),s14,x15,.int .u64 (v1:Int),.int .u64 (v0:Int),.int .i64 (j:Int),s19,.int .u64 (g:Int),.int .u64 (r:Int),s22,s23,s24,s25,s26,s27,s28,s29,s30,s31,s32,s33,s34,s35,s36,s37,s38,s39,s40,s41,s42,s43,s44,s45,s46,s47,s48,s49,s50,s51,s52,s53,s54,s55,s56,s57,s58,s59,s60,s61,s62,s63,s64,s65,s66,s67,s68,s69,s70,s71,s72,s73,s74,s75,s76,s77,s78,s79,s80,s81,s82,s83,s84,s85,s86,s87,s88,s89,s90,s91,s92,s93,s94,s95,s96,s97,s98,s99,s100,s101,s102,s103,s104,s105,s106,s107,s108,s109,s110,s111,s112,s113,s114,s115,s116,s117,s118,s119,s120,s121,s122,s123,s124,s125,s126,s127,s128,s129,s130,s131,s132,s133,s134,s135,s136,s137,s138,s139,s140,s141,s142,s143,s144,s145,s146,s147,s148,s149,s150,s151,s152,s153,s154,s155,s156,s157,s158,s159,s160,s161,s162,s163,s164,s165,s166,s167,s168,s169,s170,s171,s172,s173,s174,s175,s176,s177,s178,s179,s180,s181,s182,s183,s184,s185,s186,s187,s188,s189,s190,s191,s192,s193,s194,s195,s196,s197,s198,s199,s200,s201,s202,s203,s204,s205,s206,s207,s208,s209,s210,s211,s212,s213,s214,s215,s216,s217,s218,s219,s220,s221,s222,s223,s224,s225,s226,s227,s228,s229,s230,s231,s232,s233,s234,s235,s236,s237,s238,s239,s240,s241,s242,s243,s244,s245,s246,s247,s248,s249,s250,s251,s252,s253,s254,s255,s256,s257,s258,s259,s260,s261,s262,s263,s264,s265,s266,s267,s268,s269,s270,s271,s272],[]⟩ wr:=by
 obtain⟨o1,o2,o3,o4,o5,o6,o7,o8,o9,o10,o11⟩:=ok;have hul:=hm.ul;have k2:=hm.ub.cell (j+(n+2) - 2) (by omega);rw[show us.getD (j+(n+2) - 2) 0=u0 from by rw[show j+(n+2) - 2=j+n from by omega];exact o6] at k2;have hend:=o10 g r hgr hg hc;have HM:=Hi hm;have hp:=Qdh hg o5;obtain⟨p,hp'⟩:∃p:Nat,g*v0=p:=⟨_,rfl⟩;have hpb:p<=18446744065119617025:=by rw[<-hp'];exact hp
 have r1:(g:Int)*(v0:Int)=(p:Int):=by rw[<-hp'];simp
 obtain⟨T,hT⟩:∃T:Nat,4294967296*r+u0=T:=⟨_,rfl⟩;have hor:bits .or .u64 ((r:Int)*4294967296) (u0:Int)=(T:Int):=by
  rw[or64 ((r:Int)*4294967296) (u0:Int) r u0 32 (by omega) rfl o7 (by omega)];omega
 have hTb:T<18446744073709551616:=by omega
 have hTp:¬((T:Int)<(p:Int)):=by omega
 have hgi:¬(4294967295:Int)<(g:Int):=by omega
 clear o9 o10 o11 hm hp hp' hT hc o6 hgr;rw[rounds_succ]
 conv=>arg 2;whnf
 go_wp2;exact hexit _ _ HM.out hg hQ hend
set_option maxRecDepth 1000000 in
set_option maxHeartbeats 4000000 in
theorem Qls(Qx:Exit->Act->World->Prop)(w3:World)(bv ov cv gu gq n j L v1 v0 u0 Q hh:Nat)(v us qs:List Nat)(x10 x15:Value)(ok:GuessOk n j L v1 v0 u0 Q hh us)
 (hexit:GuessExit Qx w3 bv ov cv gu gq n j L v1 v0 Q v us qs x10 x15) (t g r:Nat) (ih:GuessAt Qx w3 bv ov cv gu gq n j L v1 v0 Q hh v us qs x10 x15 t) {s0 s1 s2 s3 s4 s5 s6 s7 s8 s9 s14 s19 s22 s23 s24 s25 s26 s27 s28 s29 s30 s31 s32 s33 s34 s35 s36 s37 s38 s39 s40 s41 s42 s43 s44 s45 s46 s47 s48 s49 s50 s51 s52 s53 s54 s55 s56 s57 s58 s59 s60 s61 s62 s63 s64 s65 s66 s67 s68 s69 s70 s71 s72 s73 s74 s75 s76 s77 s78 s79 s80 s81 s82 s83 s84 s85 s86 s87 s88 s89 s90 s91 s92 s93 s94 s95 s96 s97 s98 s99 s100 s101 s102 s103 s104 s105 s106 s107 s108 s109 s110 s111 s112 s113 s114 s115 s116 s117 s118 s119 s120 s121 s122 s123 s124 s125 s126 s127 s128 s129 s130 s131 s132 s133 s134 s135 s136 s137 s138 s139 s140 s141 s142 s143 s144 s145 s146 s147 s148 s149 s150 s151 s152 s153 s154 s155 s156 s157 s158 s159 s160 s161 s162 s163 s164 s165 s166 s167 s168 s169 s170 s171 s172 s173 s174 s175 s176 s177 s178 s179 s180 s181 s182 s183 s184 s185 s186 s187 s188 s189 s190 s191 s192 s193 s194 s195 s196 s197 s198 s199 s200 s201 s202 s203 s204 s205 s206 s207 s208 s209 s210 s211 s212 s213 s214 s215 s216 s217 s218 s219 s220 s221 s222 s223 s224 s225 s226 s227 s228 s229 s230 s231 s232 s233 s234 s235 s236 s237 s238 s239 s240 s241 s242 s243 s244 s245 s246 s247 s248 s249 s250 s251 s252 s253 s254 s255 s256 s257 s258 s259 s260 s261 s262 s263 s264 s265 s266 s267 s268 s269 s270 s271 s272:Value} (wr:World) (hgt:g<=t+1) (hm:DivMem w3 wr bv ov gu gq n L v us qs) (hg:g<18446744073709551616) (hr:r<4294967296) (hgr:g*v1+r=hh) (hQ:Q<=g)
 (hgB:4294967296<=g):
   Code.rounds Tryz.prog (((Tryz.f112.body.map loopsIn).getD []).getD 1 .skip) Qx (t+1+1) ⟨#[s0,s1,s2,s3,s4,s5,s6,s7,s8,s9,x10,.slice (some ⟨bv,ov,none⟩) (n+2) cv,.slice (some ⟨gu,0,none⟩) L L,.int .i64 ((n:Int)+2),s14,x15,.int .u64 (v1:Int),.int .u64 (v0:Int),.int .i64 (j:Int),s19,.int .u64 (g:Int),.int .u64 (r:Int),s22,s23,s24,s25,s26,s27,s28,s29,s30,s31,s32,s33,s34,s35,s36,s37,s38,s39,s40,s41,s42,s43,s44,s45,s46,s47,s48,s49,s50,s51,s52,s53,s54,s55,s56,s57,s58,s59,s60,s61,s62,s63,s64,s65,s66,s67,s68,s69,s70,s71,s72,s73,s74,s75,s76,s77,s78,s79,s80,s81,s82,s83,s84,s85,s86,s87,s88,s89,s90,s91,s92,s93,s94,s95,s96,s97,s98,s99,s100,s101,s102,s103,s104,s105,s106,s107,s108,s109,s110,s111,s112,s113,s114,s115,s116,s117,s118,s119,s120,s121,s122,s123,s124,s125,s126,s127,s128,s129,s130,s131,s132,s133,s134,s135,s136,s137,s138,s139,s140,s141,s142,s143,s144,s145,s146,s147,s148,s149,s150,s151,s152,s153,s154,s155,s156,s157,s158,s159,s160,s161,s162,s163,s164,s165,s166,s167,s168,s169,s170,s171,s172,s173,s174,s175,s176,s177,s178,s179,s180,s181,s182,s183,s184,s185,s186,s187,s188,s189,s190,s191,s192,s193,s194,s195,s196,s197,s198,s199,s200,s201,s202,s203,s204,s205,s206,s207,s208,s209,s210,s211,s212,s213,s214,s215,s216,s217,s218,s219,s220,s221,s222,s223,s224,s225,s226,s227,s228,s229,s230,s231,s232,s233,s234,s235,s236,s237,s238,s239,s240,s241,s242,s243,s244,s245,s246,s247,s248,s249,s250,s251,s252,s253,s254,s255,s256,s257,s258,s259,s260,s261,s262,s263,s264,s265,s266,s267,s268,s269,s270,s271,s272],[]⟩ wr:=by
 obtain⟨o1,o2,o3,o4,o5,o6,o7,o8,o9,o10,o11⟩:=ok;obtain⟨g1,hg1⟩:∃g1,g=g1+1:=⟨g - 1,by omega⟩;have hgr':g1*v1+(r+v1)=hh:=by rw[<-hgr,hg1,Nat.add_mul];omega
 have eg:(g:Int) - 1=(g1:Int):=by omega
 have er:(r:Int)+(v1:Int)=((r+v1:Nat):Int):=by omega
 have EG:=Hi eg;have ER:=Hi er;have HG1:=Hi hg1;have HM:=Hi hm;have HGR:=Hi hgr';have hgi:(4294967295:Int)<(g:Int):=by omega
 clear hg1 eg er;by_cases hb:4294967296<=r+v1
 ·
  have e1:=o11 g1 (r+v1) hgr' hb;have e2:=o10 g1 (r+v1) hgr' e1 (Qio _ _ _ _ _ e1 o5 hb);have E1:=Hi e1;have E2:=Hi e2;have hbi:(4294967295:Int)<(r:Int)+(v1:Int):=by omega
  have HQ:=Hi (show Q<=g1 by have:=HG1.out;omega);clear o9 o10 o11 hm o6 hgr hgr' e1 e2 hb hgB hgt hQ;rw[rounds_succ]
  conv=>arg 2;whnf
  go_wp2;rw[EG.out];exact hexit g1 _ HM.out E1.out HQ.out E2.out
 ·
  have hbi:¬(4294967295:Int)<(r:Int)+(v1:Int):=by omega
  have HQ:=Hi (show Q<=g1 by have:=HG1.out;omega);have HT:=Hi (show g1<=t by have:=HG1.out;omega);have HB:=Hi (show r+v1<4294967296 by omega);clear o9 o10 o11 hm o6 hgr hgr' hgB hgt hQ hb;rw[rounds_succ]
  conv=>arg 2;whnf
  go_wp2;rw[EG.out,ER.out];exact ih g1 (r+v1) _ HT.out HM.out (by have:=HG1.out;omega) HB.out HGR.out HQ.out
set_option maxRecDepth 1000000 in
set_option maxHeartbeats 4000000 in
theorem Qlt(Qx:Exit->Act->World->Prop)(w3:World)(bv ov cv gu gq n j L v1 v0 u0 Q hh:Nat)(v us qs:List Nat)(x10 x15:Value)(ok:GuessOk n j L v1 v0 u0 Q hh us)
 (hexit:GuessExit Qx w3 bv ov cv gu gq n j L v1 v0 Q v us qs x10 x15) (t g r:Nat) (ih:GuessAt Qx w3 bv ov cv gu gq n j L v1 v0 Q hh v us qs x10 x15 t) {s0 s1 s2 s3 s4 s5 s6 s7 s8 s9 s14 s19 s22 s23 s24 s25 s26 s27 s28 s29 s30 s31 s32 s33 s34 s35 s36 s37 s38 s39 s40 s41 s42 s43 s44 s45 s46 s47 s48 s49 s50 s51 s52 s53 s54 s55 s56 s57 s58 s59 s60 s61 s62 s63 s64 s65 s66 s67 s68 s69 s70 s71 s72 s73 s74 s75 s76 s77 s78 s79 s80 s81 s82 s83 s84 s85 s86 s87 s88 s89 s90 s91 s92 s93 s94 s95 s96 s97 s98 s99 s100 s101 s102 s103 s104 s105 s106 s107 s108 s109 s110 s111 s112 s113 s114 s115 s116 s117 s118 s119 s120 s121 s122 s123 s124 s125 s126 s127 s128 s129 s130 s131 s132 s133 s134 s135 s136 s137 s138 s139 s140 s141 s142 s143 s144 s145 s146 s147 s148 s149 s150 s151 s152 s153 s154 s155 s156 s157 s158 s159 s160 s161 s162 s163 s164 s165 s166 s167 s168 s169 s170 s171 s172 s173 s174 s175 s176 s177 s178 s179 s180 s181 s182 s183 s184 s185 s186 s187 s188 s189 s190 s191 s192 s193 s194 s195 s196 s197 s198 s199 s200 s201 s202 s203 s204 s205 s206 s207 s208 s209 s210 s211 s212 s213 s214 s215 s216 s217 s218 s219 s220 s221 s222 s223 s224 s225 s226 s227 s228 s229 s230 s231 s232 s233 s234 s235 s236 s237 s238 s239 s240 s241 s242 s243 s244 s245 s246 s247 s248 s249 s250 s251 s252 s253 s254 s255 s256 s257 s258 s259 s260 s261 s262 s263 s264 s265 s266 s267 s268 s269 s270 s271 s272:Value} (wr:World) (hgt:g<=t+1) (hm:DivMem w3 wr bv ov gu gq n L v us qs) (hr:r<4294967296) (hgr:g*v1+r=hh) (hQ:Q<=g)
 (hg:g<4294967296) (hc:r*4294967296+u0<g*v0):
   Code.rounds Tryz.prog (((Tryz.f112.body.map loopsIn).getD []).getD 1 .skip) Qx (t+1+1) ⟨#[s0,s1,s2,s3,s4,s5,s6,s7,s8,s9,x10,.slice (some ⟨bv,ov,none⟩) (n+2) cv,.slice (some ⟨gu,0,none⟩) L L,.int .i64 ((n:Int)+2),s14,x15,.int .u64 (v1:Int),.int .u64 (v0:Int),.int .i64 (j:Int),s19,.int .u64 (g:Int),.int .u64 (r:Int),s22,s23,s24,s25,s26,s27,s28,s29,s30,s31,s32,s33,s34,s35,s36,s37,s38,s39,s40,s41,s42,s43,s44,s45,s46,s47,s48,s49,s50,s51,s52,s53,s54,s55,s56,s57,s58,s59,s60,s61,s62,s63,s64,s65,s66,s67,s68,s69,s70,s71,s72,s73,s74,s75,s76,s77,s78,s79,s80,s81,s82,s83,s84,s85,s86,s87,s88,s89,s90,s91,s92,s93,s94,s95,s96,s97,s98,s99,s100,s101,s102,s103,s104,s105,s106,s107,s108,s109,s110,s111,s112,s113,s114,s115,s116,s117,s118,s119,s120,s121,s122,s123,s124,s125,s126,s127,s128,s129,s130,s131,s132,s133,s134,s135,s136,s137,s138,s139,s140,s141,s142,s143,s144,s145,s146,s147,s148,s149,s150,s151,s152,s153,s154,s155,s156,s157,s158,s159,s160,s161,s162,s163,s164,s165,s166,s167,s168,s169,s170,s171,s172,s173,s174,s175,s176,s177,s178,s179,s180,s181,s182,s183,s184,s185,s186,s187,s188,s189,s190,s191,s192,s193,s194,s195,s196,s197,s198,s199,s200,s201,s202,s203,s204,s205,s206,s207,s208,s209,s210,s211,s212,s213,s214,s215,s216,s217,s218,s219,s220,s221,s222,s223,s224,s225,s226,s227,s228,s229,s230,s231,s232,s233,s234,s235,s236,s237,s238,s239,s240,s241,s242,s243,s244,s245,s246,s247,s248,s249,s250,s251,s252,s253,s254,s255,s256,s257,s258,s259,s260,s261,s262,s263,s264,s265,s266,s267,s268,s269,s270,s271,s272],[]⟩ wr:=by
 obtain⟨o1,o2,o3,o4,o5,o6,o7,o8,o9,o10,o11⟩:=ok;have hQg:=o9 g r hgr hc;have hul:=hm.ul;have k2:=hm.ub.cell (j+(n+2) - 2) (by omega);rw[show us.getD (j+(n+2) - 2) 0=u0 from by rw[show j+(n+2) - 2=j+n from by omega];exact o6] at k2;have hp:=Qdh hg o5;obtain⟨p,hp'⟩:∃p:Nat,g*v0=p:=⟨_,rfl⟩;have hpb:p<=18446744065119617025:=by rw[<-hp'];exact hp
 have r1:(g:Int)*(v0:Int)=(p:Int):=by rw[<-hp'];simp
 obtain⟨T,hT⟩:∃T:Nat,4294967296*r+u0=T:=⟨_,rfl⟩;have hor:bits .or .u64 ((r:Int)*4294967296) (u0:Int)=(T:Int):=by
  rw[or64 ((r:Int)*4294967296) (u0:Int) r u0 32 (by omega) rfl o7 (by omega)];omega
 have hTb:T<18446744073709551616:=by omega
 have hTp:(T:Int)<(p:Int):=by omega
 obtain⟨g1,hg1⟩:∃g1,g=g1+1:=⟨g - 1,by omega⟩;have hgr':g1*v1+(r+v1)=hh:=by rw[<-hgr,hg1,Nat.add_mul];omega
 have eg:(g:Int) - 1=(g1:Int):=by omega
 have er:(r:Int)+(v1:Int)=((r+v1:Nat):Int):=by omega
 have EG:=Hi eg;have ER:=Hi er;have HG1:=Hi hg1;have HM:=Hi hm;have HGR:=Hi hgr';have hgi:¬(4294967295:Int)<(g:Int):=by omega
 have hg0:(1:Int)<=(g:Int):=by omega
 clear hg1 eg er;by_cases hb:4294967296<=r+v1
 ·
  have e1:=o11 g1 (r+v1) hgr' hb;have e2:=o10 g1 (r+v1) hgr' e1 (Qio _ _ _ _ _ e1 o5 hb);have E1:=Hi e1;have E2:=Hi e2;have hbi:(4294967295:Int)<(r:Int)+(v1:Int):=by omega
  have HQ:=Hi (show Q<=g1 by have:=HG1.out;omega);clear o9 o10 o11 hm o6 hgr hgr' hp hp' hT hc e1 e2 hb hgt hQ;rw[rounds_succ]
  conv=>arg 2;whnf
  go_wp2;rw[EG.out];exact hexit g1 _ HM.out E1.out HQ.out E2.out
 ·
  have hbi:¬(4294967295:Int)<(r:Int)+(v1:Int):=by omega
  have HQ:=Hi (show Q<=g1 by have:=HG1.out;omega);have HT:=Hi (show g1<=t by have:=HG1.out;omega);have HB:=Hi (show r+v1<4294967296 by omega);clear o9 o10 o11 hm o6 hgr hgr' hp hp' hT hc hgt hQ hb;rw[rounds_succ]
  conv=>arg 2;whnf
  go_wp2;rw[EG.out,ER.out];exact ih g1 (r+v1) _ HT.out HM.out (by have:=HG1.out;omega) HB.out HGR.out HQ.out
set_option maxRecDepth 1000000 in
theorem Qlu(Qx:Exit->Act->World->Prop)(w3:World)(bv ov cv gu gq n j L v1 v0 u0 Q hh:Nat)(v us qs:List Nat)(x10 x15:Value)(ok:GuessOk n j L v1 v0 u0 Q hh us)
 (hexit:GuessExit Qx w3 bv ov cv gu gq n j L v1 v0 Q v us qs x10 x15) (t:Nat):GuessAt Qx w3 bv ov cv gu gq n j L v1 v0 Q hh v us qs x10 x15 t:=by
 induction t with
 |zero=>
  intro g r
  iterate 263 intro
  intro wr hgt hm hg hr hgr hQ;obtain rfl:g=0:=by omega
  exact Qgk Qx w3 bv ov cv gu gq n j L v1 v0 u0 Q hh v us qs x10 x15 ok hexit 0 0 r wr hm hr hgr hQ (by omega) (by rw[Nat.zero_mul];omega)
 |succ t ih=>
  intro g r
  iterate 263 intro
  intro wr hgt hm hg hr hgr hQ;by_cases hB:4294967296<=g
  · exact Qls Qx w3 bv ov cv gu gq n j L v1 v0 u0 Q hh v us qs x10 x15 ok hexit t g r ih wr hgt hm hg hr hgr hQ hB
  ·
   by_cases hc:r*4294967296+u0<g*v0
   · exact Qlt Qx w3 bv ov cv gu gq n j L v1 v0 u0 Q hh v us qs x10 x15 ok hexit t g r ih wr hgt hm hr hgr hQ (by omega) hc
   · exact Qgk Qx w3 bv ov cv gu gq n j L v1 v0 u0 Q hh v us qs x10 x15 ok hexit (t+1) g r wr hm hr hgr hQ (by omega) (by omega)
end Go.Proofs.YtfpcipgoedifaaaGreatDoor
