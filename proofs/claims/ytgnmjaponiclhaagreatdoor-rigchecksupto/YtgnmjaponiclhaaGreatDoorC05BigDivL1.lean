import Derived.Test.YtgnmjaponiclhaaGreatDoorC04BigDivL3
namespace Go.Proofs.YtgnmjaponiclhaaGreatDoor
open Go.RowKit
set_option linter.unusedVariables false
set_option maxRecDepth 1000000 in
def GuessExit(Qx:Exit→Act→World→Prop)(w3:World)(bv ov cv gu gq n j L v1 v0 Q:Nat)(v us qs:List Nat)(x10 x15:Value):Prop:=
 ∀(g:Nat) (s0 s1 s2 s3 s4 s5 s6 s7 s8 s9 s14 s19 s21 s22 s23 s24 s25 s26 s27 s28 s29 s30 s31 s32 s33 s34 s35 s36 s37 s38 s39 s40 s41 s42 s43 s44 s45 s46 s47 s48 s49 s50 s51 s52 s53 s54 s55 s56 s57 s58 s59 s60 s61 s62 s63 s64 s65 s66 s67 s68 s69 s70 s71 s72 s73 s74 s75 s76 s77 s78 s79 s80 s81 s82 s83 s84 s85 s86 s87 s88 s89 s90 s91 s92 s93 s94 s95 s96 s97 s98 s99 s100 s101 s102 s103 s104 s105 s106 s107 s108 s109 s110 s111 s112 s113 s114 s115 s116 s117 s118 s119 s120 s121 s122 s123 s124 s125 s126 s127 s128 s129 s130 s131 s132 s133 s134 s135 s136 s137 s138 s139 s140 s141 s142 s143 s144 s145 s146 s147 s148 s149 s150 s151 s152 s153 s154 s155 s156 s157 s158 s159 s160 s161 s162 s163 s164 s165 s166 s167 s168 s169 s170 s171 s172 s173 s174 s175 s176 s177 s178 s179 s180 s181 s182 s183 s184 s185 s186 s187 s188 s189 s190 s191 s192 s193 s194 s195 s196 s197 s198 s199 s200 s201 s202 s203 s204 s205 s206 s207 s208 s209 s210 s211 s212 s213 s214 s215 s216 s217 s218 s219 s220 s221 s222 s223 s224 s225 s226 s227 s228 s229 s230 s231 s232 s233 s234 s235 s236 s237 s238 s239 s240 s241 s242 s243 s244 s245 s246 s247 s248 s249 s250 s251 s252 s253 s254 s255 s256 s257 s258 s259 s260 s261 s262 s263 s264 s265 s266 s267 s268 s269 s270 s271 s272:Value) (wr:World),DivMem w3 wr bv ov gu gq n L v us qs→g<4294967296→Q≤g→g≤Q+1→
    Qx (.exit 2) ⟨#[s0,s1,s2,s3,s4,s5,s6,s7,s8,s9,x10,.slice (some ⟨bv,ov,none⟩) (n+2) cv,.slice (some ⟨gu,0,none⟩) L L,.int .i64 ((n:Int)+2),s14,x15,.int .u64 (v1:Int),.int .u64 (v0:Int),.int .i64 (j:Int),s19,.int .u64 (g:Int),s21,s22,s23,s24,s25,s26,s27,s28,s29,s30,s31,s32,s33,s34,s35,s36,s37,s38,s39,s40,s41,s42,s43,s44,s45,s46,s47,s48,s49,s50,s51,s52,s53,s54,s55,s56,s57,s58,s59,s60,s61,s62,s63,s64,s65,s66,s67,s68,s69,s70,s71,s72,s73,s74,s75,s76,s77,s78,s79,s80,s81,s82,s83,s84,s85,s86,s87,s88,s89,s90,s91,s92,s93,s94,s95,s96,s97,s98,s99,s100,s101,s102,s103,s104,s105,s106,s107,s108,s109,s110,s111,s112,s113,s114,s115,s116,s117,s118,s119,s120,s121,s122,s123,s124,s125,s126,s127,s128,s129,s130,s131,s132,s133,s134,s135,s136,s137,s138,s139,s140,s141,s142,s143,s144,s145,s146,s147,s148,s149,s150,s151,s152,s153,s154,s155,s156,s157,s158,s159,s160,s161,s162,s163,s164,s165,s166,s167,s168,s169,s170,s171,s172,s173,s174,s175,s176,s177,s178,s179,s180,s181,s182,s183,s184,s185,s186,s187,s188,s189,s190,s191,s192,s193,s194,s195,s196,s197,s198,s199,s200,s201,s202,s203,s204,s205,s206,s207,s208,s209,s210,s211,s212,s213,s214,s215,s216,s217,s218,s219,s220,s221,s222,s223,s224,s225,s226,s227,s228,s229,s230,s231,s232,s233,s234,s235,s236,s237,s238,s239,s240,s241,s242,s243,s244,s245,s246,s247,s248,s249,s250,s251,s252,s253,s254,s255,s256,s257,s258,s259,s260,s261,s262,s263,s264,s265,s266,s267,s268,s269,s270,s271,s272],[]⟩ wr
set_option maxRecDepth 1000000 in
def GuessAt(Qx:Exit→Act→World→Prop)(w3:World)(bv ov cv gu gq n j L v1 v0 Q hh:Nat)(v us qs:List Nat)(x10 x15:Value)(t:Nat):Prop:=
 ∀(g r:Nat) (s0 s1 s2 s3 s4 s5 s6 s7 s8 s9 s14 s19 s22 s23 s24 s25 s26 s27 s28 s29 s30 s31 s32 s33 s34 s35 s36 s37 s38 s39 s40 s41 s42 s43 s44 s45 s46 s47 s48 s49 s50 s51 s52 s53 s54 s55 s56 s57 s58 s59 s60 s61 s62 s63 s64 s65 s66 s67 s68 s69 s70 s71 s72 s73 s74 s75 s76 s77 s78 s79 s80 s81 s82 s83 s84 s85 s86 s87 s88 s89 s90 s91 s92 s93 s94 s95 s96 s97 s98 s99 s100 s101 s102 s103 s104 s105 s106 s107 s108 s109 s110 s111 s112 s113 s114 s115 s116 s117 s118 s119 s120 s121 s122 s123 s124 s125 s126 s127 s128 s129 s130 s131 s132 s133 s134 s135 s136 s137 s138 s139 s140 s141 s142 s143 s144 s145 s146 s147 s148 s149 s150 s151 s152 s153 s154 s155 s156 s157 s158 s159 s160 s161 s162 s163 s164 s165 s166 s167 s168 s169 s170 s171 s172 s173 s174 s175 s176 s177 s178 s179 s180 s181 s182 s183 s184 s185 s186 s187 s188 s189 s190 s191 s192 s193 s194 s195 s196 s197 s198 s199 s200 s201 s202 s203 s204 s205 s206 s207 s208 s209 s210 s211 s212 s213 s214 s215 s216 s217 s218 s219 s220 s221 s222 s223 s224 s225 s226 s227 s228 s229 s230 s231 s232 s233 s234 s235 s236 s237 s238 s239 s240 s241 s242 s243 s244 s245 s246 s247 s248 s249 s250 s251 s252 s253 s254 s255 s256 s257 s258 s259 s260 s261 s262 s263 s264 s265 s266 s267 s268 s269 s270 s271 s272:Value) (wr:World),g≤t→DivMem w3 wr bv ov gu gq n L v us qs→g<18446744073709551616→r<4294967296→g*v1+r=hh→Q≤g→
    Code.rounds Tryz.prog (((Tryz.f236.body.map loopsIn).getD []).getD 1 .skip) Qx (t+1) ⟨#[s0,s1,s2,s3,s4,s5,s6,s7,s8,s9,x10,.slice (some ⟨bv,ov,none⟩) (n+2) cv,.slice (some ⟨gu,0,none⟩) L L,.int .i64 ((n:Int)+2),s14,x15,.int .u64 (v1:Int),.int .u64 (v0:Int),.int .i64 (j:Int),s19,.int .u64 (g:Int),.int .u64 (r:Int),s22,s23,s24,s25,s26,s27,s28,s29,s30,s31,s32,s33,s34,s35,s36,s37,s38,s39,s40,s41,s42,s43,s44,s45,s46,s47,s48,s49,s50,s51,s52,s53,s54,s55,s56,s57,s58,s59,s60,s61,s62,s63,s64,s65,s66,s67,s68,s69,s70,s71,s72,s73,s74,s75,s76,s77,s78,s79,s80,s81,s82,s83,s84,s85,s86,s87,s88,s89,s90,s91,s92,s93,s94,s95,s96,s97,s98,s99,s100,s101,s102,s103,s104,s105,s106,s107,s108,s109,s110,s111,s112,s113,s114,s115,s116,s117,s118,s119,s120,s121,s122,s123,s124,s125,s126,s127,s128,s129,s130,s131,s132,s133,s134,s135,s136,s137,s138,s139,s140,s141,s142,s143,s144,s145,s146,s147,s148,s149,s150,s151,s152,s153,s154,s155,s156,s157,s158,s159,s160,s161,s162,s163,s164,s165,s166,s167,s168,s169,s170,s171,s172,s173,s174,s175,s176,s177,s178,s179,s180,s181,s182,s183,s184,s185,s186,s187,s188,s189,s190,s191,s192,s193,s194,s195,s196,s197,s198,s199,s200,s201,s202,s203,s204,s205,s206,s207,s208,s209,s210,s211,s212,s213,s214,s215,s216,s217,s218,s219,s220,s221,s222,s223,s224,s225,s226,s227,s228,s229,s230,s231,s232,s233,s234,s235,s236,s237,s238,s239,s240,s241,s242,s243,s244,s245,s246,s247,s248,s249,s250,s251,s252,s253,s254,s255,s256,s257,s258,s259,s260,s261,s262,s263,s264,s265,s266,s267,s268,s269,s270,s271,s272],[]⟩ wr
structure GuessOk (n j L v1 v0 u0 Q hh:Nat) (us:List Nat):Prop where
 o1:L≤1099511627776
 o2:j+(n+2)<L
 o3:1≤v1
 o4:v1<4294967296
 o5:v0<4294967296
 o6:us.getD (j+n) 0=u0
 o7:u0<4294967296
 o8:Q<4294967296
 down:∀g r,g*v1+r=hh→r*4294967296+u0<g*v0→Q<g
 done:∀g r,g*v1+r=hh→g<4294967296→g*v0≤r*4294967296+u0→g≤Q+1
 brk:∀g r,g*v1+r=hh→4294967296≤r→g<4294967296
set_option maxRecDepth 1000000 in
set_option maxHeartbeats 4000000 in
theorem Qf0(Qx:Exit→Act→World→Prop)(w3:World)(bv ov cv gu gq n j L v1 v0 u0 Q hh:Nat)(v us qs:List Nat)(x10 x15:Value)(ok:GuessOk n j L v1 v0 u0 Q hh us)
 (hexit:GuessExit Qx w3 bv ov cv gu gq n j L v1 v0 Q v us qs x10 x15) (t g r:Nat) (s0 s1 s2 s3 s4 s5 s6 s7 s8 s9 s14 s19 s22 s23 s24 s25 s26 s27 s28 s29 s30 s31 s32 s33 s34 s35 s36 s37 s38 s39 s40 s41 s42 s43 s44 s45 s46 s47 s48 s49 s50 s51 s52 s53 s54 s55 s56 s57 s58 s59 s60 s61 s62 s63 s64 s65 s66 s67 s68 s69 s70 s71 s72 s73 s74 s75 s76 s77 s78 s79 s80 s81 s82 s83 s84 s85 s86 s87 s88 s89 s90 s91 s92 s93 s94 s95 s96 s97 s98 s99 s100 s101 s102 s103 s104 s105 s106 s107 s108 s109 s110 s111 s112 s113 s114 s115 s116 s117 s118 s119 s120 s121 s122 s123 s124 s125 s126 s127 s128 s129 s130 s131 s132 s133 s134 s135 s136 s137 s138 s139 s140 s141 s142 s143 s144 s145 s146 s147 s148 s149 s150 s151 s152 s153 s154 s155 s156 s157 s158 s159 s160 s161 s162 s163 s164 s165 s166 s167 s168 s169 s170 s171 s172 s173 s174 s175 s176 s177 s178 s179 s180 s181 s182 s183 s184 s185 s186 s187 s188 s189 s190 s191 s192 s193 s194 s195 s196 s197 s198 s199 s200 s201 s202 s203 s204 s205 s206 s207 s208 s209 s210 s211 s212 s213 s214 s215 s216 s217 s218 s219 s220 s221 s222 s223 s224 s225 s226 s227 s228 s229 s230 s231 s232 s233 s234 s235 s236 s237 s238 s239 s240 s241 s242 s243 s244 s245 s246 s247 s248 s249 s250 s251 s252 s253 s254 s255 s256 s257 s258 s259 s260 s261 s262 s263 s264 s265 s266 s267 s268 s269 s270 s271 s272:Value) (wr:World) (hm:DivMem w3 wr bv ov gu gq n L v us qs) (hr:r<4294967296) (hgr:g*v1+r=hh) (hQ:Q≤g)
 (hg:g<4294967296) (hc:g*v0≤r*4294967296+u0):
   Code.rounds Tryz.prog (((Tryz.f236.body.map loopsIn).getD []).getD 1 .skip) Qx (t+1) ⟨#[s0,s1,s2,s3,s4,s5,s6,s7,s8,s9,x10,.slice (some ⟨bv,ov,none⟩) (n+2) cv,.slice (some ⟨gu,0,none⟩) L L,.int .i64 ((n:Int)+2),s14,x15,.int .u64 (v1:Int),.int .u64 (v0:Int),.int .i64 (j:Int),s19,.int .u64 (g:Int),.int .u64 (r:Int),s22,s23,s24,s25,s26,s27,s28,s29,s30,s31,s32,s33,s34,s35,s36,s37,s38,s39,s40,s41,s42,s43,s44,s45,s46,s47,s48,s49,s50,s51,s52,s53,s54,s55,s56,s57,s58,s59,s60,s61,s62,s63,s64,s65,s66,s67,s68,s69,s70,s71,s72,s73,s74,s75,s76,s77,s78,s79,s80,s81,s82,s83,s84,s85,s86,s87,s88,s89,s90,s91,s92,s93,s94,s95,s96,s97,s98,s99,s100,s101,s102,s103,s104,s105,s106,s107,s108,s109,s110,s111,s112,s113,s114,s115,s116,s117,s118,s119,s120,s121,s122,s123,s124,s125,s126,s127,s128,s129,s130,s131,s132,s133,s134,s135,s136,s137,s138,s139,s140,s141,s142,s143,s144,s145,s146,s147,s148,s149,s150,s151,s152,s153,s154,s155,s156,s157,s158,s159,s160,s161,s162,s163,s164,s165,s166,s167,s168,s169,s170,s171,s172,s173,s174,s175,s176,s177,s178,s179,s180,s181,s182,s183,s184,s185,s186,s187,s188,s189,s190,s191,s192,s193,s194,s195,s196,s197,s198,s199,s200,s201,s202,s203,s204,s205,s206,s207,s208,s209,s210,s211,s212,s213,s214,s215,s216,s217,s218,s219,s220,s221,s222,s223,s224,s225,s226,s227,s228,s229,s230,s231,s232,s233,s234,s235,s236,s237,s238,s239,s240,s241,s242,s243,s244,s245,s246,s247,s248,s249,s250,s251,s252,s253,s254,s255,s256,s257,s258,s259,s260,s261,s262,s263,s264,s265,s266,s267,s268,s269,s270,s271,s272],[]⟩ wr:=by
 obtain⟨o1,o2,o3,o4,o5,o6,o7,o8,o9,o10,o11⟩:=ok
 have hul:=hm.ul
 have k2:=hm.ub.cell (j+(n+2) - 2) (by omega)
 rw[show us.getD (j+(n+2) - 2) 0=u0 from by rw[show j+(n+2) - 2=j+n from by omega];exact o6] at k2
 have hend:=o10 g r hgr hg hc
 have HM:=Hi hm
 have hp:=Qc2 hg o5
 obtain⟨p,hp'⟩:∃p:Nat,g*v0=p:=⟨_,rfl⟩
 have hpb:p≤18446744065119617025:=by rw[←hp'];exact hp
 have r1:(g:Int)*(v0:Int)=(p:Int):=by rw[←hp'];simp
 obtain⟨T,hT⟩:∃T:Nat,4294967296*r+u0=T:=⟨_,rfl⟩
 have hor:bits .or .u64 ((r:Int)*4294967296) (u0:Int)=(T:Int):=by
  rw[or64 ((r:Int)*4294967296) (u0:Int) r u0 32 (by omega) rfl o7 (by omega)]
  omega
 have hTb:T<18446744073709551616:=by omega
 have hTp:¬((T:Int)<(p:Int)):=by omega
 have hgi:¬(4294967295:Int)<(g:Int):=by omega
 clear o9 o10 o11 hm hp hp' hT hc o6 hgr
 rw[rounds_succ]
 conv=>arg 2;whnf
 go_wp2
 exact hexit _ _ _ _ _ _ _ _ _ _ _ _ _ _ _ _ _ _ _ _ _ _ _ _ _ _ _ _ _ _ _ _ _ _ _ _ _ _ _ _ _ _ _ _ _ _ _ _ _ _ _ _ _ _ _ _ _ _ _ _ _ _ _ _ _ _ _ _ _ _ _ _ _ _ _ _ _ _ _ _ _ _ _ _ _ _ _ _ _ _ _ _ _ _ _ _ _ _ _ _ _ _ _ _ _ _ _ _ _ _ _ _ _ _ _ _ _ _ _ _ _ _ _ _ _ _ _ _ _ _ _ _ _ _ _ _ _ _ _ _ _ _ _ _ _ _ _ _ _ _ _ _ _ _ _ _ _ _ _ _ _ _ _ _ _ _ _ _ _ _ _ _ _ _ _ _ _ _ _ _ _ _ _ _ _ _ _ _ _ _ _ _ _ _ _ _ _ _ _ _ _ _ _ _ _ _ _ _ _ _ _ _ _ _ _ _ _ _ _ _ _ _ _ _ _ _ _ _ _ _ _ _ _ _ _ _ _ _ _ _ _ _ _ _ _ _ _ _ _ _ _ _ _ _ _ _ _ _ _ _ _ _ _ _ _ _ HM.out hg hQ hend
set_option maxRecDepth 1000000 in
set_option maxHeartbeats 4000000 in
theorem Qka(Qx:Exit→Act→World→Prop)(w3:World)(bv ov cv gu gq n j L v1 v0 u0 Q hh:Nat)(v us qs:List Nat)(x10 x15:Value)(ok:GuessOk n j L v1 v0 u0 Q hh us)
 (hexit:GuessExit Qx w3 bv ov cv gu gq n j L v1 v0 Q v us qs x10 x15) (t g r:Nat) (ih:GuessAt Qx w3 bv ov cv gu gq n j L v1 v0 Q hh v us qs x10 x15 t) (s0 s1 s2 s3 s4 s5 s6 s7 s8 s9 s14 s19 s22 s23 s24 s25 s26 s27 s28 s29 s30 s31 s32 s33 s34 s35 s36 s37 s38 s39 s40 s41 s42 s43 s44 s45 s46 s47 s48 s49 s50 s51 s52 s53 s54 s55 s56 s57 s58 s59 s60 s61 s62 s63 s64 s65 s66 s67 s68 s69 s70 s71 s72 s73 s74 s75 s76 s77 s78 s79 s80 s81 s82 s83 s84 s85 s86 s87 s88 s89 s90 s91 s92 s93 s94 s95 s96 s97 s98 s99 s100 s101 s102 s103 s104 s105 s106 s107 s108 s109 s110 s111 s112 s113 s114 s115 s116 s117 s118 s119 s120 s121 s122 s123 s124 s125 s126 s127 s128 s129 s130 s131 s132 s133 s134 s135 s136 s137 s138 s139 s140 s141 s142 s143 s144 s145 s146 s147 s148 s149 s150 s151 s152 s153 s154 s155 s156 s157 s158 s159 s160 s161 s162 s163 s164 s165 s166 s167 s168 s169 s170 s171 s172 s173 s174 s175 s176 s177 s178 s179 s180 s181 s182 s183 s184 s185 s186 s187 s188 s189 s190 s191 s192 s193 s194 s195 s196 s197 s198 s199 s200 s201 s202 s203 s204 s205 s206 s207 s208 s209 s210 s211 s212 s213 s214 s215 s216 s217 s218 s219 s220 s221 s222 s223 s224 s225 s226 s227 s228 s229 s230 s231 s232 s233 s234 s235 s236 s237 s238 s239 s240 s241 s242 s243 s244 s245 s246 s247 s248 s249 s250 s251 s252 s253 s254 s255 s256 s257 s258 s259 s260 s261 s262 s263 s264 s265 s266 s267 s268 s269 s270 s271 s272:Value) (wr:World) (hgt:g≤t+1) (hm:DivMem w3 wr bv ov gu gq n L v us qs) (hg:g<18446744073709551616) (hr:r<4294967296) (hgr:g*v1+r=hh) (hQ:Q≤g)
 (hgB:4294967296≤g):
   Code.rounds Tryz.prog (((Tryz.f236.body.map loopsIn).getD []).getD 1 .skip) Qx (t+1+1) ⟨#[s0,s1,s2,s3,s4,s5,s6,s7,s8,s9,x10,.slice (some ⟨bv,ov,none⟩) (n+2) cv,.slice (some ⟨gu,0,none⟩) L L,.int .i64 ((n:Int)+2),s14,x15,.int .u64 (v1:Int),.int .u64 (v0:Int),.int .i64 (j:Int),s19,.int .u64 (g:Int),.int .u64 (r:Int),s22,s23,s24,s25,s26,s27,s28,s29,s30,s31,s32,s33,s34,s35,s36,s37,s38,s39,s40,s41,s42,s43,s44,s45,s46,s47,s48,s49,s50,s51,s52,s53,s54,s55,s56,s57,s58,s59,s60,s61,s62,s63,s64,s65,s66,s67,s68,s69,s70,s71,s72,s73,s74,s75,s76,s77,s78,s79,s80,s81,s82,s83,s84,s85,s86,s87,s88,s89,s90,s91,s92,s93,s94,s95,s96,s97,s98,s99,s100,s101,s102,s103,s104,s105,s106,s107,s108,s109,s110,s111,s112,s113,s114,s115,s116,s117,s118,s119,s120,s121,s122,s123,s124,s125,s126,s127,s128,s129,s130,s131,s132,s133,s134,s135,s136,s137,s138,s139,s140,s141,s142,s143,s144,s145,s146,s147,s148,s149,s150,s151,s152,s153,s154,s155,s156,s157,s158,s159,s160,s161,s162,s163,s164,s165,s166,s167,s168,s169,s170,s171,s172,s173,s174,s175,s176,s177,s178,s179,s180,s181,s182,s183,s184,s185,s186,s187,s188,s189,s190,s191,s192,s193,s194,s195,s196,s197,s198,s199,s200,s201,s202,s203,s204,s205,s206,s207,s208,s209,s210,s211,s212,s213,s214,s215,s216,s217,s218,s219,s220,s221,s222,s223,s224,s225,s226,s227,s228,s229,s230,s231,s232,s233,s234,s235,s236,s237,s238,s239,s240,s241,s242,s243,s244,s245,s246,s247,s248,s249,s250,s251,s252,s253,s254,s255,s256,s257,s258,s259,s260,s261,s262,s263,s264,s265,s266,s267,s268,s269,s270,s271,s272],[]⟩ wr:=by
 obtain⟨o1,o2,o3,o4,o5,o6,o7,o8,o9,o10,o11⟩:=ok
 obtain⟨g1,hg1⟩:∃g1,g=g1+1:=⟨g - 1,by omega⟩
 have hgr':g1*v1+(r+v1)=hh:=by rw[←hgr,hg1,Nat.add_mul];omega
 have eg:(g:Int) - 1=(g1:Int):=by omega
 have er:(r:Int)+(v1:Int)=((r+v1:Nat):Int):=by omega
 have EG:=Hi eg
 have ER:=Hi er
 have HG1:=Hi hg1
 have HM:=Hi hm
 have HGR:=Hi hgr'
 have hgi:(4294967295:Int)<(g:Int):=by omega
 clear hg1 eg er
 by_cases hb:4294967296≤r+v1
 ·
  have e1:=o11 g1 (r+v1) hgr' hb
  have e2:=o10 g1 (r+v1) hgr' e1 (Qgx _ _ _ _ _ e1 o5 hb)
  have E1:=Hi e1
  have E2:=Hi e2
  have hbi:(4294967295:Int)<(r:Int)+(v1:Int):=by omega
  have HQ:=Hi (show Q≤g1 by have:=HG1.out;omega)
  clear o9 o10 o11 hm o6 hgr hgr' e1 e2 hb hgB hgt hQ
  rw[rounds_succ]
  conv=>arg 2;whnf
  go_wp2
  rw[EG.out]
  exact hexit g1 _ _ _ _ _ _ _ _ _ _ _ _ _ _ _ _ _ _ _ _ _ _ _ _ _ _ _ _ _ _ _ _ _ _ _ _ _ _ _ _ _ _ _ _ _ _ _ _ _ _ _ _ _ _ _ _ _ _ _ _ _ _ _ _ _ _ _ _ _ _ _ _ _ _ _ _ _ _ _ _ _ _ _ _ _ _ _ _ _ _ _ _ _ _ _ _ _ _ _ _ _ _ _ _ _ _ _ _ _ _ _ _ _ _ _ _ _ _ _ _ _ _ _ _ _ _ _ _ _ _ _ _ _ _ _ _ _ _ _ _ _ _ _ _ _ _ _ _ _ _ _ _ _ _ _ _ _ _ _ _ _ _ _ _ _ _ _ _ _ _ _ _ _ _ _ _ _ _ _ _ _ _ _ _ _ _ _ _ _ _ _ _ _ _ _ _ _ _ _ _ _ _ _ _ _ _ _ _ _ _ _ _ _ _ _ _ _ _ _ _ _ _ _ _ _ _ _ _ _ _ _ _ _ _ _ _ _ _ _ _ _ _ _ _ _ _ _ _ _ _ _ _ _ _ _ _ _ _ _ _ _ _ _ _ _ HM.out E1.out HQ.out E2.out
 ·
  have hbi:¬(4294967295:Int)<(r:Int)+(v1:Int):=by omega
  have HQ:=Hi (show Q≤g1 by have:=HG1.out;omega)
  have HT:=Hi (show g1≤t by have:=HG1.out;omega)
  have HB:=Hi (show r+v1<4294967296 by omega)
  clear o9 o10 o11 hm o6 hgr hgr' hgB hgt hQ hb
  rw[rounds_succ]
  conv=>arg 2;whnf
  go_wp2
  rw[EG.out,ER.out]
  exact ih g1 (r+v1) _ _ _ _ _ _ _ _ _ _ _ _ _ _ _ _ _ _ _ _ _ _ _ _ _ _ _ _ _ _ _ _ _ _ _ _ _ _ _ _ _ _ _ _ _ _ _ _ _ _ _ _ _ _ _ _ _ _ _ _ _ _ _ _ _ _ _ _ _ _ _ _ _ _ _ _ _ _ _ _ _ _ _ _ _ _ _ _ _ _ _ _ _ _ _ _ _ _ _ _ _ _ _ _ _ _ _ _ _ _ _ _ _ _ _ _ _ _ _ _ _ _ _ _ _ _ _ _ _ _ _ _ _ _ _ _ _ _ _ _ _ _ _ _ _ _ _ _ _ _ _ _ _ _ _ _ _ _ _ _ _ _ _ _ _ _ _ _ _ _ _ _ _ _ _ _ _ _ _ _ _ _ _ _ _ _ _ _ _ _ _ _ _ _ _ _ _ _ _ _ _ _ _ _ _ _ _ _ _ _ _ _ _ _ _ _ _ _ _ _ _ _ _ _ _ _ _ _ _ _ _ _ _ _ _ _ _ _ _ _ _ _ _ _ _ _ _ _ _ _ _ _ _ _ _ _ _ _ _ _ _ _ _ _ HT.out HM.out (by have:=HG1.out;omega) HB.out HGR.out HQ.out
set_option maxRecDepth 1000000 in
set_option maxHeartbeats 4000000 in
theorem Qkb(Qx:Exit→Act→World→Prop)(w3:World)(bv ov cv gu gq n j L v1 v0 u0 Q hh:Nat)(v us qs:List Nat)(x10 x15:Value)(ok:GuessOk n j L v1 v0 u0 Q hh us)
 (hexit:GuessExit Qx w3 bv ov cv gu gq n j L v1 v0 Q v us qs x10 x15) (t g r:Nat) (ih:GuessAt Qx w3 bv ov cv gu gq n j L v1 v0 Q hh v us qs x10 x15 t) (s0 s1 s2 s3 s4 s5 s6 s7 s8 s9 s14 s19 s22 s23 s24 s25 s26 s27 s28 s29 s30 s31 s32 s33 s34 s35 s36 s37 s38 s39 s40 s41 s42 s43 s44 s45 s46 s47 s48 s49 s50 s51 s52 s53 s54 s55 s56 s57 s58 s59 s60 s61 s62 s63 s64 s65 s66 s67 s68 s69 s70 s71 s72 s73 s74 s75 s76 s77 s78 s79 s80 s81 s82 s83 s84 s85 s86 s87 s88 s89 s90 s91 s92 s93 s94 s95 s96 s97 s98 s99 s100 s101 s102 s103 s104 s105 s106 s107 s108 s109 s110 s111 s112 s113 s114 s115 s116 s117 s118 s119 s120 s121 s122 s123 s124 s125 s126 s127 s128 s129 s130 s131 s132 s133 s134 s135 s136 s137 s138 s139 s140 s141 s142 s143 s144 s145 s146 s147 s148 s149 s150 s151 s152 s153 s154 s155 s156 s157 s158 s159 s160 s161 s162 s163 s164 s165 s166 s167 s168 s169 s170 s171 s172 s173 s174 s175 s176 s177 s178 s179 s180 s181 s182 s183 s184 s185 s186 s187 s188 s189 s190 s191 s192 s193 s194 s195 s196 s197 s198 s199 s200 s201 s202 s203 s204 s205 s206 s207 s208 s209 s210 s211 s212 s213 s214 s215 s216 s217 s218 s219 s220 s221 s222 s223 s224 s225 s226 s227 s228 s229 s230 s231 s232 s233 s234 s235 s236 s237 s238 s239 s240 s241 s242 s243 s244 s245 s246 s247 s248 s249 s250 s251 s252 s253 s254 s255 s256 s257 s258 s259 s260 s261 s262 s263 s264 s265 s266 s267 s268 s269 s270 s271 s272:Value) (wr:World) (hgt:g≤t+1) (hm:DivMem w3 wr bv ov gu gq n L v us qs) (hr:r<4294967296) (hgr:g*v1+r=hh) (hQ:Q≤g)
 (hg:g<4294967296) (hc:r*4294967296+u0<g*v0):
   Code.rounds Tryz.prog (((Tryz.f236.body.map loopsIn).getD []).getD 1 .skip) Qx (t+1+1) ⟨#[s0,s1,s2,s3,s4,s5,s6,s7,s8,s9,x10,.slice (some ⟨bv,ov,none⟩) (n+2) cv,.slice (some ⟨gu,0,none⟩) L L,.int .i64 ((n:Int)+2),s14,x15,.int .u64 (v1:Int),.int .u64 (v0:Int),.int .i64 (j:Int),s19,.int .u64 (g:Int),.int .u64 (r:Int),s22,s23,s24,s25,s26,s27,s28,s29,s30,s31,s32,s33,s34,s35,s36,s37,s38,s39,s40,s41,s42,s43,s44,s45,s46,s47,s48,s49,s50,s51,s52,s53,s54,s55,s56,s57,s58,s59,s60,s61,s62,s63,s64,s65,s66,s67,s68,s69,s70,s71,s72,s73,s74,s75,s76,s77,s78,s79,s80,s81,s82,s83,s84,s85,s86,s87,s88,s89,s90,s91,s92,s93,s94,s95,s96,s97,s98,s99,s100,s101,s102,s103,s104,s105,s106,s107,s108,s109,s110,s111,s112,s113,s114,s115,s116,s117,s118,s119,s120,s121,s122,s123,s124,s125,s126,s127,s128,s129,s130,s131,s132,s133,s134,s135,s136,s137,s138,s139,s140,s141,s142,s143,s144,s145,s146,s147,s148,s149,s150,s151,s152,s153,s154,s155,s156,s157,s158,s159,s160,s161,s162,s163,s164,s165,s166,s167,s168,s169,s170,s171,s172,s173,s174,s175,s176,s177,s178,s179,s180,s181,s182,s183,s184,s185,s186,s187,s188,s189,s190,s191,s192,s193,s194,s195,s196,s197,s198,s199,s200,s201,s202,s203,s204,s205,s206,s207,s208,s209,s210,s211,s212,s213,s214,s215,s216,s217,s218,s219,s220,s221,s222,s223,s224,s225,s226,s227,s228,s229,s230,s231,s232,s233,s234,s235,s236,s237,s238,s239,s240,s241,s242,s243,s244,s245,s246,s247,s248,s249,s250,s251,s252,s253,s254,s255,s256,s257,s258,s259,s260,s261,s262,s263,s264,s265,s266,s267,s268,s269,s270,s271,s272],[]⟩ wr:=by
 obtain⟨o1,o2,o3,o4,o5,o6,o7,o8,o9,o10,o11⟩:=ok
 have hQg:=o9 g r hgr hc
 have hul:=hm.ul
 have k2:=hm.ub.cell (j+(n+2) - 2) (by omega)
 rw[show us.getD (j+(n+2) - 2) 0=u0 from by rw[show j+(n+2) - 2=j+n from by omega];exact o6] at k2
 have hp:=Qc2 hg o5
 obtain⟨p,hp'⟩:∃p:Nat,g*v0=p:=⟨_,rfl⟩
 have hpb:p≤18446744065119617025:=by rw[←hp'];exact hp
 have r1:(g:Int)*(v0:Int)=(p:Int):=by rw[←hp'];simp
 obtain⟨T,hT⟩:∃T:Nat,4294967296*r+u0=T:=⟨_,rfl⟩
 have hor:bits .or .u64 ((r:Int)*4294967296) (u0:Int)=(T:Int):=by
  rw[or64 ((r:Int)*4294967296) (u0:Int) r u0 32 (by omega) rfl o7 (by omega)]
  omega
 have hTb:T<18446744073709551616:=by omega
 have hTp:(T:Int)<(p:Int):=by omega
 obtain⟨g1,hg1⟩:∃g1,g=g1+1:=⟨g - 1,by omega⟩
 have hgr':g1*v1+(r+v1)=hh:=by rw[←hgr,hg1,Nat.add_mul];omega
 have eg:(g:Int) - 1=(g1:Int):=by omega
 have er:(r:Int)+(v1:Int)=((r+v1:Nat):Int):=by omega
 have EG:=Hi eg
 have ER:=Hi er
 have HG1:=Hi hg1
 have HM:=Hi hm
 have HGR:=Hi hgr'
 have hgi:¬(4294967295:Int)<(g:Int):=by omega
 have hg0:(1:Int)≤(g:Int):=by omega
 clear hg1 eg er
 by_cases hb:4294967296≤r+v1
 ·
  have e1:=o11 g1 (r+v1) hgr' hb
  have e2:=o10 g1 (r+v1) hgr' e1 (Qgx _ _ _ _ _ e1 o5 hb)
  have E1:=Hi e1
  have E2:=Hi e2
  have hbi:(4294967295:Int)<(r:Int)+(v1:Int):=by omega
  have HQ:=Hi (show Q≤g1 by have:=HG1.out;omega)
  clear o9 o10 o11 hm o6 hgr hgr' hp hp' hT hc e1 e2 hb hgt hQ
  rw[rounds_succ]
  conv=>arg 2;whnf
  go_wp2
  rw[EG.out]
  exact hexit g1 _ _ _ _ _ _ _ _ _ _ _ _ _ _ _ _ _ _ _ _ _ _ _ _ _ _ _ _ _ _ _ _ _ _ _ _ _ _ _ _ _ _ _ _ _ _ _ _ _ _ _ _ _ _ _ _ _ _ _ _ _ _ _ _ _ _ _ _ _ _ _ _ _ _ _ _ _ _ _ _ _ _ _ _ _ _ _ _ _ _ _ _ _ _ _ _ _ _ _ _ _ _ _ _ _ _ _ _ _ _ _ _ _ _ _ _ _ _ _ _ _ _ _ _ _ _ _ _ _ _ _ _ _ _ _ _ _ _ _ _ _ _ _ _ _ _ _ _ _ _ _ _ _ _ _ _ _ _ _ _ _ _ _ _ _ _ _ _ _ _ _ _ _ _ _ _ _ _ _ _ _ _ _ _ _ _ _ _ _ _ _ _ _ _ _ _ _ _ _ _ _ _ _ _ _ _ _ _ _ _ _ _ _ _ _ _ _ _ _ _ _ _ _ _ _ _ _ _ _ _ _ _ _ _ _ _ _ _ _ _ _ _ _ _ _ _ _ _ _ _ _ _ _ _ _ _ _ _ _ _ _ _ _ _ _ HM.out E1.out HQ.out E2.out
 ·
  have hbi:¬(4294967295:Int)<(r:Int)+(v1:Int):=by omega
  have HQ:=Hi (show Q≤g1 by have:=HG1.out;omega)
  have HT:=Hi (show g1≤t by have:=HG1.out;omega)
  have HB:=Hi (show r+v1<4294967296 by omega)
  clear o9 o10 o11 hm o6 hgr hgr' hp hp' hT hc hgt hQ hb
  rw[rounds_succ]
  conv=>arg 2;whnf
  go_wp2
  rw[EG.out,ER.out]
  exact ih g1 (r+v1) _ _ _ _ _ _ _ _ _ _ _ _ _ _ _ _ _ _ _ _ _ _ _ _ _ _ _ _ _ _ _ _ _ _ _ _ _ _ _ _ _ _ _ _ _ _ _ _ _ _ _ _ _ _ _ _ _ _ _ _ _ _ _ _ _ _ _ _ _ _ _ _ _ _ _ _ _ _ _ _ _ _ _ _ _ _ _ _ _ _ _ _ _ _ _ _ _ _ _ _ _ _ _ _ _ _ _ _ _ _ _ _ _ _ _ _ _ _ _ _ _ _ _ _ _ _ _ _ _ _ _ _ _ _ _ _ _ _ _ _ _ _ _ _ _ _ _ _ _ _ _ _ _ _ _ _ _ _ _ _ _ _ _ _ _ _ _ _ _ _ _ _ _ _ _ _ _ _ _ _ _ _ _ _ _ _ _ _ _ _ _ _ _ _ _ _ _ _ _ _ _ _ _ _ _ _ _ _ _ _ _ _ _ _ _ _ _ _ _ _ _ _ _ _ _ _ _ _ _ _ _ _ _ _ _ _ _ _ _ _ _ _ _ _ _ _ _ _ _ _ _ _ _ _ _ _ _ _ _ _ _ _ _ _ HT.out HM.out (by have:=HG1.out;omega) HB.out HGR.out HQ.out
set_option maxRecDepth 1000000 in
theorem Qkc(Qx:Exit→Act→World→Prop)(w3:World)(bv ov cv gu gq n j L v1 v0 u0 Q hh:Nat)(v us qs:List Nat)(x10 x15:Value)(ok:GuessOk n j L v1 v0 u0 Q hh us)
 (hexit:GuessExit Qx w3 bv ov cv gu gq n j L v1 v0 Q v us qs x10 x15) (t:Nat):GuessAt Qx w3 bv ov cv gu gq n j L v1 v0 Q hh v us qs x10 x15 t:=by
 induction t with
 |zero=>
  intro g r s0 s1 s2 s3 s4 s5 s6 s7 s8 s9 s14 s19 s22 s23 s24 s25 s26 s27 s28 s29 s30 s31 s32 s33 s34 s35 s36 s37 s38 s39 s40 s41 s42 s43 s44 s45 s46 s47 s48 s49 s50 s51 s52 s53 s54 s55 s56 s57 s58 s59 s60 s61 s62 s63 s64 s65 s66 s67 s68 s69 s70 s71 s72 s73 s74 s75 s76 s77 s78 s79 s80 s81 s82 s83 s84 s85 s86 s87 s88 s89 s90 s91 s92 s93 s94 s95 s96 s97 s98 s99 s100 s101 s102 s103 s104 s105 s106 s107 s108 s109 s110 s111 s112 s113 s114 s115 s116 s117 s118 s119 s120 s121 s122 s123 s124 s125 s126 s127 s128 s129 s130 s131 s132 s133 s134 s135 s136 s137 s138 s139 s140 s141 s142 s143 s144 s145 s146 s147 s148 s149 s150 s151 s152 s153 s154 s155 s156 s157 s158 s159 s160 s161 s162 s163 s164 s165 s166 s167 s168 s169 s170 s171 s172 s173 s174 s175 s176 s177 s178 s179 s180 s181 s182 s183 s184 s185 s186 s187 s188 s189 s190 s191 s192 s193 s194 s195 s196 s197 s198 s199 s200 s201 s202 s203 s204 s205 s206 s207 s208 s209 s210 s211 s212 s213 s214 s215 s216 s217 s218 s219 s220 s221 s222 s223 s224 s225 s226 s227 s228 s229 s230 s231 s232 s233 s234 s235 s236 s237 s238 s239 s240 s241 s242 s243 s244 s245 s246 s247 s248 s249 s250 s251 s252 s253 s254 s255 s256 s257 s258 s259 s260 s261 s262 s263 s264 s265 s266 s267 s268 s269 s270 s271 s272 wr hgt hm hg hr hgr hQ
  obtain rfl:g=0:=by omega
  exact Qf0 Qx w3 bv ov cv gu gq n j L v1 v0 u0 Q hh v us qs x10 x15 ok hexit 0 0 r _ _ _ _ _ _ _ _ _ _ _ _ _ _ _ _ _ _ _ _ _ _ _ _ _ _ _ _ _ _ _ _ _ _ _ _ _ _ _ _ _ _ _ _ _ _ _ _ _ _ _ _ _ _ _ _ _ _ _ _ _ _ _ _ _ _ _ _ _ _ _ _ _ _ _ _ _ _ _ _ _ _ _ _ _ _ _ _ _ _ _ _ _ _ _ _ _ _ _ _ _ _ _ _ _ _ _ _ _ _ _ _ _ _ _ _ _ _ _ _ _ _ _ _ _ _ _ _ _ _ _ _ _ _ _ _ _ _ _ _ _ _ _ _ _ _ _ _ _ _ _ _ _ _ _ _ _ _ _ _ _ _ _ _ _ _ _ _ _ _ _ _ _ _ _ _ _ _ _ _ _ _ _ _ _ _ _ _ _ _ _ _ _ _ _ _ _ _ _ _ _ _ _ _ _ _ _ _ _ _ _ _ _ _ _ _ _ _ _ _ _ _ _ _ _ _ _ _ _ _ _ _ _ _ _ _ _ _ _ _ _ _ _ _ _ _ _ _ _ _ _ _ _ _ _ _ _ _ _ _ _ _ _ wr hm hr hgr hQ (by omega) (by rw[Nat.zero_mul];omega)
 |succ t ih=>
  intro g r s0 s1 s2 s3 s4 s5 s6 s7 s8 s9 s14 s19 s22 s23 s24 s25 s26 s27 s28 s29 s30 s31 s32 s33 s34 s35 s36 s37 s38 s39 s40 s41 s42 s43 s44 s45 s46 s47 s48 s49 s50 s51 s52 s53 s54 s55 s56 s57 s58 s59 s60 s61 s62 s63 s64 s65 s66 s67 s68 s69 s70 s71 s72 s73 s74 s75 s76 s77 s78 s79 s80 s81 s82 s83 s84 s85 s86 s87 s88 s89 s90 s91 s92 s93 s94 s95 s96 s97 s98 s99 s100 s101 s102 s103 s104 s105 s106 s107 s108 s109 s110 s111 s112 s113 s114 s115 s116 s117 s118 s119 s120 s121 s122 s123 s124 s125 s126 s127 s128 s129 s130 s131 s132 s133 s134 s135 s136 s137 s138 s139 s140 s141 s142 s143 s144 s145 s146 s147 s148 s149 s150 s151 s152 s153 s154 s155 s156 s157 s158 s159 s160 s161 s162 s163 s164 s165 s166 s167 s168 s169 s170 s171 s172 s173 s174 s175 s176 s177 s178 s179 s180 s181 s182 s183 s184 s185 s186 s187 s188 s189 s190 s191 s192 s193 s194 s195 s196 s197 s198 s199 s200 s201 s202 s203 s204 s205 s206 s207 s208 s209 s210 s211 s212 s213 s214 s215 s216 s217 s218 s219 s220 s221 s222 s223 s224 s225 s226 s227 s228 s229 s230 s231 s232 s233 s234 s235 s236 s237 s238 s239 s240 s241 s242 s243 s244 s245 s246 s247 s248 s249 s250 s251 s252 s253 s254 s255 s256 s257 s258 s259 s260 s261 s262 s263 s264 s265 s266 s267 s268 s269 s270 s271 s272 wr hgt hm hg hr hgr hQ
  by_cases hB:4294967296≤g
  · exact Qka Qx w3 bv ov cv gu gq n j L v1 v0 u0 Q hh v us qs x10 x15 ok hexit t g r ih _ _ _ _ _ _ _ _ _ _ _ _ _ _ _ _ _ _ _ _ _ _ _ _ _ _ _ _ _ _ _ _ _ _ _ _ _ _ _ _ _ _ _ _ _ _ _ _ _ _ _ _ _ _ _ _ _ _ _ _ _ _ _ _ _ _ _ _ _ _ _ _ _ _ _ _ _ _ _ _ _ _ _ _ _ _ _ _ _ _ _ _ _ _ _ _ _ _ _ _ _ _ _ _ _ _ _ _ _ _ _ _ _ _ _ _ _ _ _ _ _ _ _ _ _ _ _ _ _ _ _ _ _ _ _ _ _ _ _ _ _ _ _ _ _ _ _ _ _ _ _ _ _ _ _ _ _ _ _ _ _ _ _ _ _ _ _ _ _ _ _ _ _ _ _ _ _ _ _ _ _ _ _ _ _ _ _ _ _ _ _ _ _ _ _ _ _ _ _ _ _ _ _ _ _ _ _ _ _ _ _ _ _ _ _ _ _ _ _ _ _ _ _ _ _ _ _ _ _ _ _ _ _ _ _ _ _ _ _ _ _ _ _ _ _ _ _ _ _ _ _ _ _ _ _ _ _ _ _ _ _ _ _ wr hgt hm hg hr hgr hQ hB
  ·
   by_cases hc:r*4294967296+u0<g*v0
   · exact Qkb Qx w3 bv ov cv gu gq n j L v1 v0 u0 Q hh v us qs x10 x15 ok hexit t g r ih _ _ _ _ _ _ _ _ _ _ _ _ _ _ _ _ _ _ _ _ _ _ _ _ _ _ _ _ _ _ _ _ _ _ _ _ _ _ _ _ _ _ _ _ _ _ _ _ _ _ _ _ _ _ _ _ _ _ _ _ _ _ _ _ _ _ _ _ _ _ _ _ _ _ _ _ _ _ _ _ _ _ _ _ _ _ _ _ _ _ _ _ _ _ _ _ _ _ _ _ _ _ _ _ _ _ _ _ _ _ _ _ _ _ _ _ _ _ _ _ _ _ _ _ _ _ _ _ _ _ _ _ _ _ _ _ _ _ _ _ _ _ _ _ _ _ _ _ _ _ _ _ _ _ _ _ _ _ _ _ _ _ _ _ _ _ _ _ _ _ _ _ _ _ _ _ _ _ _ _ _ _ _ _ _ _ _ _ _ _ _ _ _ _ _ _ _ _ _ _ _ _ _ _ _ _ _ _ _ _ _ _ _ _ _ _ _ _ _ _ _ _ _ _ _ _ _ _ _ _ _ _ _ _ _ _ _ _ _ _ _ _ _ _ _ _ _ _ _ _ _ _ _ _ _ _ _ _ _ _ _ _ _ wr hgt hm hr hgr hQ (by omega) hc
   · exact Qf0 Qx w3 bv ov cv gu gq n j L v1 v0 u0 Q hh v us qs x10 x15 ok hexit (t+1) g r _ _ _ _ _ _ _ _ _ _ _ _ _ _ _ _ _ _ _ _ _ _ _ _ _ _ _ _ _ _ _ _ _ _ _ _ _ _ _ _ _ _ _ _ _ _ _ _ _ _ _ _ _ _ _ _ _ _ _ _ _ _ _ _ _ _ _ _ _ _ _ _ _ _ _ _ _ _ _ _ _ _ _ _ _ _ _ _ _ _ _ _ _ _ _ _ _ _ _ _ _ _ _ _ _ _ _ _ _ _ _ _ _ _ _ _ _ _ _ _ _ _ _ _ _ _ _ _ _ _ _ _ _ _ _ _ _ _ _ _ _ _ _ _ _ _ _ _ _ _ _ _ _ _ _ _ _ _ _ _ _ _ _ _ _ _ _ _ _ _ _ _ _ _ _ _ _ _ _ _ _ _ _ _ _ _ _ _ _ _ _ _ _ _ _ _ _ _ _ _ _ _ _ _ _ _ _ _ _ _ _ _ _ _ _ _ _ _ _ _ _ _ _ _ _ _ _ _ _ _ _ _ _ _ _ _ _ _ _ _ _ _ _ _ _ _ _ _ _ _ _ _ _ _ _ _ _ _ _ _ _ _ _ wr hm hr hgr hQ (by omega) (by omega)
set_option maxRecDepth 1000000 in
def PlaceExit(Qx:Exit→Act→World→Prop)(w3:World)(bv ov cv gu gq n M L X V:Nat)(v:List Nat)(x10:Value):Prop:=
 ∀(us qs:List Nat) (s0 s1 s2 s3 s4 s5 s6 s7 s8 s9 s11 s13 s14 s16 s17 s18 s19 s20 s21 s22 s23 s24 s25 s26 s27 s28 s29 s30 s31 s32 s33 s34 s35 s36 s37 s38 s39 s40 s41 s42 s43 s44 s45 s46 s47 s48 s49 s50 s51 s52 s53 s54 s55 s56 s57 s58 s59 s60 s61 s62 s63 s64 s65 s66 s67 s68 s69 s70 s71 s72 s73 s74 s75 s76 s77 s78 s79 s80 s81 s82 s83 s84 s85 s86 s87 s88 s89 s90 s91 s92 s93 s94 s95 s96 s97 s98 s99 s100 s101 s102 s103 s104 s105 s106 s107 s108 s109 s110 s111 s112 s113 s114 s115 s116 s117 s118 s119 s120 s121 s122 s123 s124 s125 s126 s127 s128 s129 s130 s131 s132 s133 s134 s135 s136 s137 s138 s139 s140 s141 s142 s143 s144 s145 s146 s147 s148 s149 s150 s151 s152 s153 s154 s155 s156 s157 s158 s159 s160 s161 s162 s163 s164 s165 s166 s167 s168 s169 s170 s171 s172 s173 s174 s175 s176 s177 s178 s179 s180 s181 s182 s183 s184 s185 s186 s187 s188 s189 s190 s191 s192 s193 s194 s195 s196 s197 s198 s199 s200 s201 s202 s203 s204 s205 s206 s207 s208 s209 s210 s211 s212 s213 s214 s215 s216 s217 s218 s219 s220 s221 s222 s223 s224 s225 s226 s227 s228 s229 s230 s231 s232 s233 s234 s235 s236 s237 s238 s239 s240 s241 s242 s243 s244 s245 s246 s247 s248 s249 s250 s251 s252 s253 s254 s255 s256 s257 s258 s259 s260 s261 s262 s263 s264 s265 s266 s267 s268 s269 s270 s271 s272:Value) (wr:World),DivMem w3 wr bv ov gu gq n L v us qs→DivInv X V n M 0 us qs→
    Qx (.exit 0) ⟨#[s0,s1,s2,s3,s4,s5,s6,s7,s8,s9,x10,s11,.slice (some ⟨gu,0,none⟩) L L,s13,s14,.slice (some ⟨gq,0,none⟩) (M+1) (M+1),s16,s17,s18,s19,s20,s21,s22,s23,s24,s25,s26,s27,s28,s29,s30,s31,s32,s33,s34,s35,s36,s37,s38,s39,s40,s41,s42,s43,s44,s45,s46,s47,s48,s49,s50,s51,s52,s53,s54,s55,s56,s57,s58,s59,s60,s61,s62,s63,s64,s65,s66,s67,s68,s69,s70,s71,s72,s73,s74,s75,s76,s77,s78,s79,s80,s81,s82,s83,s84,s85,s86,s87,s88,s89,s90,s91,s92,s93,s94,s95,s96,s97,s98,s99,s100,s101,s102,s103,s104,s105,s106,s107,s108,s109,s110,s111,s112,s113,s114,s115,s116,s117,s118,s119,s120,s121,s122,s123,s124,s125,s126,s127,s128,s129,s130,s131,s132,s133,s134,s135,s136,s137,s138,s139,s140,s141,s142,s143,s144,s145,s146,s147,s148,s149,s150,s151,s152,s153,s154,s155,s156,s157,s158,s159,s160,s161,s162,s163,s164,s165,s166,s167,s168,s169,s170,s171,s172,s173,s174,s175,s176,s177,s178,s179,s180,s181,s182,s183,s184,s185,s186,s187,s188,s189,s190,s191,s192,s193,s194,s195,s196,s197,s198,s199,s200,s201,s202,s203,s204,s205,s206,s207,s208,s209,s210,s211,s212,s213,s214,s215,s216,s217,s218,s219,s220,s221,s222,s223,s224,s225,s226,s227,s228,s229,s230,s231,s232,s233,s234,s235,s236,s237,s238,s239,s240,s241,s242,s243,s244,s245,s246,s247,s248,s249,s250,s251,s252,s253,s254,s255,s256,s257,s258,s259,s260,s261,s262,s263,s264,s265,s266,s267,s268,s269,s270,s271,s272],[]⟩ wr
set_option maxRecDepth 1000000 in
def PlaceAt(Qx:Exit→Act→World→Prop)(w3:World)(bv ov cv gu gq n M L v1 v0 X V:Nat)(v:List Nat)(x10:Value)(t:Nat):Prop:=
 ∀(us qs:List Nat) (s0 s1 s2 s3 s4 s5 s6 s7 s8 s9 s14 s19 s20 s21 s22 s23 s24 s25 s26 s27 s28 s29 s30 s31 s32 s33 s34 s35 s36 s37 s38 s39 s40 s41 s42 s43 s44 s45 s46 s47 s48 s49 s50 s51 s52 s53 s54 s55 s56 s57 s58 s59 s60 s61 s62 s63 s64 s65 s66 s67 s68 s69 s70 s71 s72 s73 s74 s75 s76 s77 s78 s79 s80 s81 s82 s83 s84 s85 s86 s87 s88 s89 s90 s91 s92 s93 s94 s95 s96 s97 s98 s99 s100 s101 s102 s103 s104 s105 s106 s107 s108 s109 s110 s111 s112 s113 s114 s115 s116 s117 s118 s119 s120 s121 s122 s123 s124 s125 s126 s127 s128 s129 s130 s131 s132 s133 s134 s135 s136 s137 s138 s139 s140 s141 s142 s143 s144 s145 s146 s147 s148 s149 s150 s151 s152 s153 s154 s155 s156 s157 s158 s159 s160 s161 s162 s163 s164 s165 s166 s167 s168 s169 s170 s171 s172 s173 s174 s175 s176 s177 s178 s179 s180 s181 s182 s183 s184 s185 s186 s187 s188 s189 s190 s191 s192 s193 s194 s195 s196 s197 s198 s199 s200 s201 s202 s203 s204 s205 s206 s207 s208 s209 s210 s211 s212 s213 s214 s215 s216 s217 s218 s219 s220 s221 s222 s223 s224 s225 s226 s227 s228 s229 s230 s231 s232 s233 s234 s235 s236 s237 s238 s239 s240 s241 s242 s243 s244 s245 s246 s247 s248 s249 s250 s251 s252 s253 s254 s255 s256 s257 s258 s259 s260 s261 s262 s263 s264 s265 s266 s267 s268 s269 s270 s271 s272:Value) (wr:World),t≤M+1→DivMem w3 wr bv ov gu gq n L v us qs→DivInv X V n M t us qs→
    Code.rounds Tryz.prog (((Tryz.f236.body.map loopsIn).getD []).getD 0 .skip) Qx (t+1) ⟨#[s0,s1,s2,s3,s4,s5,s6,s7,s8,s9,x10,.slice (some ⟨bv,ov,none⟩) (n+2) cv,.slice (some ⟨gu,0,none⟩) L L,.int .i64 ((n:Int)+2),s14,.slice (some ⟨gq,0,none⟩) (M+1) (M+1),.int .u64 (v1:Int),.int .u64 (v0:Int),.int .i64 ((t:Int) - 1),s19,s20,s21,s22,s23,s24,s25,s26,s27,s28,s29,s30,s31,s32,s33,s34,s35,s36,s37,s38,s39,s40,s41,s42,s43,s44,s45,s46,s47,s48,s49,s50,s51,s52,s53,s54,s55,s56,s57,s58,s59,s60,s61,s62,s63,s64,s65,s66,s67,s68,s69,s70,s71,s72,s73,s74,s75,s76,s77,s78,s79,s80,s81,s82,s83,s84,s85,s86,s87,s88,s89,s90,s91,s92,s93,s94,s95,s96,s97,s98,s99,s100,s101,s102,s103,s104,s105,s106,s107,s108,s109,s110,s111,s112,s113,s114,s115,s116,s117,s118,s119,s120,s121,s122,s123,s124,s125,s126,s127,s128,s129,s130,s131,s132,s133,s134,s135,s136,s137,s138,s139,s140,s141,s142,s143,s144,s145,s146,s147,s148,s149,s150,s151,s152,s153,s154,s155,s156,s157,s158,s159,s160,s161,s162,s163,s164,s165,s166,s167,s168,s169,s170,s171,s172,s173,s174,s175,s176,s177,s178,s179,s180,s181,s182,s183,s184,s185,s186,s187,s188,s189,s190,s191,s192,s193,s194,s195,s196,s197,s198,s199,s200,s201,s202,s203,s204,s205,s206,s207,s208,s209,s210,s211,s212,s213,s214,s215,s216,s217,s218,s219,s220,s221,s222,s223,s224,s225,s226,s227,s228,s229,s230,s231,s232,s233,s234,s235,s236,s237,s238,s239,s240,s241,s242,s243,s244,s245,s246,s247,s248,s249,s250,s251,s252,s253,s254,s255,s256,s257,s258,s259,s260,s261,s262,s263,s264,s265,s266,s267,s268,s269,s270,s271,s272],[]⟩ wr
set_option maxRecDepth 1000000 in
set_option maxHeartbeats 4000000 in
theorem Qj7(Qx:Exit→Act→World→Prop)(w3:World)(bv ov cv gu gq n M L v1 v0 X V:Nat)(v:List Nat)(x10:Value)(hexit:PlaceExit Qx w3 bv ov cv gu gq n M L X V v x10):PlaceAt Qx w3 bv ov cv gu gq n M L v1 v0 X V v x10 0:=by
 intro us qs s0 s1 s2 s3 s4 s5 s6 s7 s8 s9 s14 s19 s20 s21 s22 s23 s24 s25 s26 s27 s28 s29 s30 s31 s32 s33 s34 s35 s36 s37 s38 s39 s40 s41 s42 s43 s44 s45 s46 s47 s48 s49 s50 s51 s52 s53 s54 s55 s56 s57 s58 s59 s60 s61 s62 s63 s64 s65 s66 s67 s68 s69 s70 s71 s72 s73 s74 s75 s76 s77 s78 s79 s80 s81 s82 s83 s84 s85 s86 s87 s88 s89 s90 s91 s92 s93 s94 s95 s96 s97 s98 s99 s100 s101 s102 s103 s104 s105 s106 s107 s108 s109 s110 s111 s112 s113 s114 s115 s116 s117 s118 s119 s120 s121 s122 s123 s124 s125 s126 s127 s128 s129 s130 s131 s132 s133 s134 s135 s136 s137 s138 s139 s140 s141 s142 s143 s144 s145 s146 s147 s148 s149 s150 s151 s152 s153 s154 s155 s156 s157 s158 s159 s160 s161 s162 s163 s164 s165 s166 s167 s168 s169 s170 s171 s172 s173 s174 s175 s176 s177 s178 s179 s180 s181 s182 s183 s184 s185 s186 s187 s188 s189 s190 s191 s192 s193 s194 s195 s196 s197 s198 s199 s200 s201 s202 s203 s204 s205 s206 s207 s208 s209 s210 s211 s212 s213 s214 s215 s216 s217 s218 s219 s220 s221 s222 s223 s224 s225 s226 s227 s228 s229 s230 s231 s232 s233 s234 s235 s236 s237 s238 s239 s240 s241 s242 s243 s244 s245 s246 s247 s248 s249 s250 s251 s252 s253 s254 s255 s256 s257 s258 s259 s260 s261 s262 s263 s264 s265 s266 s267 s268 s269 s270 s271 s272 wr ht hm hi
 have HM:=Hi hm
 have HI:=Hi hi
 clear hm hi
 rw[rounds_succ]
 conv=>arg 2;whnf
 go_wp2
 exact hexit _ _ _ _ _ _ _ _ _ _ _ _ _ _ _ _ _ _ _ _ _ _ _ _ _ _ _ _ _ _ _ _ _ _ _ _ _ _ _ _ _ _ _ _ _ _ _ _ _ _ _ _ _ _ _ _ _ _ _ _ _ _ _ _ _ _ _ _ _ _ _ _ _ _ _ _ _ _ _ _ _ _ _ _ _ _ _ _ _ _ _ _ _ _ _ _ _ _ _ _ _ _ _ _ _ _ _ _ _ _ _ _ _ _ _ _ _ _ _ _ _ _ _ _ _ _ _ _ _ _ _ _ _ _ _ _ _ _ _ _ _ _ _ _ _ _ _ _ _ _ _ _ _ _ _ _ _ _ _ _ _ _ _ _ _ _ _ _ _ _ _ _ _ _ _ _ _ _ _ _ _ _ _ _ _ _ _ _ _ _ _ _ _ _ _ _ _ _ _ _ _ _ _ _ _ _ _ _ _ _ _ _ _ _ _ _ _ _ _ _ _ _ _ _ _ _ _ _ _ _ _ _ _ _ _ _ _ _ _ _ _ _ _ _ _ _ _ _ _ _ _ _ _ _ _ _ _ _ _ _ _ _ _ _ _ _ _ _ _ _ _ _ _ HM.out HI.out
set_option maxRecDepth 1000000 in
set_option maxHeartbeats 8000000 in
theorem Qj8(Qx:Exit→Act→World→Prop)(w3:World)(bv ov cv gu gq n M L v1 v0 X V:Nat)(v:List Nat)(x10:Value)(hL:L=M+n+3)(hLb:L≤1099511627776)(hv:Num 4294967296 v V)(hvl:v.length=n+2)(hv1:v.getD (n+1) 0=v1)(hv0:v.getD n 0=v0)(h1:1≤v1)
 (j:Nat) (ih:PlaceAt Qx w3 bv ov cv gu gq n M L v1 v0 X V v x10 j):PlaceAt Qx w3 bv ov cv gu gq n M L v1 v0 X V v x10 (j+1):=by
 intro us qs s0 s1 s2 s3 s4 s5 s6 s7 s8 s9 s14 s19 s20 s21 s22 s23 s24 s25 s26 s27 s28 s29 s30 s31 s32 s33 s34 s35 s36 s37 s38 s39 s40 s41 s42 s43 s44 s45 s46 s47 s48 s49 s50 s51 s52 s53 s54 s55 s56 s57 s58 s59 s60 s61 s62 s63 s64 s65 s66 s67 s68 s69 s70 s71 s72 s73 s74 s75 s76 s77 s78 s79 s80 s81 s82 s83 s84 s85 s86 s87 s88 s89 s90 s91 s92 s93 s94 s95 s96 s97 s98 s99 s100 s101 s102 s103 s104 s105 s106 s107 s108 s109 s110 s111 s112 s113 s114 s115 s116 s117 s118 s119 s120 s121 s122 s123 s124 s125 s126 s127 s128 s129 s130 s131 s132 s133 s134 s135 s136 s137 s138 s139 s140 s141 s142 s143 s144 s145 s146 s147 s148 s149 s150 s151 s152 s153 s154 s155 s156 s157 s158 s159 s160 s161 s162 s163 s164 s165 s166 s167 s168 s169 s170 s171 s172 s173 s174 s175 s176 s177 s178 s179 s180 s181 s182 s183 s184 s185 s186 s187 s188 s189 s190 s191 s192 s193 s194 s195 s196 s197 s198 s199 s200 s201 s202 s203 s204 s205 s206 s207 s208 s209 s210 s211 s212 s213 s214 s215 s216 s217 s218 s219 s220 s221 s222 s223 s224 s225 s226 s227 s228 s229 s230 s231 s232 s233 s234 s235 s236 s237 s238 s239 s240 s241 s242 s243 s244 s245 s246 s247 s248 s249 s250 s251 s252 s253 s254 s255 s256 s257 s258 s259 s260 s261 s262 s263 s264 s265 s266 s267 s268 s269 s270 s271 s272 wr hjM hm hI
 have hv1b:v1<4294967296:=by rw[←hv1];exact hv.small.getD (by omega) _
 have hv0b:v0<4294967296:=by rw[←hv0];exact hv.small.getD (by omega) _
 have hV0:0<V:=by
  have e1:=hv.trim.pow_le (B:=4294967296) (by omega)
  rw[hv.eq] at e1
  have e2:0<4294967296 ^ (v.length - 1):=Nat.pow_pos (by omega)
  omega
 have hul:=hI.ulen
 have ei:((j+1:Nat):Int) - 1=(j:Int):=by omega
 rw[ei]
 clear ei
 obtain⟨u2,hu2⟩:∃d,us.getD (j+(n+2)) 0=d:=⟨_,rfl⟩
 obtain⟨u1,hu1⟩:∃d,us.getD (j+(n+1)) 0=d:=⟨_,rfl⟩
 obtain⟨u0,hu0⟩:∃d,us.getD (j+n) 0=d:=⟨_,rfl⟩
 have b2:u2<4294967296:=by rw[←hu2];exact hI.usmall.getD (by omega) _
 have b1:u1<4294967296:=by rw[←hu1];exact hI.usmall.getD (by omega) _
 have b0:u0<4294967296:=by rw[←hu0];exact hI.usmall.getD (by omega) _
 have g2:=hm.ub.cell (j+(n+2)) (by omega)
 have g1:=hm.ub.cell (j+(n+1)) (by omega)
 rw[hu2] at g2
 rw[hu1] at g1
 obtain⟨hh,hhh⟩:∃hh,u2*4294967296+u1=hh:=⟨_,rfl⟩
 obtain⟨Q,hQ⟩:∃Q,val 4294967296 us / (4294967296 ^ j*V)=Q:=⟨_,rfl⟩
 obtain⟨G1,G2,G3,G4⟩:=hI.guess (by omega) hv hvl hu2 hu1 hu0 hv1 hv0 h1 hhh hQ
 have hQb:=hI.q_lt hV0
 rw[hQ] at hQb
 have ok:GuessOk n j L v1 v0 u0 Q hh us:=⟨hLb,by omega,h1,hv1b,hv0b,hu0,b0,hQb,G2,G3,G4⟩
 have hor:bits .or .u64 ((u2:Int)*4294967296) (u1:Int)=(hh:Int):=by
  rw[or64 ((u2:Int)*4294967296) (u1:Int) u2 u1 32 (by omega) rfl b1 (by omega)]
  omega
 have hhb:hh<18446744073709551616:=by omega
 obtain⟨g',hg'⟩:∃g',hh / v1=g':=⟨_,rfl⟩
 obtain⟨r',hr'⟩:∃r',hh % v1=r':=⟨_,rfl⟩
 have t1:(hh:Int) / (v1:Int)=(g':Int):=by rw[←hg'];simp
 have t2:(hh:Int) % (v1:Int)=(r':Int):=by rw[←hr'];simp
 have t3:(hh:Int).tmod (v1:Int)=(r':Int):=by rw[Int.tmod_eq_emod_of_nonneg (by omega)];exact t2
 have t4:(hh:Int).tdiv (v1:Int)=(g':Int):=by rw[Int.tdiv_eq_ediv_of_nonneg (by omega)];exact t1
 have hgb:g'<18446744073709551616:=by rw[←hg'];exact Nat.lt_of_le_of_lt (Nat.div_le_self _ _) hhb
 have hrb:r'<v1:=by rw[←hr'];exact Nat.mod_lt _ (by omega)
 have t5:=Qbp g' hgb
 have hgr:g'*v1+r'=hh:=by rw[←hg',←hr',Nat.mul_comm];exact Nat.div_add_mod _ _
 have hQg:Q≤g':=by rw[←hg'];exact G1
 have qv:((v1:Int) == 0)=false:=by rw[beq_eq_false_iff_ne];omega
 have OK:=Hi ok
 have HM:=Hi hm
 have HI:=Hi hI
 have HQ:=Hi hQ
 have HU2:=Hi hu2
 have HGR:=Hi hgr
 have HVN:=Hi hv
 have HVL:=Hi hvl
 have HL:=Hi hL
 have HJ:=Hi hjM
 have hjn:j+(n+2)<L:=by omega
 have hjn':(j:Int)+((n:Int)+2)<(L:Int):=by omega
 have hjn0:(0:Int)≤(j:Int)+((n:Int)+2):=by omega
 have hjn1:(j:Int)+((n:Int)+2) - 1<(L:Int):=by omega
 have hjn2:(0:Int)≤(j:Int)+((n:Int)+2) - 1:=by omega
 clear G1 G2 G3 G4 hg' hr' hgr hQ hu2 hu1 hu0 hI hm hhh hul hv hvl hv1 hv0 ok hL hjM
 rw[rounds_succ]
 conv=>arg 2;whnf
 go_wp2
 go_quiet (fail)
 go_wp2
 go_quiet (fail)
 go_wp2
 refine wp_loop_rounds (g'+1) ?_
 refine(Qkc _ w3 bv ov cv gu gq n j L v1 v0 u0 Q hh v us qs x10 _ OK.out ?hex g') g' r' _ _ _ _ _ _ _ _ _ _ _ _ _ _ _ _ _ _ _ _ _ _ _ _ _ _ _ _ _ _ _ _ _ _ _ _ _ _ _ _ _ _ _ _ _ _ _ _ _ _ _ _ _ _ _ _ _ _ _ _ _ _ _ _ _ _ _ _ _ _ _ _ _ _ _ _ _ _ _ _ _ _ _ _ _ _ _ _ _ _ _ _ _ _ _ _ _ _ _ _ _ _ _ _ _ _ _ _ _ _ _ _ _ _ _ _ _ _ _ _ _ _ _ _ _ _ _ _ _ _ _ _ _ _ _ _ _ _ _ _ _ _ _ _ _ _ _ _ _ _ _ _ _ _ _ _ _ _ _ _ _ _ _ _ _ _ _ _ _ _ _ _ _ _ _ _ _ _ _ _ _ _ _ _ _ _ _ _ _ _ _ _ _ _ _ _ _ _ _ _ _ _ _ _ _ _ _ _ _ _ _ _ _ _ _ _ _ _ _ _ _ _ _ _ _ _ _ _ _ _ _ _ _ _ _ _ _ _ _ _ _ _ _ _ _ _ _ _ _ _ _ _ _ _ _ _ _ _ _ _ _ _ _ _ (Nat.le_refl _) ((HM.out.drewN _).drewN _) hgb (by omega) HGR.out hQg
 case hex=>
  clear g1 g2 hor t1 t2 t3 t4 t5 hgb hrb hQg qv
  intro g p0 p1 p2 p3 p4 p5 p6 p7 p8 p9 p14 p19 p21 p22 p23 p24 p25 p26 p27 p28 p29 p30 p31 p32 p33 p34 p35 p36 p37 p38 p39 p40 p41 p42 p43 p44 p45 p46 p47 p48 p49 p50 p51 p52 p53 p54 p55 p56 p57 p58 p59 p60 p61 p62 p63 p64 p65 p66 p67 p68 p69 p70 p71 p72 p73 p74 p75 p76 p77 p78 p79 p80 p81 p82 p83 p84 p85 p86 p87 p88 p89 p90 p91 p92 p93 p94 p95 p96 p97 p98 p99 p100 p101 p102 p103 p104 p105 p106 p107 p108 p109 p110 p111 p112 p113 p114 p115 p116 p117 p118 p119 p120 p121 p122 p123 p124 p125 p126 p127 p128 p129 p130 p131 p132 p133 p134 p135 p136 p137 p138 p139 p140 p141 p142 p143 p144 p145 p146 p147 p148 p149 p150 p151 p152 p153 p154 p155 p156 p157 p158 p159 p160 p161 p162 p163 p164 p165 p166 p167 p168 p169 p170 p171 p172 p173 p174 p175 p176 p177 p178 p179 p180 p181 p182 p183 p184 p185 p186 p187 p188 p189 p190 p191 p192 p193 p194 p195 p196 p197 p198 p199 p200 p201 p202 p203 p204 p205 p206 p207 p208 p209 p210 p211 p212 p213 p214 p215 p216 p217 p218 p219 p220 p221 p222 p223 p224 p225 p226 p227 p228 p229 p230 p231 p232 p233 p234 p235 p236 p237 p238 p239 p240 p241 p242 p243 p244 p245 p246 p247 p248 p249 p250 p251 p252 p253 p254 p255 p256 p257 p258 p259 p260 p261 p262 p263 p264 p265 p266 p267 p268 p269 p270 p271 p272 wr1 hm1 hgB hQg hgQ
  go_wp2
  refine wp_loop_rounds (n+2+1) ?_
  refine(Qke _ w3 bv ov cv gu gq n j L (val 4294967296 (us.take (j+(n+2)))) u2 g v qs x10 _ _ _ hLb hjn hgB ?hex2 (n+2)) 0 0 0 us _ _ _ _ _ _ _ _ _ _ _ _ _ _ _ _ _ _ _ _ _ _ _ _ _ _ _ _ _ _ _ _ _ _ _ _ _ _ _ _ _ _ _ _ _ _ _ _ _ _ _ _ _ _ _ _ _ _ _ _ _ _ _ _ _ _ _ _ _ _ _ _ _ _ _ _ _ _ _ _ _ _ _ _ _ _ _ _ _ _ _ _ _ _ _ _ _ _ _ _ _ _ _ _ _ _ _ _ _ _ _ _ _ _ _ _ _ _ _ _ _ _ _ _ _ _ _ _ _ _ _ _ _ _ _ _ _ _ _ _ _ _ _ _ _ _ _ _ _ _ _ _ _ _ _ _ _ _ _ _ _ _ _ _ _ _ _ _ _ _ _ _ _ _ _ _ _ _ _ _ _ _ _ _ _ _ _ _ _ _ _ _ _ _ _ _ _ _ _ _ _ _ _ _ _ _ _ _ _ _ _ _ _ _ _ _ _ _ _ _ _ _ _ _ _ _ _ _ _ _ _ _ _ _ _ _ _ _ _ _ _ _ _ _ _ _ _ _ _ _ _ _ _ _ _ _ _ _ _ _ _ _ (by omega) hm1 (by omega) (by omega) HU2.out ?hz2 ?hv2
  case hz2=>
   intro p hp
   have e1:=HL.out
   have e2:=HJ.out
   have e3:=Qab (B:=4294967296) (by omega) HVN.out.small
   rw[HVN.out.eq,HVL.out] at e3
   have e4:=HI.out.zero (by omega) e3
   exact Ql9 4294967296 (by omega) us (j+(n+2)) e4 p hp
  case hv2=>simp[val]
  case hex2=>
   intro c d us1 q0 q1 q2 q3 q4 q5 q6 q7 q8 q9 q14 q19 q21 q24 q25 q26 q27 q28 q29 q30 q31 q32 q33 q34 q35 q36 q37 q38 q39 q40 q41 q42 q43 q44 q45 q46 q47 q48 q49 q50 q51 q52 q53 q54 q55 q56 q57 q58 q59 q60 q61 q62 q63 q64 q65 q66 q67 q68 q69 q70 q71 q72 q73 q74 q75 q76 q77 q78 q79 q80 q81 q82 q83 q84 q85 q86 q87 q88 q89 q90 q91 q92 q93 q94 q95 q96 q97 q98 q99 q100 q101 q102 q103 q104 q105 q106 q107 q108 q109 q110 q111 q112 q113 q114 q115 q116 q117 q118 q119 q120 q121 q122 q123 q124 q125 q126 q127 q128 q129 q130 q131 q132 q133 q134 q135 q136 q137 q138 q139 q140 q141 q142 q143 q144 q145 q146 q147 q148 q149 q150 q151 q152 q153 q154 q155 q156 q157 q158 q159 q160 q161 q162 q163 q164 q165 q166 q167 q168 q169 q170 q171 q172 q173 q174 q175 q176 q177 q178 q179 q180 q181 q182 q183 q184 q185 q186 q187 q188 q189 q190 q191 q192 q193 q194 q195 q196 q197 q198 q199 q200 q201 q202 q203 q204 q205 q206 q207 q208 q209 q210 q211 q212 q213 q214 q215 q216 q217 q218 q219 q220 q221 q222 q223 q224 q225 q226 q227 q228 q229 q230 q231 q232 q233 q234 q235 q236 q237 q238 q239 q240 q241 q242 q243 q244 q245 q246 q247 q248 q249 q250 q251 q252 q253 q254 q255 q256 q257 q258 q259 q260 q261 q262 q263 q264 q265 q266 q267 q268 q269 q270 q271 q272 wr2 hm2 hc hd ha hz hvv
   have hql:=HI.out.qlen
   have hul1:=hm2.ul
   have k0:=hm2.ub.cell (j+(n+2)) (by omega)
   have k1:=hm2.ub.free (j+(n+2))
   rw[ha] at k0
   have f0:=hm2.qb.cell j (by have:=HJ.out;omega)
   have f1:=hm2.qb.free j
   obtain⟨z,hz0⟩:∃z,qs.getD j 0=z:=⟨_,rfl⟩
   rw[hz0] at f0
   have hVb:=Qab (B:=4294967296) (by omega) HVN.out.small
   rw[HVN.out.eq,HVL.out] at hVb
   have hU:val 4294967296 us=val 4294967296 (us.take (j+(n+2)))+4294967296 ^ (j+(n+2))*u2:=by
    have e1:=HL.out
    have e2:=HJ.out
    exact Qg0 4294967296 us (j+(n+2)) u2 (by have:=HI.out.ulen;omega) HU2.out (HI.out.zero (by omega) hVb)
   have hLt:val 4294967296 (us1.take (j+(n+2)))<4294967296 ^ (j+(n+2)):=by
    have e1:=Qab (B:=4294967296) (by omega) (hm2.usmall.take (j+(n+2)))
    rw[List.length_take,hul1,Nat.min_eq_left (by omega)] at e1
    exact e1
   rw[show v.take (n+2)=v from List.take_of_length_le (by rw[HVL.out];exact Nat.le_refl _),HVN.out.eq] at hvv
   have hend:=Ql6 4294967296 j (n+2) u2 c d g _ _ V _ hLt hU hV0 (by omega) hvv (by rw[HQ.out];exact hQg) (by rw[HQ.out];exact hgQ) (by omega)
   have hD:4294967296 ^ j*V≤4294967296 ^ (j+(n+2)):=by rw[Nat.pow_add];exact Nat.mul_le_mul_left _ (by omega)
   have hmod:=Nat.mod_lt (val 4294967296 us) (Nat.mul_pos (Nat.pow_pos (n:=j) (show 0<4294967296 by omega)) hV0)
   rw[HQ.out] at hend
   have HM2:=Hi hm2
   have HZ:=Hi hz
   have HD:=Hi hD
   have HMOD:=Hi hmod
   have HUL:=Hi hul1
   have hjq:(j:Int)<(M:Int)+1:=by have:=HJ.out;omega
   have HHQ:=Hi HI.out
   clear hD hmod hvv hU hVb hz hm2 hul1 hql hz0 ha hLt hm1
   rcases hend with ⟨rfl,hcd,hmo⟩|⟨hgQ1,hcd,hmo⟩
   ·
    have tt:IntKind.u64.wrap (IntKind.u64.wrap ((u2:Int) - (c:Int)) - (d:Int))=0:=by
     rw[Qam,Qam];omega
    have HMO:=Hi hmo
    clear hmo hcd hQg hgQ
    go_wp2
    refine ih (us1.set (j+(n+2)) 0) (qs.set j g) _ _ _ _ _ _ _ _ _ _ _ _ _ _ _ _ _ _ _ _ _ _ _ _ _ _ _ _ _ _ _ _ _ _ _ _ _ _ _ _ _ _ _ _ _ _ _ _ _ _ _ _ _ _ _ _ _ _ _ _ _ _ _ _ _ _ _ _ _ _ _ _ _ _ _ _ _ _ _ _ _ _ _ _ _ _ _ _ _ _ _ _ _ _ _ _ _ _ _ _ _ _ _ _ _ _ _ _ _ _ _ _ _ _ _ _ _ _ _ _ _ _ _ _ _ _ _ _ _ _ _ _ _ _ _ _ _ _ _ _ _ _ _ _ _ _ _ _ _ _ _ _ _ _ _ _ _ _ _ _ _ _ _ _ _ _ _ _ _ _ _ _ _ _ _ _ _ _ _ _ _ _ _ _ _ _ _ _ _ _ _ _ _ _ _ _ _ _ _ _ _ _ _ _ _ _ _ _ _ _ _ _ _ _ _ _ _ _ _ _ _ _ _ _ _ _ _ _ _ _ _ _ _ _ _ _ _ _ _ _ _ _ _ _ _ _ _ _ _ _ _ _ _ _ _ _ _ _ _ _ _ _ _ _ _ _ (by have:=HJ.out;omega) ((HM2.out.setU _ 0 (by omega)).setQ j g) (HI.out.next (by have:=HJ.out;omega) hV0 HQ.out (by rw[List.length_set,HUL.out,HL.out]) (HM2.out.usmall.set _ (by omega)) ?_)
    rw[Qg1 _ _ _ (by rw[HUL.out];exact hjn) HZ.out]
    exact HMO.out
   ·
    obtain⟨T,hT⟩:∃T:Nat,T=18446744073709551615:=⟨_,rfl⟩
    have tt:IntKind.u64.wrap (IntKind.u64.wrap ((u2:Int) - (c:Int)) - (d:Int))=(T:Int):=by
     rw[Qam,Qam];omega
    have t1:(T:Int) % 4294967296=4294967295:=by omega
    have t2:(T:Int) / 9223372036854775808=1:=by omega
    have hTb:T<18446744073709551616:=by omega
    have eg:(g:Int) - 1=(Q:Int):=by omega
    have EG:=Hi eg
    have hg1:(1:Int)≤(g:Int):=by omega
    have HMO:=Hi hmo
    clear hmo hcd hQg hgQ hT eg hgQ1
    go_wp2
    rw[EG.out]
    refine wp_loop_rounds (n+2+1) ?_
    refine(Qki _ w3 bv ov cv gu gq n j L (val 4294967296 (us1.take (j+(n+2)))) 4294967295 v qs x10 _ _ _ _ hLb hjn ?hex3 (n+2)) 0 0 (us1.set (j+(n+2)) 4294967295) _ _ _ _ _ _ _ _ _ _ _ _ _ _ _ _ _ _ _ _ _ _ _ _ _ _ _ _ _ _ _ _ _ _ _ _ _ _ _ _ _ _ _ _ _ _ _ _ _ _ _ _ _ _ _ _ _ _ _ _ _ _ _ _ _ _ _ _ _ _ _ _ _ _ _ _ _ _ _ _ _ _ _ _ _ _ _ _ _ _ _ _ _ _ _ _ _ _ _ _ _ _ _ _ _ _ _ _ _ _ _ _ _ _ _ _ _ _ _ _ _ _ _ _ _ _ _ _ _ _ _ _ _ _ _ _ _ _ _ _ _ _ _ _ _ _ _ _ _ _ _ _ _ _ _ _ _ _ _ _ _ _ _ _ _ _ _ _ _ _ _ _ _ _ _ _ _ _ _ _ _ _ _ _ _ _ _ _ _ _ _ _ _ _ _ _ _ _ _ _ _ _ _ _ _ _ _ _ _ _ _ _ _ _ _ _ _ _ _ _ _ _ _ _ _ _ _ _ _ _ _ _ _ _ _ _ _ _ _ _ _ _ _ _ _ _ _ _ _ _ _ _ _ _ _ _ _ _ _ _ _ _ _ (by omega) (HM2.out.setU _ 4294967295 (by omega)) (by omega) (Qa6 _ _ _ (by rw[HUL.out];exact hjn)) ?hz3 ?hv3
    case hz3=>intro p hp;rw[getD_set_ne _ _ _ _ (by omega)];exact HZ.out p hp
    case hv3=>rw[List.take_set_of_le (Nat.le_refl _)];simp[val]
    case hex3=>
     clear k0 k1 f0 f1 tt t1 t2 hTb hg1
     intro c3 us3 r0 r1 r2 r3 r4 r5 r6 r7 r8 r9 r14 r19 r21 r23 r24 r25 r26 r27 r28 r29 r30 r31 r32 r33 r34 r35 r36 r37 r38 r39 r40 r41 r42 r43 r44 r45 r46 r47 r48 r49 r50 r51 r52 r53 r54 r55 r56 r57 r58 r59 r60 r61 r62 r63 r64 r65 r66 r67 r68 r69 r70 r71 r72 r73 r74 r75 r76 r77 r78 r79 r80 r81 r82 r83 r84 r85 r86 r87 r88 r89 r90 r91 r92 r93 r94 r95 r96 r97 r98 r99 r100 r101 r102 r103 r104 r105 r106 r107 r108 r109 r110 r111 r112 r113 r114 r115 r116 r117 r118 r119 r120 r121 r122 r123 r124 r125 r126 r127 r128 r129 r130 r131 r132 r133 r134 r135 r136 r137 r138 r139 r140 r141 r142 r143 r144 r145 r146 r147 r148 r149 r150 r151 r152 r153 r154 r155 r156 r157 r158 r159 r160 r161 r162 r163 r164 r165 r166 r167 r168 r169 r170 r171 r172 r173 r174 r175 r176 r177 r178 r179 r180 r181 r182 r183 r184 r185 r186 r187 r188 r189 r190 r191 r192 r193 r194 r195 r196 r197 r198 r199 r200 r201 r202 r203 r204 r205 r206 r207 r208 r209 r210 r211 r212 r213 r214 r215 r216 r217 r218 r219 r220 r221 r222 r223 r224 r225 r226 r227 r228 r229 r230 r231 r232 r233 r234 r235 r236 r237 r238 r239 r240 r241 r242 r243 r244 r245 r246 r247 r248 r249 r250 r251 r252 r253 r254 r255 r256 r257 r258 r259 r260 r261 r262 r263 r264 r265 r266 r267 r268 r269 r270 r271 r272 wr3 hm3 hc3 ha3 hz3 hv3
     have k0:=hm3.ub.cell (j+(n+2)) (by rw[hm3.ul];exact hjn)
     have k1:=hm3.ub.free (j+(n+2))
     rw[ha3] at k0
     have f0:=hm3.qb.cell j (by have:=HJ.out;have:=HI.out.qlen;omega)
     have f1:=hm3.qb.free j
     obtain⟨z',hz0'⟩:∃z,qs.getD j 0=z:=⟨_,rfl⟩
     rw[hz0'] at f0
     have hLt:val 4294967296 (us3.take (j+(n+2)))<4294967296 ^ (j+(n+2)):=by
      have e1:=Qab (B:=4294967296) (by omega) (hm3.usmall.take (j+(n+2)))
      rw[List.length_take,hm3.ul,Nat.min_eq_left (by omega)] at e1
      exact e1
     rw[show v.take (n+2)=v from List.take_of_length_le (by rw[HVL.out];exact Nat.le_refl _),HVN.out.eq,HMO.out] at hv3
     obtain⟨hc1,hmo⟩:=Qmb _ _ c3 _ _ hLt HMOD.out HD.out hc3 hv3
     subst hc1
     have HM3:=Hi hm3
     have HZ3:=Hi hz3
     have HMO3:=Hi hmo
     clear hm3 hz3 hmo hv3 hLt ha3 hz0' hc3
     go_wp2
     refine ih (us3.set (j+(n+2)) 0) (qs.set j Q) _ _ _ _ _ _ _ _ _ _ _ _ _ _ _ _ _ _ _ _ _ _ _ _ _ _ _ _ _ _ _ _ _ _ _ _ _ _ _ _ _ _ _ _ _ _ _ _ _ _ _ _ _ _ _ _ _ _ _ _ _ _ _ _ _ _ _ _ _ _ _ _ _ _ _ _ _ _ _ _ _ _ _ _ _ _ _ _ _ _ _ _ _ _ _ _ _ _ _ _ _ _ _ _ _ _ _ _ _ _ _ _ _ _ _ _ _ _ _ _ _ _ _ _ _ _ _ _ _ _ _ _ _ _ _ _ _ _ _ _ _ _ _ _ _ _ _ _ _ _ _ _ _ _ _ _ _ _ _ _ _ _ _ _ _ _ _ _ _ _ _ _ _ _ _ _ _ _ _ _ _ _ _ _ _ _ _ _ _ _ _ _ _ _ _ _ _ _ _ _ _ _ _ _ _ _ _ _ _ _ _ _ _ _ _ _ _ _ _ _ _ _ _ _ _ _ _ _ _ _ _ _ _ _ _ _ _ _ _ _ _ _ _ _ _ _ _ _ _ _ _ _ _ _ _ _ _ _ _ _ _ _ _ _ _ _ (by have:=HJ.out;omega) ((HM3.out.setU _ 0 (by omega)).setQ j Q) (HI.out.next (by have:=HJ.out;omega) hV0 HQ.out (by rw[List.length_set,HM3.out.ul,HL.out]) (HM3.out.usmall.set _ (by omega)) ?_)
     rw[Qg1 _ _ _ (by rw[HM3.out.ul];exact hjn) HZ3.out]
     exact HMO3.out
theorem Qj9(Qx:Exit→Act→World→Prop)(w3:World)(bv ov cv gu gq n M L v1 v0 X V:Nat)(v:List Nat)(x10:Value)(hL:L=M+n+3)(hLb:L≤1099511627776)(hv:Num 4294967296 v V)(hvl:v.length=n+2)(hv1:v.getD (n+1) 0=v1)(hv0:v.getD n 0=v0)(h1:1≤v1)
 (hexit:PlaceExit Qx w3 bv ov cv gu gq n M L X V v x10) (t:Nat):PlaceAt Qx w3 bv ov cv gu gq n M L v1 v0 X V v x10 t:=by
 induction t with
 |zero=>exact Qj7 Qx w3 bv ov cv gu gq n M L v1 v0 X V v x10 hexit
 |succ t ih=>exact Qj8 Qx w3 bv ov cv gu gq n M L v1 v0 X V v x10 hL hLb hv hvl hv1 hv0 h1 t ih
end Go.Proofs.YtgnmjaponiclhaaGreatDoor
