/- rafterbig's div: its loop that takes a multiple of the divisor away. -/
import Derived.Test.YtbbkamnfjejceaaGreatDoorS04BigDivL4
namespace Go.Proofs.YtbbkamnfjejceaaGreatDoor
open Go.RowKit
set_option linter.unusedVariables false
set_option maxRecDepth 1000000 in
def TakeExit(Q:Exit→Act→World→Prop)(w3:World)(bv ov cv gu gq n j L R a2 g:Nat)(v qs:List Nat)(x10 x15 x16 x17:Value):Prop:=
 ∀(c d:Nat) (us:List Nat) {s0 s1 s2 s3 s4 s5 s6 s7 s8 s9 s14 s19 s21 s24 s25 s26 s27 s28 s29 s30 s31 s32 s33 s34 s35 s36 s37 s38 s39 s40 s41 s42 s43 s44 s45 s46 s47 s48 s49 s50 s51 s52 s53 s54 s55 s56 s57 s58 s59 s60 s61 s62 s63 s64 s65 s66 s67 s68 s69 s70 s71 s72 s73 s74 s75 s76 s77 s78 s79 s80 s81 s82 s83 s84 s85 s86 s87 s88 s89 s90 s91 s92 s93 s94 s95 s96 s97 s98 s99 s100 s101 s102 s103 s104 s105 s106 s107 s108 s109 s110 s111 s112 s113 s114 s115 s116 s117 s118 s119 s120 s121 s122 s123 s124 s125 s126 s127 s128 s129 s130 s131 s132 s133 s134 s135 s136 s137 s138 s139 s140 s141 s142 s143 s144 s145 s146 s147 s148 s149 s150 s151 s152 s153 s154 s155 s156 s157 s158 s159 s160 s161 s162 s163 s164 s165 s166 s167 s168 s169 s170 s171 s172 s173 s174 s175 s176 s177 s178 s179 s180 s181 s182 s183 s184 s185 s186 s187 s188 s189 s190 s191 s192 s193 s194 s195 s196 s197 s198 s199 s200 s201 s202 s203 s204 s205 s206 s207 s208 s209 s210 s211 s212 s213 s214 s215 s216 s217 s218 s219 s220 s221 s222 s223 s224 s225 s226 s227 s228 s229 s230 s231 s232 s233 s234 s235 s236 s237 s238 s239 s240 s241 s242 s243 s244 s245 s246 s247 s248 s249 s250 s251 s252 s253 s254 s255 s256 s257 s258 s259 s260 s261 s262 s263 s264 s265 s266 s267 s268 s269 s270 s271 s272:Value} (wr:World),DivMem w3 wr bv ov gu gq n L v us qs→c<4294967296→d≤1→us.getD (j+(n+2)) 0=a2→(∀p,j+(n+2)<p→us.getD p 0=0)→
    val 4294967296 (us.take (j+(n+2)))+4294967296 ^ j*(g*val 4294967296 (v.take (n+2)))=R+4294967296 ^ (j+(n+2))*(c+d)→
    Q (.exit 4) ⟨#[s0,s1,s2,s3,s4,s5,s6,s7,s8,s9,x10,.slice (some ⟨bv,ov,none⟩) (n+2) cv,.slice (some ⟨gu,0,none⟩) L L,.int .i64 ((n:Int)+2),s14,x15,x16,x17,.int .i64 (j:Int),s19,.int .u64 (g:Int),s21,.int .u64 (c:Int),.int .u64 (d:Int),s24,s25,s26,s27,s28,s29,s30,s31,s32,s33,s34,s35,s36,s37,s38,s39,s40,s41,s42,s43,s44,s45,s46,s47,s48,s49,s50,s51,s52,s53,s54,s55,s56,s57,s58,s59,s60,s61,s62,s63,s64,s65,s66,s67,s68,s69,s70,s71,s72,s73,s74,s75,s76,s77,s78,s79,s80,s81,s82,s83,s84,s85,s86,s87,s88,s89,s90,s91,s92,s93,s94,s95,s96,s97,s98,s99,s100,s101,s102,s103,s104,s105,s106,s107,s108,s109,s110,s111,s112,s113,s114,s115,s116,s117,s118,s119,s120,s121,s122,s123,s124,s125,s126,s127,s128,s129,s130,s131,s132,s133,s134,s135,s136,s137,s138,s139,s140,s141,s142,s143,s144,s145,s146,s147,s148,s149,s150,s151,s152,s153,s154,s155,s156,s157,s158,s159,s160,s161,s162,s163,s164,s165,s166,s167,s168,s169,s170,s171,s172,s173,s174,s175,s176,s177,s178,s179,s180,s181,s182,s183,s184,s185,s186,s187,s188,s189,s190,s191,s192,s193,s194,s195,s196,s197,s198,s199,s200,s201,s202,s203,s204,s205,s206,s207,s208,s209,s210,s211,s212,s213,s214,s215,s216,s217,s218,s219,s220,s221,s222,s223,s224,s225,s226,s227,s228,s229,s230,s231,s232,s233,s234,s235,s236,s237,s238,s239,s240,s241,s242,s243,s244,s245,s246,s247,s248,s249,s250,s251,s252,s253,s254,s255,s256,s257,s258,s259,s260,s261,s262,s263,s264,s265,s266,s267,s268,s269,s270,s271,s272],[]⟩ wr
set_option maxRecDepth 1000000 in
def TakeAt(Q:Exit→Act→World→Prop)(w3:World)(bv ov cv gu gq n j L R a2 g:Nat)(v qs:List Nat)(x10 x15 x16 x17:Value)(t:Nat):Prop:=
 ∀(i c d:Nat) (us:List Nat) {s0 s1 s2 s3 s4 s5 s6 s7 s8 s9 s14 s19 s21 s25 s26 s27 s28 s29 s30 s31 s32 s33 s34 s35 s36 s37 s38 s39 s40 s41 s42 s43 s44 s45 s46 s47 s48 s49 s50 s51 s52 s53 s54 s55 s56 s57 s58 s59 s60 s61 s62 s63 s64 s65 s66 s67 s68 s69 s70 s71 s72 s73 s74 s75 s76 s77 s78 s79 s80 s81 s82 s83 s84 s85 s86 s87 s88 s89 s90 s91 s92 s93 s94 s95 s96 s97 s98 s99 s100 s101 s102 s103 s104 s105 s106 s107 s108 s109 s110 s111 s112 s113 s114 s115 s116 s117 s118 s119 s120 s121 s122 s123 s124 s125 s126 s127 s128 s129 s130 s131 s132 s133 s134 s135 s136 s137 s138 s139 s140 s141 s142 s143 s144 s145 s146 s147 s148 s149 s150 s151 s152 s153 s154 s155 s156 s157 s158 s159 s160 s161 s162 s163 s164 s165 s166 s167 s168 s169 s170 s171 s172 s173 s174 s175 s176 s177 s178 s179 s180 s181 s182 s183 s184 s185 s186 s187 s188 s189 s190 s191 s192 s193 s194 s195 s196 s197 s198 s199 s200 s201 s202 s203 s204 s205 s206 s207 s208 s209 s210 s211 s212 s213 s214 s215 s216 s217 s218 s219 s220 s221 s222 s223 s224 s225 s226 s227 s228 s229 s230 s231 s232 s233 s234 s235 s236 s237 s238 s239 s240 s241 s242 s243 s244 s245 s246 s247 s248 s249 s250 s251 s252 s253 s254 s255 s256 s257 s258 s259 s260 s261 s262 s263 s264 s265 s266 s267 s268 s269 s270 s271 s272:Value} (wr:World),i+t=n+2→DivMem w3 wr bv ov gu gq n L v us qs→c<4294967296→d≤1→us.getD (j+(n+2)) 0=a2→(∀p,j+(n+2)<p→us.getD p 0=0)→
    val 4294967296 (us.take (j+(n+2)))+4294967296 ^ j*(g*val 4294967296 (v.take i))=R+4294967296 ^ (j+i)*(c+d)→
    Code.rounds Tryz.prog (((Tryz.f172.body.map loopsIn).getD []).getD 2 .skip) Q (t+1) ⟨#[s0,s1,s2,s3,s4,s5,s6,s7,s8,s9,x10,.slice (some ⟨bv,ov,none⟩) (n+2) cv,.slice (some ⟨gu,0,none⟩) L L,.int .i64 ((n:Int)+2),s14,x15,x16,x17,.int .i64 (j:Int),s19,.int .u64 (g:Int),s21,.int .u64 (c:Int),.int .u64 (d:Int),.int .i64 (i:Int),s25,s26,s27,s28,s29,s30,s31,s32,s33,s34,s35,s36,s37,s38,s39,s40,s41,s42,s43,s44,s45,s46,s47,s48,s49,s50,s51,s52,s53,s54,s55,s56,s57,s58,s59,s60,s61,s62,s63,s64,s65,s66,s67,s68,s69,s70,s71,s72,s73,s74,s75,s76,s77,s78,s79,s80,s81,s82,s83,s84,s85,s86,s87,s88,s89,s90,s91,s92,s93,s94,s95,s96,s97,s98,s99,s100,s101,s102,s103,s104,s105,s106,s107,s108,s109,s110,s111,s112,s113,s114,s115,s116,s117,s118,s119,s120,s121,s122,s123,s124,s125,s126,s127,s128,s129,s130,s131,s132,s133,s134,s135,s136,s137,s138,s139,s140,s141,s142,s143,s144,s145,s146,s147,s148,s149,s150,s151,s152,s153,s154,s155,s156,s157,s158,s159,s160,s161,s162,s163,s164,s165,s166,s167,s168,s169,s170,s171,s172,s173,s174,s175,s176,s177,s178,s179,s180,s181,s182,s183,s184,s185,s186,s187,s188,s189,s190,s191,s192,s193,s194,s195,s196,s197,s198,s199,s200,s201,s202,s203,s204,s205,s206,s207,s208,s209,s210,s211,s212,s213,s214,s215,s216,s217,s218,s219,s220,s221,s222,s223,s224,s225,s226,s227,s228,s229,s230,s231,s232,s233,s234,s235,s236,s237,s238,s239,s240,s241,s242,s243,s244,s245,s246,s247,s248,s249,s250,s251,s252,s253,s254,s255,s256,s257,s258,s259,s260,s261,s262,s263,s264,s265,s266,s267,s268,s269,s270,s271,s272],[]⟩ wr
set_option maxRecDepth 1000000 in
set_option maxHeartbeats 4000000 in
theorem take_zero(Q:Exit→Act→World→Prop)(w3:World)(bv ov cv gu gq n j L R a2 g:Nat)(v qs:List Nat)(x10 x15 x16 x17:Value)(hL:L≤1099511627776)(hj:j+(n+2)<L)
 (hexit:TakeExit Q w3 bv ov cv gu gq n j L R a2 g v qs x10 x15 x16 x17):TakeAt Q w3 bv ov cv gu gq n j L R a2 g v qs x10 x15 x16 x17 0:=by
 intro i c d us
 iterate 261 intro
 intro wr hi hm hc hd ha hz hv;obtain rfl:i=n+2:=by omega
 have HV:=Hi hv;have HM:=Hi hm;have HZ:=Hi hz;have HA:=Hi ha;clear hv hm hz ha;rw[rounds_succ]
 conv=>arg 2;whnf
 go_wp2;exact hexit _ _ _ _ HM.out hc hd HA.out HZ.out HV.out
set_option maxRecDepth 1000000 in
set_option maxHeartbeats 4000000 in
theorem Qie(Q:Exit→Act→World→Prop)(w3:World)(bv ov cv gu gq n j L R a2 g:Nat)(v qs:List Nat)(x10 x15 x16 x17:Value)(hL:L≤1099511627776)(hj:j+(n+2)<L)(hg:g<4294967296)(t:Nat)
 (ih:TakeAt Q w3 bv ov cv gu gq n j L R a2 g v qs x10 x15 x16 x17 t):TakeAt Q w3 bv ov cv gu gq n j L R a2 g v qs x10 x15 x16 x17 (t+1):=by
 intro i c d us
 iterate 261 intro
 intro wr hi hm hc hd ha hz hv;have HM:=Hi hm;have HZ:=Hi hz;have HA:=Hi ha;have hul:=hm.ul;obtain⟨e,he⟩:∃e,v.getD i 0=e:=⟨_,rfl⟩;obtain⟨a,ha'⟩:∃a,us.getD (j+i) 0=a:=⟨_,rfl⟩;have heb:e<4294967296:=by rw[←he];exact hm.vsmall.getD (by omega) _
 have hab:a<4294967296:=by rw[←ha'];exact hm.usmall.getD (by omega) _
 have k1:=hm.vcell i (by omega);have k2:=hm.ub.cell (i+j) (by omega);have k3:=hm.ub.free (i+j);rw[he] at k1;rw[Nat.add_comm i j,ha',Nat.add_comm j i] at k2;have hp:=Qcn hg heb;obtain⟨p,hp'⟩:∃p:Nat,g*e=p:=⟨_,rfl⟩;have hpb:p≤18446744065119617025:=by rw[←hp'];exact hp
 obtain⟨S,hS⟩:∃S:Nat,c+p=S:=⟨_,rfl⟩;obtain⟨lo,hlo⟩:∃lo:Nat,S % 4294967296=lo:=⟨_,rfl⟩;obtain⟨c',hc'⟩:∃c':Nat,S / 4294967296=c':=⟨_,rfl⟩;obtain⟨nd,d',b1,b2,b3,b4,b5⟩:=Qk2 a lo d hab (by omega) hd;have hst:=Qk0 4294967296 j i (j+(n+2)) a c d g e nd d' R us v (by omega) (by omega) ha' he (by rw[hp',hS,hlo];exact b3) hv;rw[hp',hS,hc'] at hst;have HS:=Hi hst;have B4:=Hi b4;have B5:=Hi b5;have r1:(g:Int)*(e:Int)=(p:Int):=by rw[←hp'];simp
 have r2:(c:Int)+(p:Int)=(S:Int):=by omega
 have r3:(S:Int) % 4294967296=(lo:Int):=by omega
 have r4:(S:Int) / 4294967296=(c':Int):=by omega
 have hSb:S<18446744073709551616:=by omega
 have hlob:lo<4294967296:=by omega
 have hcb:c'<4294967296:=by omega
 have hin:i<n+2:=by omega
 have hijL:i+j<L:=by omega
 have HI:=Hi hi;clear hv hm hz ha he ha' hst hul hi b3 b4 b5 hp hp' hS hlo hc';rw[rounds_succ]
 conv=>arg 2;whnf
 go_wp2;simp only[Qao,B4.out,B5.out];rw[show (i:Int)+1=((i+1:Nat):Int) from by omega];refine ih (i+1) c' d' (us.set (j+i) nd) _ (by have:=HI.out;omega) ?_ hcb b2 ?_ ?_ HS.out
 · rw[Nat.add_comm j i];exact HM.out.setU _ _ b1
 · rw[getD_set_ne _ _ _ _ (by omega)];exact HA.out
 · intro p hp;rw[getD_set_ne _ _ _ _ (by omega)];exact HZ.out p hp
theorem Qif(Q:Exit→Act→World→Prop)(w3:World)(bv ov cv gu gq n j L R a2 g:Nat)(v qs:List Nat)(x10 x15 x16 x17:Value)(hL:L≤1099511627776)(hj:j+(n+2)<L)(hg:g<4294967296)
 (hexit:TakeExit Q w3 bv ov cv gu gq n j L R a2 g v qs x10 x15 x16 x17) (t:Nat):TakeAt Q w3 bv ov cv gu gq n j L R a2 g v qs x10 x15 x16 x17 t:=by
 induction t with
 |zero=>exact take_zero Q w3 bv ov cv gu gq n j L R a2 g v qs x10 x15 x16 x17 hL hj hexit
 |succ t ih=>exact Qie Q w3 bv ov cv gu gq n j L R a2 g v qs x10 x15 x16 x17 hL hj hg t ih
end Go.Proofs.YtbbkamnfjejceaaGreatDoor
