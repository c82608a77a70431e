/- rafterbig's div: its loop that takes a multiple of the divisor away. -/
import Derived.Test.YtfpcipgoedifaaaGreatDoorK02Knuth
import Derived.Laws.CopyOwn
import Derived.Deep.RegionWith
import Derived.LoopN
import Derived.Deep.QuietTactic
import Derived.BigQuiet
namespace Go.Proofs.YtfpcipgoedifaaaGreatDoor
open Go.RowKit
set_option linter.unusedVariables false
def DivOk(w:World)(x y:Nat)(e:Ending)(w':World):Prop:=
 (∃a cap r a' cap' r',e=.returned (.tuple #[.slice a r.length cap,.slice a' r'.length cap'])/\U32 w' a cap r (x / y)/\U32 w' a' cap' r' (x % y))/\Below w.heap.size w w'
set_option maxRecDepth 100000 in
set_option maxHeartbeats 2000000 in
theorem Qlm(a1 a2:Option Addr)(c1 c2:Nat)(l m:List Nat)(x y:Nat)(w:World)(h1:U32 w a1 c1 l x)(h2:U32 w a2 c2 m y)(hxy:x<y):
 Calls Tryz.prog 112 #[.slice a1 l.length c1,.slice a2 m.length c2] w (DivOk w x y):=by
 have s2:=h2.short;have q1:((m.length:Int) == 0)=false:=by
  rw[beq_eq_false_iff_ne];have:=(h2.num.len_zero (by omega)).2;omega
 have hc:=(Qat x y).2 hxy;go_enter Tryz.func112,Tryz.ntmps112;go_wp2_with fail;refine(Qa8 a1 a2 c1 c2 l m x y w h1 h2).mono ?_;rintro e w1 ⟨rfl,hb⟩;go_wp2_with fail;refine(Qeo a1 c1 l x w1 (h1.below hb)).mono ?_;rintro e w2 ⟨⟨a,cap,rfl,hu⟩,hb2⟩;go_wp2;go_ret2;refine⟨⟨none,0,[],a,cap,l,rfl,?_,?_⟩,hb.trans (hb2.mono hb.size)⟩
 · rw[Nat.div_eq_of_lt hxy];exact⟨Row.nil _ _,Num.zero _,by simp⟩
 · rw[Nat.mod_eq_of_lt hxy];exact hu
set_option maxRecDepth 100000 in
set_option maxHeartbeats 2000000 in
theorem Qln(a1 a2:Option Addr)(c1 c2:Nat)(l m:List Nat)(x y:Nat)(w:World)(h1:U32 w a1 c1 l x)(h2:U32 w a2 c2 m y)(hy:0<y)(hxy:y<=x)(hl:l.length<=2):
 Calls Tryz.prog 112 #[.slice a1 l.length c1,.slice a2 m.length c2] w (DivOk w x y):=by
 have s2:=h2.short;have q1:((m.length:Int) == 0)=false:=by
  rw[beq_eq_false_iff_ne];have:=(h2.num.len_zero (by omega)).2;omega
 have hml:m.length<=l.length:=by
  apply bC;intro hc;have:=Qas (B:=4294967296) (by omega) h1.num.small h2.num.trim (by omega);rw[h1.num.eq,h2.num.eq] at this;omega
 have hc:¬cmp3 x y<0:=by rw[Qat];omega
 have hxb:x<18446744073709551616:=by
  have e1:=Qab (B:=4294967296) (by omega) h1.num.small;have e2:=Qb1 (B:=4294967296) (by omega) hl;rw[h1.num.eq] at e1;omega
 go_enter Tryz.func112,Tryz.ntmps112;go_wp2_with fail;refine(Qa8 a1 a2 c1 c2 l m x y w h1 h2).mono ?_;rintro e w1 ⟨rfl,hb⟩;go_wp2_with fail;refine(Qbw a1 c1 l x w1 (h1.below hb) hl).mono ?_;rintro e w2 ⟨rfl,rfl⟩;go_wp2_with fail;refine(Qbw a2 c2 m y _ (h2.below hb) (by omega)).mono ?_;rintro e w3 ⟨rfl,rfl⟩;have qy:((y:Int) == 0)=false:=by rw[beq_eq_false_iff_ne];omega
 obtain⟨q,hq⟩:=nm (x / y);obtain⟨r,hr⟩:=nm (x % y);have t1:(x:Int) / (y:Int)=(q:Int):=by rw[<-hq];simp
 have t2:(x:Int) % (y:Int)=(r:Int):=by rw[<-hr];simp
 have t3:(x:Int).tmod (y:Int)=(r:Int):=by rw[Int.tmod_eq_emod_of_nonneg (by omega)];exact t2
 have t4:(x:Int).tdiv (y:Int)=(q:Int):=by rw[Int.tdiv_eq_ediv_of_nonneg (by omega)];exact t1
 have hqb:q<18446744073709551616:=by rw[<-hq];exact Nat.lt_of_le_of_lt (Nat.div_le_self _ _) hxb
 have hrb:r<18446744073709551616:=by rw[<-hr];exact Nat.lt_of_le_of_lt (Nat.mod_le _ _) hxb
 have t5:=Qbx q hqb;have HQ:Hid (x / y=q):=hq;have HR:Hid (x % y=r):=hr;clear hq hr hc;go_wp2;go_region_with (first|(go_at_call_of 68 (Value.int IntKind.u64 (q:Int));refine(Qbi _ _ ?_ ?_).mono ?_;omega;omega;rintro e w4 ⟨⟨aa1,caa1,rr1,rfl,hu1,hl21⟩,hb21⟩)|(go_at_call_of 68 (Value.int IntKind.u64 (r:Int));refine(Qbi _ _ ?_ ?_).mono ?_;omega;omega;rintro e w5 ⟨⟨aa2,caa2,rr2,rfl,hu2,hl22⟩,hb22⟩))
 all_goals
  go_wp2;go_ret2;rw[Int.toNat_natCast] at hu1 hu2;refine⟨⟨aa1,caa1,rr1,aa2,caa2,rr2,rfl,?_,?_⟩,hb.drew.trans ((hb21.mono hb.size).trans (hb22.mono (Nat.le_trans hb.size hb21.size)))⟩
  · rw[HQ.out];exact hu1.below hb22
  · rw[HR.out];exact hu2
set_option maxRecDepth 100000 in
set_option maxHeartbeats 2000000 in
theorem Qlo(a1 a2:Option Addr)(c1 c2:Nat)(l m:List Nat)(x y:Nat)(w:World)(h1:U32 w a1 c1 l x)(h2:U32 w a2 c2 m y)(hy:0<y)(hxy:y<=x)(hl:2<l.length)(hm:m.length=1):
 Calls Tryz.prog 112 #[.slice a1 l.length c1,.slice a2 m.length c2] w (DivOk w x y):=by
 have s1:=h1.short;have hc:¬cmp3 x y<0:=by rw[Qat];omega
 obtain⟨d,rfl⟩:∃d,m= [d]:=by
  match m,hm with
  | [d],_=>exact⟨d,rfl⟩
 have hdy:d=y:=by have:=h2.num.eq;simp[val] at this;exact this
 subst hdy;have hdb:d<4294967296:=h2.num.small d (by simp);obtain⟨b,off,rfl,hb1,hc1⟩:=h2.row.cell 0 (by simp);have hc1:w.cell? ⟨b,off,none⟩=some (.int .u32 (d:Int)):=by simpa using hc1
 show Calls Tryz.prog 112 #[.slice a1 l.length c1,.slice (some ⟨b,off,none⟩) 1 c2] w (DivOk w x d)
 go_enter Tryz.func112,Tryz.ntmps112;go_wp2_with fail;refine(Qa8 a1 (some ⟨b,off,none⟩) c1 c2 l [d] x d w h1 h2).mono ?_;rintro e w1 ⟨rfl,hb⟩;have hc1':=ce hb hb1 hc1;go_wp2_with fail;refine(Ql4 a1 c1 d l x w1 (h1.below hb) hy hdb).mono ?_;rintro e w2 ⟨⟨a,cap,r,rfl,hu⟩,hb2⟩;have hrb:x % d<4294967296:=Nat.lt_trans (Nat.mod_lt _ hy) hdb;obtain⟨z,hz⟩:=nm (x % d);have HZ:Hid (x % d=z):=hz;rw[hz] at hrb;rw[hz];clear hz hc;go_wp2_with fail;refine(Qax w2.heap.size 1 1 z [z] _ (Blk.new .u32 155 w2 [z]) rfl ?_ lZ (by omega) (by simp[val])).mono ?_
 · intro e he;simp at he;omega
 rintro e w3 ⟨⟨a',cap',r',rfl,hu'⟩,rfl⟩;go_wp2;go_ret2;have hb3:Below w2.heap.size w2 (w2.alloc (.cells (wordCells .u32 [z]) 155)):=bR.alloc lZ _;refine⟨⟨a,cap,r,a',cap',r',rfl,hu.below hb3,?_⟩,hb.trans ((hb2.mono hb.size).trans (hb3.mono (Nat.le_trans hb.size hb2.size)))⟩;rw[HZ.out];exact hu'
end Go.Proofs.YtfpcipgoedifaaaGreatDoor
namespace Go.Proofs.YtfpcipgoedifaaaGreatDoor
open Go.RowKit
def loopsIn:Code->List Code
 | .loop c=>c :: loopsIn c
 | .seq a b=>loopsIn a++loopsIn b
 | .block _ c=>loopsIn c
 | .scope c=>loopsIn c
 | .cond _ a b=>loopsIn a++loopsIn b
 |_=>[]
set_option linter.unusedVariables false
structure DivMem (w3 wr:World) (bv ov gu gq n L:Nat) (v us qs:List Nat):Prop where
 below:Below gu w3 wr
 bvlt:bv<gu
 cell:∀i,i<n+2->w3.cell? ⟨bv,ov+i,none⟩=some (.int .u32 ((v.getD i 0:Nat):Int))
 vsmall:Small 4294967296 v
 ub:Blk .u32 155 wr gu us
 qb:Blk .u32 155 wr gq qs
 ne:gu<gq
 ul:us.length=L
 usmall:Small 4294967296 us
theorem DivMem.vcell{w3 wr:World}{bv ov gu gq n L:Nat}{v us qs:List Nat}(h:DivMem w3 wr bv ov gu gq n L v us qs)(i:Nat)(hi:i<n+2):wr.cell? ⟨bv,ov+i,none⟩=some (.int .u32 ((v.getD i 0:Nat):Int)):=
 (h.below.cell (p:=⟨bv,ov+i,none⟩) h.bvlt).trans (h.cell i hi)
theorem DivMem.drew{w3 wr:World}{bv ov gu gq n L:Nat}{v us qs:List Nat}(h:DivMem w3 wr bv ov gu gq n L v us qs):DivMem w3 wr.drew bv ov gu gq n L v us qs:=
 ⟨h.below.drew,h.bvlt,h.cell,h.vsmall,h.ub.drew,h.qb.drew,h.ne,h.ul,h.usmall⟩
theorem DivMem.drewN{w3 wr:World}{bv ov gu gq n L:Nat}{v us qs:List Nat}(h:DivMem w3 wr bv ov gu gq n L v us qs)(k:Nat):DivMem w3 (wr.drewN k) bv ov gu gq n L v us qs:=
 ⟨⟨h.below.os,h.below.tape,h.below.output,h.below.size,h.below.block⟩,h.bvlt,h.cell,h.vsmall,h.ub,h.qb,h.ne,h.ul,h.usmall⟩
theorem DivMem.setU{w3 wr:World}{bv ov gu gq n L:Nat}{v us qs:List Nat}(h:DivMem w3 wr bv ov gu gq n L v us qs)(i x:Nat)(hx:x<4294967296):DivMem w3 (wr.setCell ⟨gu,i,none⟩ (.int .u32 (x:Int))) bv ov gu gq n L v (us.set i x) qs:=
 ⟨h.below.setCell lZ _,h.bvlt,h.cell,h.vsmall,h.ub.set i x,h.qb.other (by have:=h.ne;omega) i _,h.ne,by rw[List.length_set];exact h.ul,h.usmall.set i hx⟩
theorem DivMem.setQ{w3 wr:World}{bv ov gu gq n L:Nat}{v us qs:List Nat}(h:DivMem w3 wr bv ov gu gq n L v us qs)(i x:Nat):DivMem w3 (wr.setCell ⟨gq,i,none⟩ (.int .u32 (x:Int))) bv ov gu gq n L v us (qs.set i x):=
 ⟨h.below.setCell (by have:=h.ne;show gu<=gq;omega) _,h.bvlt,h.cell,h.vsmall,h.ub.other (by have:=h.ne;omega) i _,h.qb.set i x,h.ne,h.ul,h.usmall⟩
theorem Hi{p:Prop}(h:p):Hid p:=h
theorem Qlx(B j i q c vi a R:Nat)(us v:List Nat)(hq:q<=us.length)(hp:i+j<q)(ha:us.getD (i+j) 0=a)(hv:v.getD i 0=vi)
 (h:val B (us.take q)+B ^ (j+i)*c=R+B ^ j*val B (v.take i)):
 val B ((us.set (i+j) ((c+(a+vi)) % B)).take q)+B ^ (j+(i+1))*((c+(a+vi)) / B)=R+B ^ j*val B (v.take (i+1)):=by
 rw[Nat.add_comm i j] at hp ha ⊢;have e:=Qh0 B (j+i) q c vi a _ us hq hp ha h;rw[show c+(a+vi)=c+(vi+a) from by omega,show j+(i+1)=j+i+1 from by omega,e,Qad,hv,Nat.mul_add,<-Nat.mul_assoc (B ^ j),<-Nat.pow_add];omega
set_option maxRecDepth 1000000 in
def BackExit(Q:Exit->Act->World->Prop)(w3:World)(bv ov cv gu gq n j L R a2:Nat)(v qs:List Nat)(x10 x15 x16 x17 x20:Value):Prop:=
 ∀(c:Nat) (us:List Nat) {s0 s1 s2 s3 s4 s5 s6 s7 s8 s9 s14 s19 s21 s23 s24 s25 s26 s27 s28 s29 s30 s31 s32 s33 s34 s35 s36 s37 s38 s39 s40 s41 s42 s43 s44 s45 s46 s47 s48 s49 s50 s51 s52 s53 s54 s55 s56 s57 s58 s59 s60 s61 s62 s63 s64 s65 s66 s67 s68 s69 s70 s71 s72 s73 s74 s75 s76 s77 s78 s79 s80 s81 s82 s83 s84 s85 s86 s87 s88 s89 s90 s91 s92 s93 s94 s95 s96 s97 s98 s99 s100 s101 s102 s103 s104 s105 s106 s107 s108 s109 s110 s111 s112 s113 s114 s115 s116 s117 s118 s119 s120 s121 s122 s123 s124 s125 s126 s127 s128 s129 s130 s131 s132 s133 s134 s135 s136 s137 s138 s139 s140 s141 s142 s143 s144 s145 s146 s147 s148 s149 s150 s151 s152 s153 s154 s155 s156 s157 s158 s159 s160 s161 s162 s163 s164 s165 s166 s167 s168 s169 s170 s171 s172 s173 s174 s175 s176 s177 s178 s179 s180 s181 s182 s183 s184 s185 s186 s187 s188 s189 s190 s191 s192 s193 s194 s195 s196 s197 s198 s199 s200 s201 s202 s203 s204 s205 s206 s207 s208 s209 s210 s211 s212 s213 s214 s215 s216 s217 s218 s219 s220 s221 s222 s223 s224 s225 s226 s227 s228 s229 s230 s231 s232 s233 s234 s235 s236 s237 s238 s239 s240 s241 s242 s243 s244 s245 s246 s247 s248 s249 s250 s251 s252 s253 s254 s255 s256 s257 s258 s259 s260 s261 s262 s263 s264 s265 s266 s267 s268 s269 s270 s271 s272:Value} (wr:World),DivMem w3 wr bv ov gu gq n L v us qs->c<=1->us.getD (j+(n+2)) 0=a2->(∀p,j+(n+2)<p->us.getD p 0=0)->
    val 4294967296 (us.take (j+(n+2)))+4294967296 ^ (j+(n+2))*c=R+4294967296 ^ j*val 4294967296 (v.take (n+2))->
    Q (.exit 6) ⟨#[s0,s1,s2,s3,s4,s5,s6,s7,s8,s9,x10,.slice (some ⟨bv,ov,none⟩) (n+2) cv,.slice (some ⟨gu,0,none⟩) L L,.int .i64 ((n:Int)+2),s14,x15,x16,x17,.int .i64 (j:Int),s19,x20,s21,.int .u64 (c:Int),s23,s24,s25,s26,s27,s28,s29,s30,s31,s32,s33,s34,s35,s36,s37,s38,s39,s40,s41,s42,s43,s44,s45,s46,s47,s48,s49,s50,s51,s52,s53,s54,s55,s56,s57,s58,s59,s60,s61,s62,s63,s64,s65,s66,s67,s68,s69,s70,s71,s72,s73,s74,s75,s76,s77,s78,s79,s80,s81,s82,s83,s84,s85,s86,s87,s88,s89,s90,s91,s92,s93,s94,s95,s96,s97,s98,s99,s100,s101,s102,s103,s104,s105,s106,s107,s108,s109,s110,s111,s112,s113,s114,s115,s116,s117,s118,s119,s120,s121,s122,s123,s124,s125,s126,s127,s128,s129,s130,s131,s132,s133,s134,s135,s136,s137,s138,s139,s140,s141,s142,s143,s144,s145,s146,s147,s148,s149,s150,s151,s152,s153,s154,s155,s156,s157,s158,s159,s160,s161,s162,s163,s164,s165,s166,s167,s168,s169,s170,s171,s172,s173,s174,s175,s176,s177,s178,s179,s180,s181,s182,s183,s184,s185,s186,s187,s188,s189,s190,s191,s192,s193,s194,s195,s196,s197,s198,s199,s200,s201,s202,s203,s204,s205,s206,s207,s208,s209,s210,s211,s212,s213,s214,s215,s216,s217,s218,s219,s220,s221,s222,s223,s224,s225,s226,s227,s228,s229,s230,s231,s232,s233,s234,s235,s236,s237,s238,s239,s240,s241,s242,s243,s244,s245,s246,s247,s248,s249,s250,s251,s252,s253,s254,s255,s256,s257,s258,s259,s260,s261,s262,s263,s264,s265,s266,s267,s268,s269,s270,s271,s272],[]⟩ wr
set_option maxRecDepth 1000000 in
def BackAt(Q:Exit->Act->World->Prop)(w3:World)(bv ov cv gu gq n j L R a2:Nat)(v qs:List Nat)(x10 x15 x16 x17 x20:Value)(t:Nat):Prop:=
 ∀(i c:Nat) (us:List Nat) {s0 s1 s2 s3 s4 s5 s6 s7 s8 s9 s14 s19 s21 s23 s24 s25 s26 s28 s29 s30 s31 s32 s33 s34 s35 s36 s37 s38 s39 s40 s41 s42 s43 s44 s45 s46 s47 s48 s49 s50 s51 s52 s53 s54 s55 s56 s57 s58 s59 s60 s61 s62 s63 s64 s65 s66 s67 s68 s69 s70 s71 s72 s73 s74 s75 s76 s77 s78 s79 s80 s81 s82 s83 s84 s85 s86 s87 s88 s89 s90 s91 s92 s93 s94 s95 s96 s97 s98 s99 s100 s101 s102 s103 s104 s105 s106 s107 s108 s109 s110 s111 s112 s113 s114 s115 s116 s117 s118 s119 s120 s121 s122 s123 s124 s125 s126 s127 s128 s129 s130 s131 s132 s133 s134 s135 s136 s137 s138 s139 s140 s141 s142 s143 s144 s145 s146 s147 s148 s149 s150 s151 s152 s153 s154 s155 s156 s157 s158 s159 s160 s161 s162 s163 s164 s165 s166 s167 s168 s169 s170 s171 s172 s173 s174 s175 s176 s177 s178 s179 s180 s181 s182 s183 s184 s185 s186 s187 s188 s189 s190 s191 s192 s193 s194 s195 s196 s197 s198 s199 s200 s201 s202 s203 s204 s205 s206 s207 s208 s209 s210 s211 s212 s213 s214 s215 s216 s217 s218 s219 s220 s221 s222 s223 s224 s225 s226 s227 s228 s229 s230 s231 s232 s233 s234 s235 s236 s237 s238 s239 s240 s241 s242 s243 s244 s245 s246 s247 s248 s249 s250 s251 s252 s253 s254 s255 s256 s257 s258 s259 s260 s261 s262 s263 s264 s265 s266 s267 s268 s269 s270 s271 s272:Value} (wr:World),i+t=n+2->DivMem w3 wr bv ov gu gq n L v us qs->c<=1->us.getD (j+(n+2)) 0=a2->(∀p,j+(n+2)<p->us.getD p 0=0)->
    val 4294967296 (us.take (j+(n+2)))+4294967296 ^ (j+i)*c=R+4294967296 ^ j*val 4294967296 (v.take i)->
    Code.rounds Tryz.prog (((Tryz.f112.body.map loopsIn).getD []).getD 3 .skip) Q (t+1) ⟨#[s0,s1,s2,s3,s4,s5,s6,s7,s8,s9,x10,.slice (some ⟨bv,ov,none⟩) (n+2) cv,.slice (some ⟨gu,0,none⟩) L L,.int .i64 ((n:Int)+2),s14,x15,x16,x17,.int .i64 (j:Int),s19,x20,s21,.int .u64 (c:Int),s23,s24,s25,s26,.int .i64 (i:Int),s28,s29,s30,s31,s32,s33,s34,s35,s36,s37,s38,s39,s40,s41,s42,s43,s44,s45,s46,s47,s48,s49,s50,s51,s52,s53,s54,s55,s56,s57,s58,s59,s60,s61,s62,s63,s64,s65,s66,s67,s68,s69,s70,s71,s72,s73,s74,s75,s76,s77,s78,s79,s80,s81,s82,s83,s84,s85,s86,s87,s88,s89,s90,s91,s92,s93,s94,s95,s96,s97,s98,s99,s100,s101,s102,s103,s104,s105,s106,s107,s108,s109,s110,s111,s112,s113,s114,s115,s116,s117,s118,s119,s120,s121,s122,s123,s124,s125,s126,s127,s128,s129,s130,s131,s132,s133,s134,s135,s136,s137,s138,s139,s140,s141,s142,s143,s144,s145,s146,s147,s148,s149,s150,s151,s152,s153,s154,s155,s156,s157,s158,s159,s160,s161,s162,s163,s164,s165,s166,s167,s168,s169,s170,s171,s172,s173,s174,s175,s176,s177,s178,s179,s180,s181,s182,s183,s184,s185,s186,s187,s188,s189,s190,s191,s192,s193,s194,s195,s196,s197,s198,s199,s200,s201,s202,s203,s204,s205,s206,s207,s208,s209,s210,s211,s212,s213,s214,s215,s216,s217,s218,s219,s220,s221,s222,s223,s224,s225,s226,s227,s228,s229,s230,s231,s232,s233,s234,s235,s236,s237,s238,s239,s240,s241,s242,s243,s244,s245,s246,s247,s248,s249,s250,s251,s252,s253,s254,s255,s256,s257,s258,s259,s260,s261,s262,s263,s264,s265,s266,s267,s268,s269,s270,s271,s272],[]⟩ wr
set_option maxRecDepth 1000000 in
set_option maxHeartbeats 4000000 in
theorem Qly(Q:Exit->Act->World->Prop)(w3:World)(bv ov cv gu gq n j L R a2:Nat)(v qs:List Nat)(x10 x15 x16 x17 x20:Value)(hL:L<=1099511627776)(hj:j+(n+2)<L)
 (hexit:BackExit Q w3 bv ov cv gu gq n j L R a2 v qs x10 x15 x16 x17 x20):BackAt Q w3 bv ov cv gu gq n j L R a2 v qs x10 x15 x16 x17 x20 0:=by
 intro i c us
 iterate 262 intro
 intro wr hi hm hc ha hz hv;obtain rfl:i=n+2:=by omega
 have HV:Hid (val 4294967296 (us.take (j+(n+2)))+4294967296 ^ (j+(n+2))*c=R+4294967296 ^ j*val 4294967296 (v.take (n+2))):=hv;have HM:Hid (DivMem w3 wr bv ov gu gq n L v us qs):=hm;have HZ:Hid (∀p,j+(n+2)<p->us.getD p 0=0):=hz;have HA:Hid (us.getD (j+(n+2)) 0=a2):=ha;clear hv hm hz ha;rw[rounds_succ]
 conv=>arg 2;whnf
 go_wp2;exact hexit _ _ _ HM.out hc HA.out HZ.out HV.out
set_option maxRecDepth 1000000 in
set_option maxHeartbeats 4000000 in
theorem Qlz(Q:Exit->Act->World->Prop)(w3:World)(bv ov cv gu gq n j L R a2:Nat)(v qs:List Nat)(x10 x15 x16 x17 x20:Value)(hL:L<=1099511627776)(hj:j+(n+2)<L)(t:Nat)
 (ih:BackAt Q w3 bv ov cv gu gq n j L R a2 v qs x10 x15 x16 x17 x20 t):BackAt Q w3 bv ov cv gu gq n j L R a2 v qs x10 x15 x16 x17 x20 (t+1):=by
 intro i c us
 iterate 262 intro
 intro wr hi hm hc ha hz hv;have HV:Hid (val 4294967296 (us.take (j+(n+2)))+4294967296 ^ (j+i)*c=R+4294967296 ^ j*val 4294967296 (v.take i)):=hv;have HM:Hid (DivMem w3 wr bv ov gu gq n L v us qs):=hm;have HZ:Hid (∀p,j+(n+2)<p->us.getD p 0=0):=hz;have HA:Hid (us.getD (j+(n+2)) 0=a2):=ha;have hul:=hm.ul;obtain⟨e,he⟩:=nm (v.getD i 0);obtain⟨a,ha'⟩:∃a,us.getD (i+j) 0=a:=⟨_,rfl⟩;have heb:e<4294967296:=by rw[<-he];exact hm.vsmall.getD (by omega) _
 have hab:a<4294967296:=by rw[<-ha'];exact hm.usmall.getD (by omega) _
 have k1:=hm.vcell i (by omega);have k2:=hm.ub.cell (i+j) (by omega);have k3:=hm.ub.free (i+j);rw[he] at k1;rw[ha'] at k2;have hst:=Qlx 4294967296 j i (j+(n+2)) c e a R us v (by omega) (by omega) ha' he hv;have HS:Hid (val 4294967296 ((us.set (i+j) ((c+(a+e)) % 4294967296)).take (j+(n+2)))+4294967296 ^ (j+(i+1))*((c+(a+e)) / 4294967296)=R+4294967296 ^ j*val 4294967296 (v.take (i+1))):=hst;have ev:Hid (((c:Int)+(a+e)) % 4294967296=(((c+(a+e)) % 4294967296:Nat):Int)):=by unfold Hid;omega
 have ec:Hid (((c:Int)+(a+e)) / 4294967296=(((c+(a+e)) / 4294967296:Nat):Int)):=by unfold Hid;omega
 have hin:i<n+2:=by omega
 have hijL:i+j<L:=by omega
 have hin':(i:Int)<(n:Int)+2:=by omega
 have hijL':(i:Int)+(j:Int)<(L:Int):=by omega
 have HI:Hid (i+(t+1)=n+2):=hi;clear hv hm hz ha he ha' hst hul hi;rw[rounds_succ]
 conv=>arg 2;whnf
 go_wp2;go_quiet (fail);go_wp2;rw[ev.out,ec.out];rw[show (i:Int)+1=((i+1:Nat):Int) from by omega]
 ·
  refine ih (i+1) ((c+(a+e)) / 4294967296) (us.set (i+j) ((c+(a+e)) % 4294967296)) _ (by have:=HI.out;omega) ((HM.out.drewN _).setU _ _ (by omega)) (by omega) ?_ ?_ HS.out
  · rw[getD_set_ne _ _ _ _ (by omega)];exact HA.out
  · intro p hp;rw[getD_set_ne _ _ _ _ (by omega)];exact HZ.out p hp
theorem Ql0(Q:Exit->Act->World->Prop)(w3:World)(bv ov cv gu gq n j L R a2:Nat)(v qs:List Nat)(x10 x15 x16 x17 x20:Value)(hL:L<=1099511627776)(hj:j+(n+2)<L)
 (hexit:BackExit Q w3 bv ov cv gu gq n j L R a2 v qs x10 x15 x16 x17 x20) (t:Nat):BackAt Q w3 bv ov cv gu gq n j L R a2 v qs x10 x15 x16 x17 x20 t:=by
 induction t with
 |zero=>exact Qly Q w3 bv ov cv gu gq n j L R a2 v qs x10 x15 x16 x17 x20 hL hj hexit
 |succ t ih=>exact Qlz Q w3 bv ov cv gu gq n j L R a2 v qs x10 x15 x16 x17 x20 hL hj t ih
set_option maxRecDepth 1000000 in
def TakeExit(Q:Exit->Act->World->Prop)(w3:World)(bv ov cv gu gq n j L R a2 g:Nat)(v qs:List Nat)(x10 x15 x16 x17:Value):Prop:=
 ∀(c d:Nat) (us:List Nat) {s0 s1 s2 s3 s4 s5 s6 s7 s8 s9 s14 s19 s21 s24 s25 s26 s27 s28 s29 s30 s31 s32 s33 s34 s35 s36 s37 s38 s39 s40 s41 s42 s43 s44 s45 s46 s47 s48 s49 s50 s51 s52 s53 s54 s55 s56 s57 s58 s59 s60 s61 s62 s63 s64 s65 s66 s67 s68 s69 s70 s71 s72 s73 s74 s75 s76 s77 s78 s79 s80 s81 s82 s83 s84 s85 s86 s87 s88 s89 s90 s91 s92 s93 s94 s95 s96 s97 s98 s99 s100 s101 s102 s103 s104 s105 s106 s107 s108 s109 s110 s111 s112 s113 s114 s115 s116 s117 s118 s119 s120 s121 s122 s123 s124 s125 s126 s127 s128 s129 s130 s131 s132 s133 s134 s135 s136 s137 s138 s139 s140 s141 s142 s143 s144 s145 s146 s147 s148 s149 s150 s151 s152 s153 s154 s155 s156 s157 s158 s159 s160 s161 s162 s163 s164 s165 s166 s167 s168 s169 s170 s171 s172 s173 s174 s175 s176 s177 s178 s179 s180 s181 s182 s183 s184 s185 s186 s187 s188 s189 s190 s191 s192 s193 s194 s195 s196 s197 s198 s199 s200 s201 s202 s203 s204 s205 s206 s207 s208 s209 s210 s211 s212 s213 s214 s215 s216 s217 s218 s219 s220 s221 s222 s223 s224 s225 s226 s227 s228 s229 s230 s231 s232 s233 s234 s235 s236 s237 s238 s239 s240 s241 s242 s243 s244 s245 s246 s247 s248 s249 s250 s251 s252 s253 s254 s255 s256 s257 s258 s259 s260 s261 s262 s263 s264 s265 s266 s267 s268 s269 s270 s271 s272:Value} (wr:World),DivMem w3 wr bv ov gu gq n L v us qs->c<4294967296->d<=1->us.getD (j+(n+2)) 0=a2->(∀p,j+(n+2)<p->us.getD p 0=0)->
    val 4294967296 (us.take (j+(n+2)))+4294967296 ^ j*(g*val 4294967296 (v.take (n+2)))=R+4294967296 ^ (j+(n+2))*(c+d)->
    Q (.exit 4) ⟨#[s0,s1,s2,s3,s4,s5,s6,s7,s8,s9,x10,.slice (some ⟨bv,ov,none⟩) (n+2) cv,.slice (some ⟨gu,0,none⟩) L L,.int .i64 ((n:Int)+2),s14,x15,x16,x17,.int .i64 (j:Int),s19,.int .u64 (g:Int),s21,.int .u64 (c:Int),.int .u64 (d:Int),s24,s25,s26,s27,s28,s29,s30,s31,s32,s33,s34,s35,s36,s37,s38,s39,s40,s41,s42,s43,s44,s45,s46,s47,s48,s49,s50,s51,s52,s53,s54,s55,s56,s57,s58,s59,s60,s61,s62,s63,s64,s65,s66,s67,s68,s69,s70,s71,s72,s73,s74,s75,s76,s77,s78,s79,s80,s81,s82,s83,s84,s85,s86,s87,s88,s89,s90,s91,s92,s93,s94,s95,s96,s97,s98,s99,s100,s101,s102,s103,s104,s105,s106,s107,s108,s109,s110,s111,s112,s113,s114,s115,s116,s117,s118,s119,s120,s121,s122,s123,s124,s125,s126,s127,s128,s129,s130,s131,s132,s133,s134,s135,s136,s137,s138,s139,s140,s141,s142,s143,s144,s145,s146,s147,s148,s149,s150,s151,s152,s153,s154,s155,s156,s157,s158,s159,s160,s161,s162,s163,s164,s165,s166,s167,s168,s169,s170,s171,s172,s173,s174,s175,s176,s177,s178,s179,s180,s181,s182,s183,s184,s185,s186,s187,s188,s189,s190,s191,s192,s193,s194,s195,s196,s197,s198,s199,s200,s201,s202,s203,s204,s205,s206,s207,s208,s209,s210,s211,s212,s213,s214,s215,s216,s217,s218,s219,s220,s221,s222,s223,s224,s225,s226,s227,s228,s229,s230,s231,s232,s233,s234,s235,s236,s237,s238,s239,s240,s241,s242,s243,s244,s245,s246,s247,s248,s249,s250,s251,s252,s253,s254,s255,s256,s257,s258,s259,s260,s261,s262,s263,s264,s265,s266,s267,s268,s269,s270,s271,s272],[]⟩ wr
set_option maxRecDepth 1000000 in
def TakeAt(Q:Exit->Act->World->Prop)(w3:World)(bv ov cv gu gq n j L R a2 g:Nat)(v qs:List Nat)(x10 x15 x16 x17:Value)(t:Nat):Prop:=
 ∀(i c d:Nat) (us:List Nat) {s0 s1 s2 s3 s4 s5 s6 s7 s8 s9 s14 s19 s21 s25 s26 s27 s28 s29 s30 s31 s32 s33 s34 s35 s36 s37 s38 s39 s40 s41 s42 s43 s44 s45 s46 s47 s48 s49 s50 s51 s52 s53 s54 s55 s56 s57 s58 s59 s60 s61 s62 s63 s64 s65 s66 s67 s68 s69 s70 s71 s72 s73 s74 s75 s76 s77 s78 s79 s80 s81 s82 s83 s84 s85 s86 s87 s88 s89 s90 s91 s92 s93 s94 s95 s96 s97 s98 s99 s100 s101 s102 s103 s104 s105 s106 s107 s108 s109 s110 s111 s112 s113 s114 s115 s116 s117 s118 s119 s120 s121 s122 s123 s124 s125 s126 s127 s128 s129 s130 s131 s132 s133 s134 s135 s136 s137 s138 s139 s140 s141 s142 s143 s144 s145 s146 s147 s148 s149 s150 s151 s152 s153 s154 s155 s156 s157 s158 s159 s160 s161 s162 s163 s164 s165 s166 s167 s168 s169 s170 s171 s172 s173 s174 s175 s176 s177 s178 s179 s180 s181 s182 s183 s184 s185 s186 s187 s188 s189 s190 s191 s192 s193 s194 s195 s196 s197 s198 s199 s200 s201 s202 s203 s204 s205 s206 s207 s208 s209 s210 s211 s212 s213 s214 s215 s216 s217 s218 s219 s220 s221 s222 s223 s224 s225 s226 s227 s228 s229 s230 s231 s232 s233 s234 s235 s236 s237 s238 s239 s240 s241 s242 s243 s244 s245 s246 s247 s248 s249 s250 s251 s252 s253 s254 s255 s256 s257 s258 s259 s260 s261 s262 s263 s264 s265 s266 s267 s268 s269 s270 s271 s272:Value} (wr:World),i+t=n+2->DivMem w3 wr bv ov gu gq n L v us qs->c<4294967296->d<=1->us.getD (j+(n+2)) 0=a2->(∀p,j+(n+2)<p->us.getD p 0=0)->
    val 4294967296 (us.take (j+(n+2)))+4294967296 ^ j*(g*val 4294967296 (v.take i))=R+4294967296 ^ (j+i)*(c+d)->
    Code.rounds Tryz.prog (((Tryz.f112.body.map loopsIn).getD []).getD 2 .skip) Q (t+1) ⟨#[s0,s1,s2,s3,s4,s5,s6,s7,s8,s9,x10,.slice (some ⟨bv,ov,none⟩) (n+2) cv,.slice (some ⟨gu,0,none⟩) L L,.int .i64 ((n:Int)+2),s14,x15,x16,x17,.int .i64 (j:Int),s19,.int .u64 (g:Int),s21,.int .u64 (c:Int),.int .u64 (d:Int),.int .i64 (i:Int),s25,s26,s27,s28,s29,s30,s31,s32,s33,s34,s35,s36,s37,s38,s39,s40,s41,s42,s43,s44,s45,s46,s47,s48,s49,s50,s51,s52,s53,s54,s55,s56,s57,s58,s59,s60,s61,s62,s63,s64,s65,s66,s67,s68,s69,s70,s71,s72,s73,s74,s75,s76,s77,s78,s79,s80,s81,s82,s83,s84,s85,s86,s87,s88,s89,s90,s91,s92,s93,s94,s95,s96,s97,s98,s99,s100,s101,s102,s103,s104,s105,s106,s107,s108,s109,s110,s111,s112,s113,s114,s115,s116,s117,s118,s119,s120,s121,s122,s123,s124,s125,s126,s127,s128,s129,s130,s131,s132,s133,s134,s135,s136,s137,s138,s139,s140,s141,s142,s143,s144,s145,s146,s147,s148,s149,s150,s151,s152,s153,s154,s155,s156,s157,s158,s159,s160,s161,s162,s163,s164,s165,s166,s167,s168,s169,s170,s171,s172,s173,s174,s175,s176,s177,s178,s179,s180,s181,s182,s183,s184,s185,s186,s187,s188,s189,s190,s191,s192,s193,s194,s195,s196,s197,s198,s199,s200,s201,s202,s203,s204,s205,s206,s207,s208,s209,s210,s211,s212,s213,s214,s215,s216,s217,s218,s219,s220,s221,s222,s223,s224,s225,s226,s227,s228,s229,s230,s231,s232,s233,s234,s235,s236,s237,s238,s239,s240,s241,s242,s243,s244,s245,s246,s247,s248,s249,s250,s251,s252,s253,s254,s255,s256,s257,s258,s259,s260,s261,s262,s263,s264,s265,s266,s267,s268,s269,s270,s271,s272],[]⟩ wr
set_option maxRecDepth 1000000 in
set_option maxHeartbeats 4000000 in
theorem take_zero(Q:Exit->Act->World->Prop)(w3:World)(bv ov cv gu gq n j L R a2 g:Nat)(v qs:List Nat)(x10 x15 x16 x17:Value)(hL:L<=1099511627776)(hj:j+(n+2)<L)
 (hexit:TakeExit Q w3 bv ov cv gu gq n j L R a2 g v qs x10 x15 x16 x17):TakeAt Q w3 bv ov cv gu gq n j L R a2 g v qs x10 x15 x16 x17 0:=by
 intro i c d us
 iterate 261 intro
 intro wr hi hm hc hd ha hz hv;obtain rfl:i=n+2:=by omega
 have HV:=Hi hv;have HM:=Hi hm;have HZ:=Hi hz;have HA:=Hi ha;clear hv hm hz ha;rw[rounds_succ]
 conv=>arg 2;whnf
 go_wp2;exact hexit _ _ _ _ HM.out hc hd HA.out HZ.out HV.out
set_option maxRecDepth 1000000 in
set_option maxHeartbeats 4000000 in
theorem Qlv(Q:Exit->Act->World->Prop)(w3:World)(bv ov cv gu gq n j L R a2 g:Nat)(v qs:List Nat)(x10 x15 x16 x17:Value)(hL:L<=1099511627776)(hj:j+(n+2)<L)(hg:g<4294967296)(t:Nat)
 (ih:TakeAt Q w3 bv ov cv gu gq n j L R a2 g v qs x10 x15 x16 x17 t):TakeAt Q w3 bv ov cv gu gq n j L R a2 g v qs x10 x15 x16 x17 (t+1):=by
 intro i c d us
 iterate 261 intro
 intro wr hi hm hc hd ha hz hv;have HM:=Hi hm;have HZ:=Hi hz;have HA:=Hi ha;have hul:=hm.ul;obtain⟨e,he⟩:=nm (v.getD i 0);obtain⟨a,ha'⟩:∃a,us.getD (j+i) 0=a:=⟨_,rfl⟩;have heb:e<4294967296:=by rw[<-he];exact hm.vsmall.getD (by omega) _
 have hab:a<4294967296:=by rw[<-ha'];exact hm.usmall.getD (by omega) _
 have k1:=hm.vcell i (by omega);have k2:=hm.ub.cell (i+j) (by omega);have k3:=hm.ub.free (i+j);rw[he] at k1;rw[Nat.add_comm i j,ha',Nat.add_comm j i] at k2;have hp:=Qdh hg heb;obtain⟨p,hp'⟩:∃p:Nat,g*e=p:=⟨_,rfl⟩;have hpb:p<=18446744065119617025:=by rw[<-hp'];exact hp
 obtain⟨S,hS⟩:∃S:Nat,c+p=S:=⟨_,rfl⟩;obtain⟨lo,hlo⟩:∃lo:Nat,S % 4294967296=lo:=⟨_,rfl⟩;obtain⟨c',hc'⟩:∃c':Nat,S / 4294967296=c':=⟨_,rfl⟩;obtain⟨nd,d',b1,b2,b3,b4,b5⟩:=Qpm a lo d hab (by omega) hd;have hst:=Qpk 4294967296 j i (j+(n+2)) a c d g e nd d' R us v (by omega) (by omega) ha' he (by rw[hp',hS,hlo];exact b3) hv;rw[hp',hS,hc'] at hst;have HS:=Hi hst;have B4:=Hi b4;have B5:=Hi b5;have r1:(g:Int)*(e:Int)=(p:Int):=by rw[<-hp'];simp
 have r2:(c:Int)+(p:Int)=(S:Int):=by omega
 have r3:(S:Int) % 4294967296=(lo:Int):=by omega
 have r4:(S:Int) / 4294967296=(c':Int):=by omega
 have hSb:S<18446744073709551616:=by omega
 have hlob:lo<4294967296:=by omega
 have hcb:c'<4294967296:=by omega
 have hin:i<n+2:=by omega
 have hijL:i+j<L:=by omega
 have HI:=Hi hi;clear hv hm hz ha he ha' hst hul hi b3 b4 b5 hp hp' hS hlo hc';rw[rounds_succ]
 conv=>arg 2;whnf
 go_wp2;simp only[Qaq,B4.out,B5.out];rw[show (i:Int)+1=((i+1:Nat):Int) from by omega];refine ih (i+1) c' d' (us.set (j+i) nd) _ (by have:=HI.out;omega) ?_ hcb b2 ?_ ?_ HS.out
 · rw[Nat.add_comm j i];exact HM.out.setU _ _ b1
 · rw[getD_set_ne _ _ _ _ (by omega)];exact HA.out
 · intro p hp;rw[getD_set_ne _ _ _ _ (by omega)];exact HZ.out p hp
theorem Qlw(Q:Exit->Act->World->Prop)(w3:World)(bv ov cv gu gq n j L R a2 g:Nat)(v qs:List Nat)(x10 x15 x16 x17:Value)(hL:L<=1099511627776)(hj:j+(n+2)<L)(hg:g<4294967296)
 (hexit:TakeExit Q w3 bv ov cv gu gq n j L R a2 g v qs x10 x15 x16 x17) (t:Nat):TakeAt Q w3 bv ov cv gu gq n j L R a2 g v qs x10 x15 x16 x17 t:=by
 induction t with
 |zero=>exact take_zero Q w3 bv ov cv gu gq n j L R a2 g v qs x10 x15 x16 x17 hL hj hexit
 |succ t ih=>exact Qlv Q w3 bv ov cv gu gq n j L R a2 g v qs x10 x15 x16 x17 hL hj hg t ih
end Go.Proofs.YtfpcipgoedifaaaGreatDoor
