import Derived.Test.YtkkadnoecklepaaGreatDoorG01BigDivL3
import Derived.Deep.RegionHeld3
namespace Go.Proofs.YtkkadnoecklepaaGreatDoor
open Go.RowKit
open Go.Proofs.Tryz
set_option linter.unusedSimpArgs false
set_option linter.unusedVariables false
set_option maxHeartbeats 8000000
set_option maxRecDepth 1000000
def GuessExit(Qx:Exit->Act->World->Prop)(w3:Vz)(bv ov cv gu gq n j L v1 v0 Q:Nat)(v us qs:Vy)(x10 x15:Value):Prop:=
 ∀(g:Nat) {s0 s1 s2 s3 s4 s5 s6 s7 s8 s9 s14 s19 s21 s22 s23 s24 s25 s26 s27 s28 s29 s30 s31 s32 s33 s34 s35 s36 s37 s38 s39 s40 s41 s42 s43 s44 s45 s46 s47 s48 s49 s50 s51 s52 s53 s54 s55 s56 s57 s58 s59 s60 s61 s62 s63 s64 s65 s66 s67 s68 s69 s70 s71 s72 s73 s74 s75 s76 s77 s78 s79 s80 s81 s82 s83 s84 s85 s86 s87 s88 s89 s90 s91 s92 s93 s94 s95 s96 s97 s98 s99 s100 s101 s102 s103 s104 s105 s106 s107 s108 s109 s110 s111 s112 s113 s114 s115 s116 s117 s118 s119 s120 s121 s122 s123 s124 s125 s126 s127 s128 s129 s130 s131 s132 s133 s134 s135 s136 s137 s138 s139 s140 s141 s142 s143 s144 s145 s146 s147 s148 s149 s150 s151 s152 s153 s154 s155 s156 s157 s158 s159 s160 s161 s162 s163 s164 s165 s166 s167 s168 s169 s170 s171 s172 s173 s174 s175 s176 s177 s178 s179 s180 s181 s182 s183 s184 s185 s186 s187 s188 s189 s190 s191 s192 s193 s194 s195 s196 s197 s198 s199 s200 s201 s202 s203 s204 s205 s206 s207 s208 s209 s210 s211 s212 s213 s214 s215 s216 s217 s218 s219 s220 s221 s222 s223 s224 s225 s226 s227 s228 s229 s230 s231 s232 s233 s234 s235 s236 s237 s238 s239 s240 s241 s242 s243 s244 s245 s246 s247 s248 s249 s250 s251 s252 s253 s254 s255 s256 s257 s258 s259 s260 s261 s262 s263 s264 s265 s266 s267 s268 s269 s270 s271 s272:Value} (wr:Vz),DivMem w3 wr bv ov gu gq n L v us qs->g<4294967296->Q<=g->g<=Q+1->
    Qx (.exit 2) ⟨#[s0,s1,s2,s3,s4,s5,s6,s7,s8,s9,x10,.slice (some ⟨bv,ov,none⟩) (n+2) cv,.slice (some ⟨gu,0,none⟩) L L,.int .i64 ((n:Int)+2),s14,x15,.int .u64 (v1:Int),.int .u64 (v0:Int),.int .i64 (j:Int),s19,.int .u64 (g:Int),s21,s22,s23,s24,s25,s26,s27,s28,s29,s30,s31,s32,s33,s34,s35,s36,s37,s38,s39,s40,s41,s42,s43,s44,s45,s46,s47,s48,s49,s50,s51,s52,s53,s54,s55,s56,s57,s58,s59,s60,s61,s62,s63,s64,s65,s66,s67,s68,s69,s70,s71,s72,s73,s74,s75,s76,s77,s78,s79,s80,s81,s82,s83,s84,s85,s86,s87,s88,s89,s90,s91,s92,s93,s94,s95,s96,s97,s98,s99,s100,s101,s102,s103,s104,s105,s106,s107,s108,s109,s110,s111,s112,s113,s114,s115,s116,s117,s118,s119,s120,s121,s122,s123,s124,s125,s126,s127,s128,s129,s130,s131,s132,s133,s134,s135,s136,s137,s138,s139,s140,s141,s142,s143,s144,s145,s146,s147,s148,s149,s150,s151,s152,s153,s154,s155,s156,s157,s158,s159,s160,s161,s162,s163,s164,s165,s166,s167,s168,s169,s170,s171,s172,s173,s174,s175,s176,s177,s178,s179,s180,s181,s182,s183,s184,s185,s186,s187,s188,s189,s190,s191,s192,s193,s194,s195,s196,s197,s198,s199,s200,s201,s202,s203,s204,s205,s206,s207,s208,s209,s210,s211,s212,s213,s214,s215,s216,s217,s218,s219,s220,s221,s222,s223,s224,s225,s226,s227,s228,s229,s230,s231,s232,s233,s234,s235,s236,s237,s238,s239,s240,s241,s242,s243,s244,s245,s246,s247,s248,s249,s250,s251,s252,s253,s254,s255,s256,s257,s258,s259,s260,s261,s262,s263,s264,s265,s266,s267,s268,s269,s270,s271,s272],[]⟩ wr
def GuessAt(Qx:Exit->Act->World->Prop)(w3:Vz)(bv ov cv gu gq n j L v1 v0 Q hh:Nat)(v us qs:Vy)(x10 x15:Value)(t:Nat):Prop:=
 ∀(g r:Nat) {s0 s1 s2 s3 s4 s5 s6 s7 s8 s9 s14 s19 s22 s23 s24 s25 s26 s27 s28 s29 s30 s31 s32 s33 s34 s35 s36 s37 s38 s39 s40 s41 s42 s43 s44 s45 s46 s47 s48 s49 s50 s51 s52 s53 s54 s55 s56 s57 s58 s59 s60 s61 s62 s63 s64 s65 s66 s67 s68 s69 s70 s71 s72 s73 s74 s75 s76 s77 s78 s79 s80 s81 s82 s83 s84 s85 s86 s87 s88 s89 s90 s91 s92 s93 s94 s95 s96 s97 s98 s99 s100 s101 s102 s103 s104 s105 s106 s107 s108 s109 s110 s111 s112 s113 s114 s115 s116 s117 s118 s119 s120 s121 s122 s123 s124 s125 s126 s127 s128 s129 s130 s131 s132 s133 s134 s135 s136 s137 s138 s139 s140 s141 s142 s143 s144 s145 s146 s147 s148 s149 s150 s151 s152 s153 s154 s155 s156 s157 s158 s159 s160 s161 s162 s163 s164 s165 s166 s167 s168 s169 s170 s171 s172 s173 s174 s175 s176 s177 s178 s179 s180 s181 s182 s183 s184 s185 s186 s187 s188 s189 s190 s191 s192 s193 s194 s195 s196 s197 s198 s199 s200 s201 s202 s203 s204 s205 s206 s207 s208 s209 s210 s211 s212 s213 s214 s215 s216 s217 s218 s219 s220 s221 s222 s223 s224 s225 s226 s227 s228 s229 s230 s231 s232 s233 s234 s235 s236 s237 s238 s239 s240 s241 s242 s243 s244 s245 s246 s247 s248 s249 s250 s251 s252 s253 s254 s255 s256 s257 s258 s259 s260 s261 s262 s263 s264 s265 s266 s267 s268 s269 s270 s271 s272:Value} (wr:Vz),g<=t->DivMem w3 wr bv ov gu gq n L v us qs->g<18446744073709551616->r<4294967296->g*v1+r=hh->Q<=g->
    Code.rounds prog (((Tryz.f203.body.map loopsIn).getD []).getD 1 .skip) Qx (t+1) ⟨#[s0,s1,s2,s3,s4,s5,s6,s7,s8,s9,x10,.slice (some ⟨bv,ov,none⟩) (n+2) cv,.slice (some ⟨gu,0,none⟩) L L,.int .i64 ((n:Int)+2),s14,x15,.int .u64 (v1:Int),.int .u64 (v0:Int),.int .i64 (j:Int),s19,.int .u64 (g:Int),.int .u64 (r:Int),s22,s23,s24,s25,s26,s27,s28,s29,s30,s31,s32,s33,s34,s35,s36,s37,s38,s39,s40,s41,s42,s43,s44,s45,s46,s47,s48,s49,s50,s51,s52,s53,s54,s55,s56,s57,s58,s59,s60,s61,s62,s63,s64,s65,s66,s67,s68,s69,s70,s71,s72,s73,s74,s75,s76,s77,s78,s79,s80,s81,s82,s83,s84,s85,s86,s87,s88,s89,s90,s91,s92,s93,s94,s95,s96,s97,s98,s99,s100,s101,s102,s103,s104,s105,s106,s107,s108,s109,s110,s111,s112,s113,s114,s115,s116,s117,s118,s119,s120,s121,s122,s123,s124,s125,s126,s127,s128,s129,s130,s131,s132,s133,s134,s135,s136,s137,s138,s139,s140,s141,s142,s143,s144,s145,s146,s147,s148,s149,s150,s151,s152,s153,s154,s155,s156,s157,s158,s159,s160,s161,s162,s163,s164,s165,s166,s167,s168,s169,s170,s171,s172,s173,s174,s175,s176,s177,s178,s179,s180,s181,s182,s183,s184,s185,s186,s187,s188,s189,s190,s191,s192,s193,s194,s195,s196,s197,s198,s199,s200,s201,s202,s203,s204,s205,s206,s207,s208,s209,s210,s211,s212,s213,s214,s215,s216,s217,s218,s219,s220,s221,s222,s223,s224,s225,s226,s227,s228,s229,s230,s231,s232,s233,s234,s235,s236,s237,s238,s239,s240,s241,s242,s243,s244,s245,s246,s247,s248,s249,s250,s251,s252,s253,s254,s255,s256,s257,s258,s259,s260,s261,s262,s263,s264,s265,s266,s267,s268,s269,s270,s271,s272],[]⟩ wr
structure GuessOk (n j L v1 v0 u0 Q hh:Nat) (us:Vy):Prop where
 o1:L<=1099511627776
 o2:j+(n+2)<L
 o3:1<=v1
 o4:v1<4294967296
 o5:v0<4294967296
 o6:us.getD (j+n) 0=u0
 o7:u0<4294967296
 o8:Q<4294967296
 down:∀g r,g*v1+r=hh->r*4294967296+u0<g*v0->Q<g
 done:∀g r,g*v1+r=hh->g<4294967296->g*v0<=r*4294967296+u0->g<=Q+1
 brk:∀g r,g*v1+r=hh->4294967296<=r->g<4294967296
theorem Qhg(Qx:Exit->Act->World->Prop)(w3:Vz)(bv ov cv gu gq n j L v1 d a Q hh:Nat)(v us qs:Vy)(e f:Value)(ok:GuessOk n j L v1 d a Q hh us)
 (b:GuessExit Qx w3 bv ov cv gu gq n j L v1 d Q v us qs e f) (t g r:Nat) {s0 s1 s2 s3 s4 s5 s6 s7 s8 s9 eq er es et eu ev ew ex ey ez e0 e1 e2 e3 e4 e5 e6 e7 e8 e9 fa fb fc fd fe ff fg fh fi fj fk fl fm fn fo fp fq fr fs ft fu fv fw fx fy fz ga gb gc gd ge gf gg gh gj gk gl gm gn gp gr gs gt gv gw gx gy gz g0 g1 g2 g3 g4 g5 g6 g7 g8 g9 ha hb h i k l m q s u w x y z A B C D E F G H I J K M N O P R S U V W X Y Z aa ab ad ae af ag ah ai aj ak al am an ao ap aq ar au av aw ax ay az a0 a1 a2 a3 a4 a5 a6 a7 a8 a9 ba bb bc bd be bf bg bh bi bj bk bl bm bn bo bp bq br bs bt bu bw bx bz b0 b1 b2 b3 b4 b5 b6 b7 b8 b9 ca cb cc cd ce cf cg ch ci cj ck cl cm cn cp cq cr cs ct cu cw cx cy cz c0 c1 c2 c3 c4 c5 c6 c7 c8 c9 da db dc dd de df dg dh di dj dk dl dm dn dp dq dr ds dt du dv dw dx dy dz ea eb ec ed ee ef eg eh ei ej ek em:Value} (wr:Vz) (hm:DivMem w3 wr bv ov gu gq n L v us qs) (hr:r<4294967296) (en:g*v1+r=hh) (hQ:Q<=g)
 (hg:g<4294967296) (hc:g*d<=r*4294967296+a):
   Code.rounds prog (((Tryz.f203.body.map loopsIn).getD []).getD 1 .skip) Qx (t+1) ⟨#[s0,s1,s2,s3,s4,s5,s6,s7,s8,s9,e,.slice (some ⟨bv,ov,none⟩) (n+2) cv,.slice (some ⟨gu,0,none⟩) L L,.int .i64 ((n:Int)+2),eq,f,.int .u64 (v1:Int),.int .u64 (d:Int),.int .i64 (j:Int),er,.int .u64 (g:Int),.int .u64 (r:Int),es,et,eu,ev,ew,ex,ey,ez,e0,e1,e2,e3,e4,e5,e6,e7,e8,e9,fa,fb,fc,fd,fe,ff,fg,fh,fi,fj,fk,fl,fm,fn,fo,fp,fq,fr,fs,ft,fu,fv,fw,fx,fy,fz,ga,gb,gc,gd,ge,gf,gg,gh,gj,gk,gl,gm,gn,gp,gr,gs,gt,gv,gw,gx,gy,gz,g0,g1,g2,g3,g4,g5,g6,g7,g8,g9,ha,hb,h,i,k,l,m,q,s,u,w,x,y,z,A,B,C,D,E,F,G,H,I,J,K,M,N,O,P,R,S,U,V,W,X,Y,Z,aa,ab,ad,ae,af,ag,ah,ai,aj,ak,al,am,an,ao,ap,aq,ar,au,av,aw,ax,ay,az,a0,a1,a2,a3,a4,a5,a6,a7,a8,a9,ba,bb,bc,bd,be,bf,bg,bh,bi,bj,bk,bl,bm,bn,bo,bp,bq,br,bs,bt,bu,bw,bx,bz,b0,b1,b2,b3,b4,b5,b6,b7,b8,b9,ca,cb,cc,cd,ce,cf,cg,ch,ci,cj,ck,cl,cm,cn,cp,cq,cr,cs,ct,cu,cw,cx,cy,cz,c0,c1,c2,c3,c4,c5,c6,c7,c8,c9,da,db,dc,dd,de,df,dg,dh,di,dj,dk,dl,dm,dn,dp,dq,dr,ds,dt,du,dv,dw,dx,dy,dz,ea,eb,ec,ed,ee,ef,eg,eh,ei,ej,ek,em],[]⟩ wr:=by
 obtain⟨o1,o2,o3,o4,o5,o6,o7,o8,o9,eo,hd⟩:=ok;have he:=hm.ul;have k2:=hm.ub.cell (j+(n+2) - 2) (by omega);rw[show us.getD (j+(n+2) - 2) 0=a from by rw[show j+(n+2) - 2=j+n from by omega];exact o6] at k2;have ep:=eo g r en hg hc;have HM:=Hi hm;have hp:=Qdl hg o5;obtain⟨p,c⟩:∃p:Nat,g*d=p:=⟨_,rfl⟩;have hf:p<=18446744065119617025:=by rw[<-c];exact hp
 have r1:(g:Int)*(d:Int)=(p:Int):=by rw[<-c];simp
 obtain⟨T,hT⟩:∃T:Nat,4294967296*r+a=T:=⟨_,rfl⟩;have hi:bits .or .u64 ((r:Int)*4294967296) (a:Int)=(T:Int):=by
  rw[or64 ((r:Int)*4294967296) (a:Int) r a 32 (by omega) rfl o7 (by omega)];omega
 have hj:T<18446744073709551616:=by omega
 have hk:¬((T:Int)<(p:Int)):=by omega
 have hl:¬(4294967295:Int)<(g:Int):=by omega
 clear o9 eo hd hm hp c hT hc o6 en;rw[rounds_succ]
 conv=>arg 2;whnf
 go_wp2;exact b _ _ HM.o hg hQ ep
theorem Qmi(Qx:Exit->Act->World->Prop)(w3:Vz)(bv ov cv gu gq n j L b v0 u0 Q hh:Nat)(v us qs:Vy)(e f:Value)(ok:GuessOk n j L b v0 u0 Q hh us)
 (h:GuessExit Qx w3 bv ov cv gu gq n j L b v0 Q v us qs e f) (t g r:Nat) (ih:GuessAt Qx w3 bv ov cv gu gq n j L b v0 Q hh v us qs e f t) {s0 s1 s2 s3 s4 s5 s6 s7 s8 s9 eu ev ew ex ey ez e0 e3 e4 e5 e6 e7 e8 e9 fa fb fc fd fe ff fg fh fi fj fk fl fm fn fo fp fq fr fs ft fu fv fw fx fy fz ga gb gc gd ge gf gg gh gj gk gl gm gn gp gr gs gt gv gw gx gy gz g0 g2 g3 g4 g5 g6 g7 g8 g9 ha hc hd he hf hi hj hk hl p q s u w x y z A B C D E F G H I J K M N O P R S T U V W X Y Z aa ab ad ae af ag ah ai aj ak al am an ao ap aq ar au av aw ax ay az a0 a1 a2 a3 a4 a5 a6 a7 a8 a9 ba bb bc bd be bf bg bh bi bj bk bl bm bn bo bp bq br bs bt bu bw bx bz b0 b1 b2 b3 b4 b5 b6 b7 b8 b9 ca cb cc cd ce cf cg ch ci cj ck cl cm cn cp cq cr cs ct cu cw cx cy cz c0 c1 c2 c3 c4 c5 c6 c7 c8 c9 da db dc dd de df dg dh di dj dk dl dm dn dp dq dr ds dt du dv dw dx dy dz ea eb ec ed ee ef eh ei ej ek em en eo ep eq:Value} (wr:Vz) (es:g<=t+1) (hm:DivMem w3 wr bv ov gu gq n L v us qs) (hg:g<18446744073709551616) (hr:r<4294967296) (i:g*b+r=hh) (hQ:Q<=g)
 (et:4294967296<=g):
   Code.rounds prog (((Tryz.f203.body.map loopsIn).getD []).getD 1 .skip) Qx (t+1+1) ⟨#[s0,s1,s2,s3,s4,s5,s6,s7,s8,s9,e,.slice (some ⟨bv,ov,none⟩) (n+2) cv,.slice (some ⟨gu,0,none⟩) L L,.int .i64 ((n:Int)+2),eu,f,.int .u64 (b:Int),.int .u64 (v0:Int),.int .i64 (j:Int),ev,.int .u64 (g:Int),.int .u64 (r:Int),ew,ex,ey,ez,e0,e3,e4,e5,e6,e7,e8,e9,fa,fb,fc,fd,fe,ff,fg,fh,fi,fj,fk,fl,fm,fn,fo,fp,fq,fr,fs,ft,fu,fv,fw,fx,fy,fz,ga,gb,gc,gd,ge,gf,gg,gh,gj,gk,gl,gm,gn,gp,gr,gs,gt,gv,gw,gx,gy,gz,g0,g2,g3,g4,g5,g6,g7,g8,g9,ha,hc,hd,he,hf,hi,hj,hk,hl,p,q,s,u,w,x,y,z,A,B,C,D,E,F,G,H,I,J,K,M,N,O,P,R,S,T,U,V,W,X,Y,Z,aa,ab,ad,ae,af,ag,ah,ai,aj,ak,al,am,an,ao,ap,aq,ar,au,av,aw,ax,ay,az,a0,a1,a2,a3,a4,a5,a6,a7,a8,a9,ba,bb,bc,bd,be,bf,bg,bh,bi,bj,bk,bl,bm,bn,bo,bp,bq,br,bs,bt,bu,bw,bx,bz,b0,b1,b2,b3,b4,b5,b6,b7,b8,b9,ca,cb,cc,cd,ce,cf,cg,ch,ci,cj,ck,cl,cm,cn,cp,cq,cr,cs,ct,cu,cw,cx,cy,cz,c0,c1,c2,c3,c4,c5,c6,c7,c8,c9,da,db,dc,dd,de,df,dg,dh,di,dj,dk,dl,dm,dn,dp,dq,dr,ds,dt,du,dv,dw,dx,dy,dz,ea,eb,ec,ed,ee,ef,eh,ei,ej,ek,em,en,eo,ep,eq],[]⟩ wr:=by
 obtain⟨o1,o2,o3,o4,o5,o6,o7,o8,o9,k,l⟩:=ok;obtain⟨c,m⟩:∃c,g=c+1:=⟨g - 1,by omega⟩;have a:c*b+(r+b)=hh:=by rw[<-i,m,Nat.add_mul];omega
 have eg:(g:Int) - 1=(c:Int):=by omega
 have er:(r:Int)+(b:Int)=((r+b:Nat):Int):=by omega
 obtain⟨EG,ER,d,HM,hn⟩:=Id eg er m hm a;have hp:(4294967295:Int)<(g:Int):=by omega
 clear m eg er;by_cases hb:4294967296<=r+b
 .
  have e1:=l c (r+b) a hb;have e2:=k c (r+b) a e1 (Qi6 _ _ _ _ _ e1 o5 hb);obtain⟨E1,E2⟩:=Ia e1 e2;have ho:(4294967295:Int)<(r:Int)+(b:Int):=by omega
  have HQ:=Hi (show Q<=c by have:=d.o;omega);clear o9 k l hm o6 i a e1 e2 hb et es hQ;rw[rounds_succ]
  conv=>arg 2;whnf
  go_wp2;rw[EG.o];exact h c _ HM.o E1.o HQ.o E2.o
 .
  have ho:¬(4294967295:Int)<(r:Int)+(b:Int):=by omega
  obtain⟨HQ,HT,HB⟩:=Ib (show Q<=c by have:=d.o;omega) (show c<=t by have:=d.o;omega) (show r+b<4294967296 by omega);clear o9 k l hm o6 i a et es hQ hb;rw[rounds_succ]
  conv=>arg 2;whnf
  go_wp2;rw[EG.o,ER.o];exact ih c (r+b) _ HT.o HM.o (by have:=d.o;omega) HB.o hn.o HQ.o
theorem Qmj(Qx:Exit->Act->World->Prop)(w3:Vz)(bv ov cv gu gq n j L b h i Q hh:Nat)(v us qs:Vy)(k l:Value)(ok:GuessOk n j L b h i Q hh us)
 (m:GuessExit Qx w3 bv ov cv gu gq n j L b h Q v us qs k l) (t g r:Nat) (ih:GuessAt Qx w3 bv ov cv gu gq n j L b h Q hh v us qs k l t) {s0 s1 s2 s3 s4 s5 s6 s7 s8 s9 ey ez e0 e3 e4 e5 e6 e7 e8 e9 fa fb fc fd fe ff fg fh fi fj fk fl fm fn fo fp fq fr fs ft fu fv fw fx fy fz ga gb gc gd ge gf gg gh gj gk gl gm gn gp gr gs gt gv gw gx gy gz g0 g2 g3 g4 g5 g6 g7 g8 g9 ha hd he hf hi hj hk hl hn ho hq hs ht w x y z A B C D E F G H I J K M N O P R S U V W X Y Z aa ab ad ae af ag ah ai aj ak al am an ao ap aq ar au av aw ax ay az a0 a1 a2 a3 a4 a5 a6 a7 a8 a9 ba bb bc bd be bf bg bh bi bj bk bl bm bn bo bp bq br bs bt bu bw bx bz b0 b1 b2 b3 b4 b5 b6 b7 b8 b9 ca cb cc cd ce cf cg ch ci cj ck cl cm cn cp cq cr cs ct cu cw cx cy cz c0 c1 c2 c3 c4 c5 c6 c7 c8 c9 da db dc dd de df dg dh di dj dk dl dm dn dp dq dr ds dt du dv dw dx dy dz ea eb ec ed ee ef eh ei ej ek em en eo ep eq es et eu ev ew:Value} (wr:Vz) (ex:g<=t+1) (hm:DivMem w3 wr bv ov gu gq n L v us qs) (hr:r<4294967296) (d:g*b+r=hh) (hQ:Q<=g)
 (hg:g<4294967296) (hc:r*4294967296+i<g*h):
   Code.rounds prog (((Tryz.f203.body.map loopsIn).getD []).getD 1 .skip) Qx (t+1+1) ⟨#[s0,s1,s2,s3,s4,s5,s6,s7,s8,s9,k,.slice (some ⟨bv,ov,none⟩) (n+2) cv,.slice (some ⟨gu,0,none⟩) L L,.int .i64 ((n:Int)+2),ey,l,.int .u64 (b:Int),.int .u64 (h:Int),.int .i64 (j:Int),ez,.int .u64 (g:Int),.int .u64 (r:Int),e0,e3,e4,e5,e6,e7,e8,e9,fa,fb,fc,fd,fe,ff,fg,fh,fi,fj,fk,fl,fm,fn,fo,fp,fq,fr,fs,ft,fu,fv,fw,fx,fy,fz,ga,gb,gc,gd,ge,gf,gg,gh,gj,gk,gl,gm,gn,gp,gr,gs,gt,gv,gw,gx,gy,gz,g0,g2,g3,g4,g5,g6,g7,g8,g9,ha,hd,he,hf,hi,hj,hk,hl,hn,ho,hq,hs,ht,w,x,y,z,A,B,C,D,E,F,G,H,I,J,K,M,N,O,P,R,S,U,V,W,X,Y,Z,aa,ab,ad,ae,af,ag,ah,ai,aj,ak,al,am,an,ao,ap,aq,ar,au,av,aw,ax,ay,az,a0,a1,a2,a3,a4,a5,a6,a7,a8,a9,ba,bb,bc,bd,be,bf,bg,bh,bi,bj,bk,bl,bm,bn,bo,bp,bq,br,bs,bt,bu,bw,bx,bz,b0,b1,b2,b3,b4,b5,b6,b7,b8,b9,ca,cb,cc,cd,ce,cf,cg,ch,ci,cj,ck,cl,cm,cn,cp,cq,cr,cs,ct,cu,cw,cx,cy,cz,c0,c1,c2,c3,c4,c5,c6,c7,c8,c9,da,db,dc,dd,de,df,dg,dh,di,dj,dk,dl,dm,dn,dp,dq,dr,ds,dt,du,dv,dw,dx,dy,dz,ea,eb,ec,ed,ee,ef,eh,ei,ej,ek,em,en,eo,ep,eq,es,et,eu,ev,ew],[]⟩ wr:=by
 obtain⟨o1,o2,o3,o4,o5,o6,o7,o8,o9,q,s⟩:=ok;have hw:=o9 g r d hc;have hx:=hm.ul;have k2:=hm.ub.cell (j+(n+2) - 2) (by omega);rw[show us.getD (j+(n+2) - 2) 0=i from by rw[show j+(n+2) - 2=j+n from by omega];exact o6] at k2;have hp:=Qdl hg o5;obtain⟨p,e⟩:∃p:Nat,g*h=p:=⟨_,rfl⟩;have hy:p<=18446744065119617025:=by rw[<-e];exact hp
 have r1:(g:Int)*(h:Int)=(p:Int):=by rw[<-e];simp
 obtain⟨T,hT⟩:∃T:Nat,4294967296*r+i=T:=⟨_,rfl⟩;have hz:bits .or .u64 ((r:Int)*4294967296) (i:Int)=(T:Int):=by
  rw[or64 ((r:Int)*4294967296) (i:Int) r i 32 (by omega) rfl o7 (by omega)];omega
 have h0:T<18446744073709551616:=by omega
 have h1:(T:Int)<(p:Int):=by omega
 obtain⟨c,u⟩:∃c,g=c+1:=⟨g - 1,by omega⟩;have a:c*b+(r+b)=hh:=by rw[<-d,u,Nat.add_mul];omega
 have eg:(g:Int) - 1=(c:Int):=by omega
 have er:(r:Int)+(b:Int)=((r+b:Nat):Int):=by omega
 obtain⟨EG,ER,f,HM,hu⟩:=Id eg er u hm a;have h2:¬(4294967295:Int)<(g:Int):=by omega
 have h3:(1:Int)<=(g:Int):=by omega
 clear u eg er;by_cases hb:4294967296<=r+b
 .
  have e1:=s c (r+b) a hb;have e2:=q c (r+b) a e1 (Qi6 _ _ _ _ _ e1 o5 hb);obtain⟨E1,E2⟩:=Ia e1 e2;have hv:(4294967295:Int)<(r:Int)+(b:Int):=by omega
  have HQ:=Hi (show Q<=c by have:=f.o;omega);clear o9 q s hm o6 d a hp e hT hc e1 e2 hb ex hQ;rw[rounds_succ]
  conv=>arg 2;whnf
  go_wp2;rw[EG.o];exact m c _ HM.o E1.o HQ.o E2.o
 .
  have hv:¬(4294967295:Int)<(r:Int)+(b:Int):=by omega
  obtain⟨HQ,HT,HB⟩:=Ib (show Q<=c by have:=f.o;omega) (show c<=t by have:=f.o;omega) (show r+b<4294967296 by omega);clear o9 q s hm o6 d a hp e hT hc ex hQ hb;rw[rounds_succ]
  conv=>arg 2;whnf
  go_wp2;rw[EG.o,ER.o];exact ih c (r+b) _ HT.o HM.o (by have:=f.o;omega) HB.o hu.o HQ.o
theorem Qmk(i:Exit->Act->World->Prop)(k:Vz)(l m o p q n j L f e s Q u:Nat)(v us w:Vy)(b c:Value)(A:GuessOk n j L f e s Q u us)
 (a:GuessExit i k l m o p q n j L f e Q v us w b c) (t:Nat):GuessAt i k l m o p q n j L f e Q u v us w b c t:=by
 induction t with
 |zero=>
  intro g r
  iterate 263 intro
  intro wr h x B y d z;obtain rfl:g=0:=by omega
  exact Qhg i k l m o p q n j L f e s Q u v us w b c A a 0 0 r wr x y d z (by omega) (by rw[Nat.zero_mul];omega)
 |succ t C=>
  intro g r
  iterate 263 intro
  intro wr h x B y d z;by_cases hB:4294967296<=g
  . exact Qmi i k l m o p q n j L f e s Q u v us w b c A a t g r C wr h x B y d z hB
  .
   by_cases D:r*4294967296+s<g*e
   . exact Qmj i k l m o p q n j L f e s Q u v us w b c A a t g r C wr h x y d z (by omega) D
   . exact Qhg i k l m o p q n j L f e s Q u v us w b c A a (t+1) g r wr x y d z (by omega) (by omega)
def PlaceExit(Qx:Exit->Act->World->Prop)(w3:Vz)(bv ov cv gu gq n M L X V:Nat)(v:Vy)(x10:Value):Prop:=
 ∀(us qs:Vy) {s0 s1 s2 s3 s4 s5 s6 s7 s8 s9 s11 s13 s14 s16 s17 s18 s19 s20 s21 s22 s23 s24 s25 s26 s27 s28 s29 s30 s31 s32 s33 s34 s35 s36 s37 s38 s39 s40 s41 s42 s43 s44 s45 s46 s47 s48 s49 s50 s51 s52 s53 s54 s55 s56 s57 s58 s59 s60 s61 s62 s63 s64 s65 s66 s67 s68 s69 s70 s71 s72 s73 s74 s75 s76 s77 s78 s79 s80 s81 s82 s83 s84 s85 s86 s87 s88 s89 s90 s91 s92 s93 s94 s95 s96 s97 s98 s99 s100 s101 s102 s103 s104 s105 s106 s107 s108 s109 s110 s111 s112 s113 s114 s115 s116 s117 s118 s119 s120 s121 s122 s123 s124 s125 s126 s127 s128 s129 s130 s131 s132 s133 s134 s135 s136 s137 s138 s139 s140 s141 s142 s143 s144 s145 s146 s147 s148 s149 s150 s151 s152 s153 s154 s155 s156 s157 s158 s159 s160 s161 s162 s163 s164 s165 s166 s167 s168 s169 s170 s171 s172 s173 s174 s175 s176 s177 s178 s179 s180 s181 s182 s183 s184 s185 s186 s187 s188 s189 s190 s191 s192 s193 s194 s195 s196 s197 s198 s199 s200 s201 s202 s203 s204 s205 s206 s207 s208 s209 s210 s211 s212 s213 s214 s215 s216 s217 s218 s219 s220 s221 s222 s223 s224 s225 s226 s227 s228 s229 s230 s231 s232 s233 s234 s235 s236 s237 s238 s239 s240 s241 s242 s243 s244 s245 s246 s247 s248 s249 s250 s251 s252 s253 s254 s255 s256 s257 s258 s259 s260 s261 s262 s263 s264 s265 s266 s267 s268 s269 s270 s271 s272:Value} (wr:Vz),DivMem w3 wr bv ov gu gq n L v us qs->DivInv X V n M 0 us qs->
    Qx (.exit 0) ⟨#[s0,s1,s2,s3,s4,s5,s6,s7,s8,s9,x10,s11,.slice (some ⟨gu,0,none⟩) L L,s13,s14,.slice (some ⟨gq,0,none⟩) (M+1) (M+1),s16,s17,s18,s19,s20,s21,s22,s23,s24,s25,s26,s27,s28,s29,s30,s31,s32,s33,s34,s35,s36,s37,s38,s39,s40,s41,s42,s43,s44,s45,s46,s47,s48,s49,s50,s51,s52,s53,s54,s55,s56,s57,s58,s59,s60,s61,s62,s63,s64,s65,s66,s67,s68,s69,s70,s71,s72,s73,s74,s75,s76,s77,s78,s79,s80,s81,s82,s83,s84,s85,s86,s87,s88,s89,s90,s91,s92,s93,s94,s95,s96,s97,s98,s99,s100,s101,s102,s103,s104,s105,s106,s107,s108,s109,s110,s111,s112,s113,s114,s115,s116,s117,s118,s119,s120,s121,s122,s123,s124,s125,s126,s127,s128,s129,s130,s131,s132,s133,s134,s135,s136,s137,s138,s139,s140,s141,s142,s143,s144,s145,s146,s147,s148,s149,s150,s151,s152,s153,s154,s155,s156,s157,s158,s159,s160,s161,s162,s163,s164,s165,s166,s167,s168,s169,s170,s171,s172,s173,s174,s175,s176,s177,s178,s179,s180,s181,s182,s183,s184,s185,s186,s187,s188,s189,s190,s191,s192,s193,s194,s195,s196,s197,s198,s199,s200,s201,s202,s203,s204,s205,s206,s207,s208,s209,s210,s211,s212,s213,s214,s215,s216,s217,s218,s219,s220,s221,s222,s223,s224,s225,s226,s227,s228,s229,s230,s231,s232,s233,s234,s235,s236,s237,s238,s239,s240,s241,s242,s243,s244,s245,s246,s247,s248,s249,s250,s251,s252,s253,s254,s255,s256,s257,s258,s259,s260,s261,s262,s263,s264,s265,s266,s267,s268,s269,s270,s271,s272],[]⟩ wr
def PlaceAt(Qx:Exit->Act->World->Prop)(w3:Vz)(bv ov cv gu gq n M L v1 v0 X V:Nat)(v:Vy)(x10:Value)(t:Nat):Prop:=
 ∀(us qs:Vy) {s0 s1 s2 s3 s4 s5 s6 s7 s8 s9 s14 s19 s20 s21 s22 s23 s24 s25 s26 s27 s28 s29 s30 s31 s32 s33 s34 s35 s36 s37 s38 s39 s40 s41 s42 s43 s44 s45 s46 s47 s48 s49 s50 s51 s52 s53 s54 s55 s56 s57 s58 s59 s60 s61 s62 s63 s64 s65 s66 s67 s68 s69 s70 s71 s72 s73 s74 s75 s76 s77 s78 s79 s80 s81 s82 s83 s84 s85 s86 s87 s88 s89 s90 s91 s92 s93 s94 s95 s96 s97 s98 s99 s100 s101 s102 s103 s104 s105 s106 s107 s108 s109 s110 s111 s112 s113 s114 s115 s116 s117 s118 s119 s120 s121 s122 s123 s124 s125 s126 s127 s128 s129 s130 s131 s132 s133 s134 s135 s136 s137 s138 s139 s140 s141 s142 s143 s144 s145 s146 s147 s148 s149 s150 s151 s152 s153 s154 s155 s156 s157 s158 s159 s160 s161 s162 s163 s164 s165 s166 s167 s168 s169 s170 s171 s172 s173 s174 s175 s176 s177 s178 s179 s180 s181 s182 s183 s184 s185 s186 s187 s188 s189 s190 s191 s192 s193 s194 s195 s196 s197 s198 s199 s200 s201 s202 s203 s204 s205 s206 s207 s208 s209 s210 s211 s212 s213 s214 s215 s216 s217 s218 s219 s220 s221 s222 s223 s224 s225 s226 s227 s228 s229 s230 s231 s232 s233 s234 s235 s236 s237 s238 s239 s240 s241 s242 s243 s244 s245 s246 s247 s248 s249 s250 s251 s252 s253 s254 s255 s256 s257 s258 s259 s260 s261 s262 s263 s264 s265 s266 s267 s268 s269 s270 s271 s272:Value} (wr:Vz),t<=M+1->DivMem w3 wr bv ov gu gq n L v us qs->DivInv X V n M t us qs->
    Code.rounds prog (((Tryz.f203.body.map loopsIn).getD []).getD 0 .skip) Qx (t+1) ⟨#[s0,s1,s2,s3,s4,s5,s6,s7,s8,s9,x10,.slice (some ⟨bv,ov,none⟩) (n+2) cv,.slice (some ⟨gu,0,none⟩) L L,.int .i64 ((n:Int)+2),s14,.slice (some ⟨gq,0,none⟩) (M+1) (M+1),.int .u64 (v1:Int),.int .u64 (v0:Int),.int .i64 ((t:Int) - 1),s19,s20,s21,s22,s23,s24,s25,s26,s27,s28,s29,s30,s31,s32,s33,s34,s35,s36,s37,s38,s39,s40,s41,s42,s43,s44,s45,s46,s47,s48,s49,s50,s51,s52,s53,s54,s55,s56,s57,s58,s59,s60,s61,s62,s63,s64,s65,s66,s67,s68,s69,s70,s71,s72,s73,s74,s75,s76,s77,s78,s79,s80,s81,s82,s83,s84,s85,s86,s87,s88,s89,s90,s91,s92,s93,s94,s95,s96,s97,s98,s99,s100,s101,s102,s103,s104,s105,s106,s107,s108,s109,s110,s111,s112,s113,s114,s115,s116,s117,s118,s119,s120,s121,s122,s123,s124,s125,s126,s127,s128,s129,s130,s131,s132,s133,s134,s135,s136,s137,s138,s139,s140,s141,s142,s143,s144,s145,s146,s147,s148,s149,s150,s151,s152,s153,s154,s155,s156,s157,s158,s159,s160,s161,s162,s163,s164,s165,s166,s167,s168,s169,s170,s171,s172,s173,s174,s175,s176,s177,s178,s179,s180,s181,s182,s183,s184,s185,s186,s187,s188,s189,s190,s191,s192,s193,s194,s195,s196,s197,s198,s199,s200,s201,s202,s203,s204,s205,s206,s207,s208,s209,s210,s211,s212,s213,s214,s215,s216,s217,s218,s219,s220,s221,s222,s223,s224,s225,s226,s227,s228,s229,s230,s231,s232,s233,s234,s235,s236,s237,s238,s239,s240,s241,s242,s243,s244,s245,s246,s247,s248,s249,s250,s251,s252,s253,s254,s255,s256,s257,s258,s259,s260,s261,s262,s263,s264,s265,s266,s267,s268,s269,s270,s271,s272],[]⟩ wr
theorem Qmf(c:Exit->Act->World->Prop)(d:Vz)(e f g h i n M L l m X V:Nat)(v:Vy)(b:Value)(a:PlaceExit c d e f g h i n M L X V v b):PlaceAt c d e f g h i n M L l m X V v b 0:=by
 intro us r
 iterate 265 intro
 intro wr s j k;obtain⟨p,q⟩:=Ia j k;clear j k;rw[rounds_succ]
 conv=>arg 2;whnf
 go_wp2;exact a _ _ _ p.o q.o
theorem Qmg(Qx:Exit->Act->World->Prop)(w3:Vz)(bv ov cv gu gq n M L f v0 X V:Nat)(v:Vy)(l:Value)(hL:L=M+n+3)(O:L<=1099511627776)(P:Num 4294967296 v V)(R:v.length=n+2)(S:v.getD (n+1) 0=f)(U:v.getD n 0=v0)(h1:1<=f)
 (j:Nat) (ih:PlaceAt Qx w3 bv ov cv gu gq n M L f v0 X V v l j):PlaceAt Qx w3 bv ov cv gu gq n M L f v0 X V v l (j+1):=by
 intro us W
 iterate 265 intro
 intro wr ai hm H;have aj:f<4294967296:=by rw[<-S];exact P.small.getD (by omega) _
 have ak:v0<4294967296:=by rw[<-U];exact P.small.getD (by omega) _
 have m:0<V:=by
  have y:=P.trim.pow_le (B:=4294967296) (by omega);rw[P.eq] at y;have e2:0<4294967296 ^ (v.length - 1):=Nat.pow_pos (by omega);omega
 have az:=H.ulen;have ei:((j+1:Nat):Int) - 1=(j:Int):=by omega
 rw[ei];clear ei;obtain⟨q,r⟩:∃d,us.getD (j+(n+2)) 0=d:=⟨_,rfl⟩;obtain⟨u1,A⟩:∃d,us.getD (j+(n+1)) 0=d:=⟨_,rfl⟩;obtain⟨u0,C⟩:∃d,us.getD (j+n) 0=d:=⟨_,rfl⟩;have b2:q<4294967296:=by rw[<-r];exact H.usmall.getD (by omega) _
 have b1:u1<4294967296:=by rw[<-A];exact H.usmall.getD (by omega) _
 have b0:u0<4294967296:=by rw[<-C];exact H.usmall.getD (by omega) _
 have g2:=hm.ub.cell (j+(n+2)) (by omega);have g1:=hm.ub.cell (j+(n+1)) (by omega);rw[r] at g2;rw[A] at g1;obtain⟨s,al⟩:=nm (q*4294967296+u1);obtain⟨Q,hQ⟩:=nm (val 4294967296 us / (4294967296 ^ j*V));obtain⟨G1,G2,G3,G4⟩:=H.guess (by omega) P R r A C S U h1 al hQ;have am:=H.q_lt m;rw[hQ] at am;have ok:GuessOk n j L f v0 u0 Q s us:=⟨O,by omega,h1,aj,ak,C,b0,am,G2,G3,G4⟩;have a0:bits .or .u64 ((q:Int)*4294967296) (u1:Int)=(s:Int):=by
  rw[or64 ((q:Int)*4294967296) (u1:Int) q u1 32 (by omega) rfl b1 (by omega)];omega
 have a1:s<18446744073709551616:=by omega
 obtain⟨t,u⟩:∃t,s / f=t:=⟨_,rfl⟩;obtain⟨Y,D⟩:∃Y,s % f=Y:=⟨_,rfl⟩;have t1:(s:Int) / (f:Int)=(t:Int):=by rw[<-u];simp
 have t2:(s:Int) % (f:Int)=(Y:Int):=by rw[<-D];simp
 have t3:(s:Int).tmod (f:Int)=(Y:Int):=by rw[Int.tmod_eq_emod_of_nonneg (by omega)];exact t2
 have t4:(s:Int).tdiv (f:Int)=(t:Int):=by rw[Int.tdiv_eq_ediv_of_nonneg (by omega)];exact t1
 have Z:t<18446744073709551616:=by rw[<-u];exact Nat.lt_of_le_of_lt (Nat.div_le_self _ _) a1
 have a2:Y<f:=by rw[<-D];exact Nat.mod_lt _ (by omega)
 have t5:=Qb3 t Z;have an:t*f+Y=s:=by rw[<-u,<-D,Nat.mul_comm];exact Nat.div_add_mod _ _
 have h:Q<=t:=by rw[<-u];exact G1
 have qv:((f:Int) == 0)=false:=by rw[beq_eq_false_iff_ne];omega
 obtain⟨OK,HM,I,HQ,ao,a3,i,E,HL⟩:=Ih ok hm H hQ r an P R hL;have F:=Hi ai;have k:j+(n+2)<L:=by omega
 have ba:(j:Int)+((n:Int)+2)<(L:Int):=by omega
 have bb:(0:Int)<=(j:Int)+((n:Int)+2):=by omega
 have bc:(j:Int)+((n:Int)+2) - 1<(L:Int):=by omega
 have bd:(0:Int)<=(j:Int)+((n:Int)+2) - 1:=by omega
 clear G1 G2 G3 G4 u D an hQ r A C H hm al az P R S U ok hL ai;rw[rounds_succ]
 conv=>arg 2;whnf
 go_wp2;go_quiet (fail);go_wp2;go_quiet (fail);go_wp2;refine wp_loop_rounds (t+1) ?_;refine(Qmk _ w3 bv ov cv gu gq n j L f v0 u0 Q s v us W l _ OK.o ?hex t) t Y _ lZ ((HM.o.drewN _).drewN _) Z (by omega) a3.o h
 case hex=>
  clear g1 g2 a0 t1 t2 t3 t4 t5 Z a2 h qv;intro g
  iterate 264 intro
  intro be ap a4 h aa;go_wp2;refine wp_loop_rounds (n+2+1) ?_;refine(Qmm _ w3 bv ov cv gu gq n j L (val 4294967296 (us.take (j+(n+2)))) q g v W l _ _ _ O k a4 ?hex2 (n+2)) 0 0 0 us _ (by omega) ap (by omega) (by omega) ao.o ?hz2 ?hv2
  case hz2=>
   intro p hp;have y:=HL.o;have e2:=F.o;have e3:=Qab (B:=4294967296) (by omega) i.o.small;rw[i.o.eq,E.o] at e3;have e4:=I.o.zero (by omega) e3;exact Qqb 4294967296 (by omega) us (j+(n+2)) e4 p hp
  case hv2=>simp[val]
  case hex2=>
   intro c d us1
   iterate 262 intro
   intro bf b hc hd ha hz ab;have a5:=I.o.qlen;have w:=b.ul;have k0:=b.ub.cell (j+(n+2)) (by omega);have k1:=b.ub.free (j+(n+2));rw[ha] at k0;have f0:=b.qb.cell j (by have:=F.o;omega);have f1:=b.qb.free j;obtain⟨z,aq⟩:=nm (W.getD j 0);rw[aq] at f0;have ad:=Qab (B:=4294967296) (by omega) i.o.small;rw[i.o.eq,E.o] at ad;have hU:val 4294967296 us=val 4294967296 (us.take (j+(n+2)))+4294967296 ^ (j+(n+2))*q:=by
    have y:=HL.o;have e2:=F.o;exact Qi9 4294967296 us (j+(n+2)) q (by have:=I.o.ulen;omega) ao.o (I.o.zero (by omega) ad)
   have x:val 4294967296 (us1.take (j+(n+2)))<4294967296 ^ (j+(n+2)):=by
    have y:=Qab (B:=4294967296) (by omega) (b.usmall.take (j+(n+2)));rw[List.length_take,w,Nat.min_eq_left (by omega)] at y;exact y
   rw[show v.take (n+2)=v from List.take_of_length_le (by rw[E.o];exact Nat.le_refl _),i.o.eq] at ab;have J:=Qp8 4294967296 j (n+2) q c d g _ _ V _ x hU m (by omega) ab (by rw[HQ.o];exact h) (by rw[HQ.o];exact aa) (by omega);have hD:4294967296 ^ j*V<=4294967296 ^ (j+(n+2)):=by rw[Nat.pow_add];exact Nat.mul_le_mul_left _ (by omega)
   have K:=Nat.mod_lt (val 4294967296 us) (Nat.mul_pos (Nat.pow_pos (n:=j) (show 0<4294967296 by omega)) m);rw[HQ.o] at J;obtain⟨ae,HZ,HD,ar,af⟩:=Id b hz hD K w;have bg:(j:Int)<(M:Int)+1:=by have:=F.o;omega
   have bh:=Hi I.o;clear hD K ab hU ad hz b w a5 aq ha x ap;rcases J with ⟨rfl,ag,e⟩|⟨au,ag,e⟩
   .
    have tt:IntKind.u64.wrap (IntKind.u64.wrap ((q:Int) - (c:Int)) - (d:Int))=0:=by
     rw[Qar,Qar];omega
    have ah:=Hi e;clear e ag h aa;go_wp2;refine ih (us1.set (j+(n+2)) 0) (W.set j g) _ (by have:=F.o;omega) ((ae.o.setU _ 0 (by omega)).setQ j g) (I.o.next (by have:=F.o;omega) m HQ.o (by rw[List.length_set,af.o,HL.o]) (ae.o.usmall.set _ (by omega)) ?_);rw[Qja _ _ _ (by rw[af.o];exact k) HZ.o];exact ah.o
   .
    obtain⟨T,hT⟩:∃T:Nat,T=18446744073709551615:=⟨_,rfl⟩;have tt:IntKind.u64.wrap (IntKind.u64.wrap ((q:Int) - (c:Int)) - (d:Int))=(T:Int):=by
     rw[Qar,Qar];omega
    have t1:(T:Int) % 4294967296=4294967295:=by omega
    have t2:(T:Int) / 9223372036854775808=1:=by omega
    have a6:T<18446744073709551616:=by omega
    have eg:(g:Int) - 1=(Q:Int):=by omega
    have EG:=Hi eg;have a7:(1:Int)<=(g:Int):=by omega
    have ah:=Hi e;clear e ag h aa hT eg au;go_wp2;rw[EG.o];refine wp_loop_rounds (n+2+1) ?_;refine(Qmq _ w3 bv ov cv gu gq n j L (val 4294967296 (us1.take (j+(n+2)))) 4294967295 v W l _ _ _ _ O k ?hex3 (n+2)) 0 0 (us1.set (j+(n+2)) 4294967295) _ (by omega) (ae.o.setU _ 4294967295 (by omega)) (by omega) (Qbf _ _ _ (by rw[af.o];exact k)) ?hz3 ?hv3
    case hz3=>intro p hp;rw[getD_set_ne _ _ _ _ (by omega)];exact HZ.o p hp
    case hv3=>rw[List.take_set_of_le lZ];simp[val]
    case hex3=>
     clear k0 k1 f0 f1 tt t1 t2 a6 a7;intro c3 av
     iterate 263 intro
     intro bi a aw ax hz3 hv3;have k0:=a.ub.cell (j+(n+2)) (by rw[a.ul];exact k);have k1:=a.ub.free (j+(n+2));rw[ax] at k0;have f0:=a.qb.cell j (by have:=F.o;have:=I.o.qlen;omega);have f1:=a.qb.free j;obtain⟨z',N⟩:∃z,W.getD j 0=z:=⟨_,rfl⟩;rw[N] at f0;have x:val 4294967296 (av.take (j+(n+2)))<4294967296 ^ (j+(n+2)):=by
      have y:=Qab (B:=4294967296) (by omega) (a.usmall.take (j+(n+2)));rw[List.length_take,a.ul,Nat.min_eq_left (by omega)] at y;exact y
     rw[show v.take (n+2)=v from List.take_of_length_le (by rw[E.o];exact Nat.le_refl _),i.o.eq,ah.o] at hv3;obtain⟨a8,e⟩:=Qqd _ _ c3 _ _ x ar.o HD.o aw hv3;subst a8;obtain⟨G,a9,ay⟩:=Ib a hz3 e;clear a hz3 e hv3 x ax N aw;go_wp2;refine ih (av.set (j+(n+2)) 0) (W.set j Q) _ (by have:=F.o;omega) ((G.o.setU _ 0 (by omega)).setQ j Q) (I.o.next (by have:=F.o;omega) m HQ.o (by rw[List.length_set,G.o.ul,HL.o]) (G.o.usmall.set _ (by omega)) ?_);rw[Qja _ _ _ (by rw[G.o.ul];exact k) a9.o];exact ay.o
theorem Qmh(d:Exit->Act->World->Prop)(e:Vz)(f g h i j n M L c k X V:Nat)(v:Vy)(a:Value)(q:L=M+n+3)(l:L<=1099511627776)(r:Num 4294967296 v V)(m:v.length=n+2)(o:v.getD (n+1) 0=c)(p:v.getD n 0=k)(s:1<=c)
 (b:PlaceExit d e f g h i j n M L X V v a) (t:Nat):PlaceAt d e f g h i j n M L c k X V v a t:=by
 induction t with
 |zero=>exact Qmf d e f g h i j n M L c k X V v a b
 |succ t u=>exact Qmg d e f g h i j n M L c k X V v a q l r m o p s t u
theorem Blk.setRow{k:IntKind}{t:Vr}{w:Vz}{g:Nat}{l:Vy}(h:Blk k t w g l)(m:Vy):Blk k t (w.setRow g (wordCells k m)) g m:=setRow_heap w g _ _ t _ h
theorem Qmr(X V n M k:Nat)(b v:Vy)(c:Num 4294967296 b X)(d:X<4294967296 ^ (M+n+2))(e:Num 4294967296 v V)(a:v.length=n+2)(hk:b.length+k=M+n+3):
 DivInv X V n M (M+1) (b++zeros k) (zeros (M+1)):=by
 refine⟨by rw[List.length_append,Qah];exact hk,Qah _,c.small.append (Qaq _ _ (by decide)),Qaq _ _ (by decide),?_,?_⟩
 . rw[Qdg,Qd5,c.eq,List.drop_of_length_le (by rw[Qah];exact Nat.le_refl _),Qdf,Nat.mul_zero,Nat.mul_zero]
   rfl
 .
  rw[Qdg,Qd5,c.eq,Nat.mul_zero,Nat.add_zero];have f:=e.trim.pow_le (B:=4294967296) (by rw[a];exact Nat.succ_pos _);rw[e.eq,a] at f;have g:=Nat.mul_le_mul_left (4294967296 ^ (M+1)) f;rw[<-Nat.pow_add,show M+1+(n+2 - 1)=M+n+2 from by omega] at g;exact Nat.lt_of_lt_of_le d g
theorem Qms(w:Vz)(g n i d f:Nat)(a:Vy)(hB:Blk .u32 233 w g (zeros n))(m:Row .u32 w (some ⟨d,f,none⟩) i a)(o:a.length<=n):
 Sem.run prog (Builtin.copy_ #[119,119] 3 #[.slice (some ⟨g,0,none⟩) n n,.slice (some ⟨d,f,none⟩) a.length i]) w=.ok (.int .i64 a.length) (w.setRow g (wordCells .u32 (a++zeros (n - a.length)))):=by
 have h:=run_copy_row (P:=prog) w 119 119 3 233 g 0 n n ⟨d,f,none⟩ a.length i (wordCells .u32 (zeros n)) 233 (a.map (fun n:Nat=>Value.int .u32 n)) underlying119 (by kernel_rfl) hB
  (by rw[List.length_map];exact(Nat.min_eq_left o).symm) ?_ (by simp[wordCells,Qah];omega) ?_
 .
  have e:(List.take 0 (wordCells .u32 (zeros n)).toList++a.map (fun n:Nat=>Value.int .u32 n)++List.drop (0+(a.map (fun n:Nat=>Value.int .u32 n)).length) (wordCells .u32 (zeros n)).toList).toArray=wordCells .u32 (a++zeros (n - a.length)):=by
   unfold wordCells zeros;simp
  rw[e] at h;rw[List.length_map] at h;exact h
 .
  intro j u p;obtain⟨k,l⟩:=gZ p;have b:j<a.length:=by simpa using k
  obtain⟨q,c,r,_,s⟩:=m.cell j b;obtain⟨rfl,rfl⟩:d=q/\f=c:=by simpa using r
  rw[Qao,s,<-l];simp[b]
 . intro u l;obtain⟨n,_,rfl⟩:=List.mem_map.1 l;rfl
theorem Qmt(a1 Y:Vx)(c1 c2:Nat)(l m:Vy)(x y:Nat)(w:Vz)(k:U32 w a1 c1 l x)(g:U32 w Y c2 m y)(hy:0<y)(ay:y<=x)(hl:2<l.length)(hm:1<m.length)(bk:l.length<1099511627770):
 Calls prog 203 #[.slice a1 l.length c1,.slice Y m.length c2] w (DivOk w x y):=by
 have s2:=g.short;have bl:m.length<=l.length:=by
  apply bC;intro hc;have:=Qau (B:=4294967296) (by omega) k.num.small g.num.trim (by omega);rw[k.num.eq,g.num.eq] at this;omega
 have q1:((m.length:Int) == 0)=false:=by rw[beq_eq_false_iff_ne];omega
 have q2:((m.length:Int) == 1)=false:=by rw[beq_eq_false_iff_ne];omega
 have hc:¬cmp3 x y<0:=by rw[Qav];omega
 have az:nb y<=32*m.length:=Num.nb_le (q:=32) g.num;obtain⟨z,hz⟩:=nm (nb y);have bm:1<=z:=by rw[<-hz];exact Qdh hy
 obtain⟨s,hs⟩:=nm (31 - (z - 1) % 32);have c:s<32:=by omega
 have a0:32 - ((z:Int) - 1) % 32 - 1=(s:Int):=by omega
 rw[hz] at az;have HZ:O (nb y=z):=hz;clear hz hs;go_enter func203,ntmps203;go_wp2_with fail;refine(Qbc a1 Y c1 c2 l m x y w k g).mono ?_;rintro e w1 ⟨rfl,U⟩;replace k:=k.below U;replace g:=g.below U;go_wp2_with fail;refine(Qmv Y c2 m y w1 g).mono ?_;rintro e w2 ⟨rfl,rfl⟩;rw[HZ.o];clear hc;go_wp2_with fail;refine(Qhi Y c2 s m y w2 g c (by omega) (by omega)).mono ?_;rintro e a ⟨⟨av,cv,v,rfl,d⟩,t⟩;replace k:=k.below t;have Z:=Qe3 c;have F:0<2 ^ s:=Nat.pow_pos (by omega);obtain⟨V,hV⟩:=nm (y*2 ^ s);obtain⟨X,hX⟩:=nm (x*2 ^ s);rw[hV] at d;have a3:y<=V:=by rw[<-hV];exact Nat.le_mul_of_pos_right _ F
 have bn:V<=X:=by rw[<-hV,<-hX];exact Nat.mul_le_mul_right _ ay
 have aa:X<4294967296 ^ (l.length+1):=by
  have b:=Qab (B:=4294967296) (by omega) k.num.small;rw[k.num.eq] at b;rw[<-hX,Nat.pow_succ];exact Nat.mul_lt_mul'' b (by omega)
 have ab:2<=v.length:=by
  apply bC;intro hn;have b:=Qab (B:=4294967296) (by omega) d.num.small;have u:=Qb6 (B:=4294967296) (by omega) (show v.length<=1 by omega);have e3:=g.num.trim.pow_le (B:=4294967296) (by omega);have e4:=Qb6 (B:=4294967296) (by omega) (show 1<=m.length - 1 by omega);rw[d.num.eq] at b;rw[g.num.eq] at e3;omega
 have ad:v.length<=l.length+1:=d.num.length_le_of_lt (by omega) (by omega);have HV:O (y*2 ^ s=V):=hV;have HX:O (x*2 ^ s=X):=hX;have ae:O (X<4294967296 ^ (l.length+1)):=aa;clear hV hX aa Z F a3;have a4:∀w,(Instr.makeSlice 119 (.int .i64 ((l.length:Int)+2)) (.int .i64 ((l.length:Int)+2))).run prog w=.ok (.slice (some ⟨w.heap.size,0,none⟩) (l.length+2) (l.length+2)) (w.alloc (.cells (wordCells .u32 (zeros (l.length+2))) 233)):=
  fun w=>Qa8 _ (l.length+2) (by omega) (by omega) w
 go_wp2_with fail;have K:Bl a (a.alloc (.cells (wordCells .u32 (zeros (l.length+2))) 233)):=bR.alloc lZ _;refine(Qhi a1 c1 s l x _ (k.below K) c (by omega) (by omega)).mono ?_;rintro e r ⟨⟨ax,cx,f,rfl,L⟩,N⟩;clear a4;rw[HX.o] at L;have bh:f.length<=l.length+1:=L.num.length_le_of_lt (by omega) ae.o;have af:0<f.length:=by
  have:=(L.num.len_zero (by omega)).2;have:=HV.o;have:0<y*2 ^ s:=Nat.mul_pos hy (Nat.pow_pos (by omega));omega
 have A:Blk .u32 233 r a.heap.size (zeros (l.length+2)):=(Blk.new .u32 233 a _).below N (by simp);have G:Bl a r:=K.trans (N.mono (by simp));have bo:=G.size;have ag:=A.lt;clear K N;obtain⟨bx,ox,a5,bp,a6⟩:=L.row.cell 0 af;subst a5;have a7:=Qms r a.heap.size (l.length+2) cx bx ox f A L.row (by omega);clear a6;obtain⟨n,hn⟩:∃n,v.length=n+2:=⟨v.length - 2,by omega⟩;have W:O (v.length=n+2):=hn;rw[hn];rw[hn] at ab ad;clear hn;obtain⟨M,hM⟩:∃M,l.length=M+n+1:=⟨l.length - 1 - n,by omega⟩;have HM:O (l.length=M+n+1):=hM;have ah:∀w,(Instr.makeSlice 119 (.int .i64 ((l.length:Int)+2 - ((n:Int)+2))) (.int .i64 ((l.length:Int)+2 - ((n:Int)+2)))).run prog w=.ok (.slice (some ⟨w.heap.size,0,none⟩) (M+1) (M+1)) (w.alloc (.cells (wordCells .u32 (zeros (M+1))) 233)):=
  fun w=>Qa8 _ (M+1) (by omega) (by omega) w
 clear hM;go_wp2_with fail;clear a7 ah;generalize hW0:(r.setRow a.heap.size (wordCells .u32 (f++zeros (l.length+2 - f.length)))).alloc (.cells (wordCells .u32 (zeros (M+1))) 233)=W0 at*;have P:(r.setRow a.heap.size (wordCells .u32 (f++zeros (l.length+2 - f.length)))).heap.size=r.heap.size:=by simp[World.setRow]
 have H:Blk .u32 233 W0 a.heap.size (f++zeros (l.length+2 - f.length)):=by
  rw[<-hW0];exact(A.setRow _).alloc _
 have I:Blk .u32 233 W0 r.heap.size (zeros (M+1)):=by
  rw[<-hW0,<-P];exact Blk.new _ _ _ _
 have C:Bl a W0:=by
  rw[<-hW0];exact(below_setRow G lZ _).alloc (by rw[P];omega) _
 clear hW0 P A;obtain⟨Q,R,a8,S,_⟩:=d.row.cell 0 (by have:=W.o;omega);subst a8;have D:∀i,i<n+2->a.cell? ⟨Q,R+i,none⟩=some (.int .u32 ((v.getD i 0:Nat):Int)):=by
  intro i hi;obtain⟨b',o',b,_,u⟩:=d.row.cell i (by have:=W.o;omega);obtain⟨rfl,rfl⟩:Q=b'/\R=o':=by simpa using b
  exact u
 obtain⟨v1,h⟩:=nm (v.getD (n+1) 0);obtain⟨v0,E⟩:=nm (v.getD n 0);have bi:v1<4294967296:=by rw[<-h];exact d.num.small.getD (by omega) _
 have bj:v0<4294967296:=by rw[<-E];exact d.num.small.getD (by omega) _
 have ai:1<=v1:=by
  have b:=d.num.trim;have u:=W.o;rcases b with b|b
  . rw[b] at u;simp at u
  . rw[u] at b;rw[<-h];simp only[Nat.add_one_sub_one] at b;omega
 have g1:=(C.cell (p:=⟨Q,R+(n+1),none⟩) S).trans (D (n+1) (by omega));have g2:=(C.cell (p:=⟨Q,R+n,none⟩) S).trans (D n (by omega));rw[h] at g1;rw[E] at g2;have a9:O (∀i,i<n+2->a.cell? ⟨Q,R+i,none⟩=some (.int .u32 ((v.getD i 0:Nat):Int))):=D;have ba:O (v.getD (n+1) 0=v1):=h;have bb:O (v.getD n 0=v0):=E;clear D h E;go_region
 all_goals
  go_wp2
 clear g1 g2;have bc:V<4294967296 ^ (n+2):=by
  have b:=Qab (B:=4294967296) (by omega) d.num.small;rw[d.num.eq,W.o] at b;exact b
 have bq:0<V:=by rw[<-HV.o];exact Nat.mul_pos hy (Nat.pow_pos (by omega))
 have aj:DivInv X V n M (M+1) (f++zeros (l.length+2 - f.length)) (zeros (M+1)):=
  Qmr X V n M _ f v L.num (by rw[show M+n+2=l.length+1 from by have:=HM.o;omega];exact ae.o) d.num W.o (by have:=HM.o;omega)
 have ak:DivMem a W0 Q R a.heap.size r.heap.size n (l.length+2) v (f++zeros (l.length+2 - f.length)) (zeros (M+1)):=
  ⟨C,S,a9.o,d.num.small,H,I,ag,by rw[List.length_append,Qah];omega,L.num.small.append (Qaq _ _ (by omega))⟩
 obtain⟨al,am⟩:=Ia ak aj;clear aj bc H I C a0 ak;rw[show (l.length:Int)+2 - ((n:Int)+2) - 1=((M+1:Nat):Int) - 1 from by have:=HM.o;omega];refine wp_loop_rounds (M+1+1) ?_;refine(Qmh _ a Q R cv a.heap.size r.heap.size n M (l.length+2) v1 v0 X V v _ (by have:=HM.o;omega) (by omega) d.num W.o ba.o bb.o ai ?hex (M+1)) _ _ _ lZ al.o.drew am.o
 case hex=>
  intro us qs
  iterate 270 intro
  intro wr hm hI;have T:val 4294967296 qs=x / y/\val 4294967296 us / 2 ^ s=x % y:=by
   have b:=hI.eq;have u:=hI.lt;rw[Nat.pow_zero,Nat.one_mul] at b u;rw[List.drop_zero] at b;exact Qfw (Nat.pow_pos (by decide)) HX.o HV.o b u
  obtain⟨bd,an⟩:=T;obtain⟨be,ao,j⟩:=Ib an hI hm;clear an hI hm al am;go_wp2_with fail;refine(Qaz r.heap.size (M+1) (M+1) (x / y) qs wr j.o.qb ao.o.qlen ao.o.qsmall lZ (by have:=HM.o;omega) bd).mono ?_;rintro e w5 ⟨⟨aq,cq,rq,rfl,bf⟩,rfl⟩;go_wp2_with fail;refine(Qaz a.heap.size (l.length+2) (l.length+2) _ us w5 j.o.ub j.o.ul j.o.usmall lZ (by omega) rfl).mono ?_;rintro e w6 ⟨⟨au,cu,ru,rfl,bg⟩,rfl⟩;go_wp2_with fail;refine(Qmw au cu s ru _ w6 bg c).mono ?_;rintro e w7 ⟨⟨ar,cr,rr,rfl,ap⟩,aw⟩;go_wp2;go_ret2;rw[be.o] at ap;refine⟨⟨aq,cq,rq,ar,cr,rr,rfl,bf.below aw,ap⟩,?_⟩;have J:Bl a w6:=j.o.below;exact U.trans ((t.mono U.size).trans ((J.mono (Nat.le_trans U.size t.size)).trans (aw.mono (Nat.le_trans U.size (Nat.le_trans t.size J.size)))))
theorem Qbd(a b:Vx)(c1 c2:Nat)(l m:Vy)(x y:Nat)(w:Vz)(d:U32 w a c1 l x)(c:U32 w b c2 m y)(e:0<y)(f:l.length<1099511627770):
 Calls prog 203 #[.slice a l.length c1,.slice b m.length c2] w (DivOk w x y):=by
 by_cases g:x<y
 . exact Qmc a b c1 c2 l m x y w d c g
 by_cases hl:l.length<=2
 . exact Qmd a b c1 c2 l m x y w d c e (by omega) hl
 by_cases h:m.length=1
 . exact Qme a b c1 c2 l m x y w d c e (by omega) (by omega) h
 .
  have i:m.length≠0:=by
   intro j;have:=(c.num.len_zero (by decide)).2 j;omega
  exact Qmt a b c1 c2 l m x y w d c e (by omega) (by omega) (by omega) f
theorem Qb1(p q:Nat):Nat.gcd q (p % q)=Nat.gcd p q:=by
 rw[Nat.gcd_comm q,<-Nat.gcd_rec,Nat.gcd_comm]
theorem U32.len_mono{w f:Vz}{a b:Vx}{c d:Nat}{l m:Vy}{x y:Nat}(h:U32 w a c l x)(k:U32 f b d m y)(e:x<=y):l.length<=m.length:=
 h.num.length_le_of_lt (by decide) (Nat.lt_of_le_of_lt e (by have:=Qab (B:=4294967296) (by decide) k.num.small;rw[k.num.eq] at this;exact this))
def ComExit(Qx:Exit->Act->World->Prop)(w0:Vz)(g B:Nat):Prop:=
 ∀(p q:Nat) (a b:Vx) (c d:Nat) (l m:Vy) {s2 s3 s4 s5 s6 s7 s8 s9 s10 s11 s12 s13 s14 s15 s16 s17 s18 s19 s20 s21 s22 s23 s24 s25 s26 s27 s28 s29 s30 s31 s32 s33 s34 s35 s36 s37 s38 s39 s40 s41 s42 s43 s44 s45 s46 s47 s48:Value} (wr:Vz),U32 wr a c l p->U32 wr b d m q->l.length<=B->m.length<=2->Nat.gcd p q=g->Below w0.heap.size w0 wr->
  Qx (.exit 0) ⟨#[.slice a l.length c,.slice b m.length d,s2,s3,s4,s5,s6,s7,s8,s9,s10,s11,s12,s13,s14,s15,s16,s17,s18,s19,s20,s21,s22,s23,s24,s25,s26,s27,s28,s29,s30,s31,s32,s33,s34,s35,s36,s37,s38,s39,s40,s41,s42,s43,s44,s45,s46,s47,s48],[]⟩ wr
def ComAt(Qx:Exit->Act->World->Prop)(w0:Vz)(g B t:Nat):Prop:=
 ∀(p q:Nat) (a b:Vx) (c d:Nat) (l m:Vy) {s2 s3 s4 s5 s6 s7 s8 s9 s10 s11 s12 s13 s14 s15 s16 s17 s18 s19 s20 s21 s22 s23 s24 s25 s26 s27 s28 s29 s30 s31 s32 s33 s34 s35 s36 s37 s38 s39 s40 s41 s42 s43 s44 s45 s46 s47 s48:Value} (wr:Vz),q<=t->U32 wr a c l p->U32 wr b d m q->l.length<=B->m.length<=B->Nat.gcd p q=g->Below w0.heap.size w0 wr->
  Code.rounds prog (((Tryz.f202.body.map loopsIn).getD []).getD 0 .skip) Qx (t+1) ⟨#[.slice a l.length c,.slice b m.length d,s2,s3,s4,s5,s6,s7,s8,s9,s10,s11,s12,s13,s14,s15,s16,s17,s18,s19,s20,s21,s22,s23,s24,s25,s26,s27,s28,s29,s30,s31,s32,s33,s34,s35,s36,s37,s38,s39,s40,s41,s42,s43,s44,s45,s46,s47,s48],[]⟩ wr
theorem Qmb(G:Exit->Act->World->Prop)(w0:Vz)(g B:Nat)(hB:B<1099511627770)(f:ComExit G w0 g B)(t:Nat):ComAt G w0 g B t:=by
 induction t with
 |zero=>
  intro p q a b c d l m
  iterate 47 intro
  intro wr I i h hl y k n;have H:q=0:=by omega
  have z:=(h.num.len_zero (by decide)).1 H;have s:¬(2:Int)<(m.length:Int):=by omega
  obtain⟨A,u,x,J⟩:=Ic i h k (show m.length<=2 by omega);clear i h k z H;rw[rounds_succ]
  conv=>arg 2;whnf
  go_wp2;exact f _ _ _ _ _ _ _ _ _ A.o u.o hl J.o x.o n
 |succ t K=>
  intro p q a b c d l m
  iterate 47 intro
  intro wr I i h hl y k n;obtain⟨A,u,x⟩:=Ib i h k;by_cases C:m.length<=2
  .
   have s:¬(2:Int)<(m.length:Int):=by omega
   clear i h k;rw[rounds_succ]
   conv=>arg 2;whnf
   go_wp2;exact f _ _ _ _ _ _ _ _ _ A.o u.o hl C x.o n
  .
   have s:(2:Int)<(m.length:Int):=by omega
   have j:0<q:=by
    rcases Nat.eq_zero_or_pos q with D|D
    . have:=(h.num.len_zero (by decide)).1 D;omega
    . exact D
   have L:=Hi (Qbd a b c d l m p q wr i h j (by omega));clear i h k;rw[rounds_succ]
   conv=>arg 2;whnf
   go_wp2_with fail;refine L.o.mono ?_;rintro e w1 ⟨⟨O,P,r,E,F,M,rfl,N,v⟩,w⟩;go_wp2;exact K q (p % q) b E d F m M _ (by have:=Nat.mod_lt p j;omega) (u.o.below w) v y (Nat.le_trans (v.len_mono u.o (Nat.le_of_lt (Nat.mod_lt _ j))) y) ((Qb1 p q).trans x.o) (n.trans (w.mono n.size))
theorem Qdb{l:Vy}{x:Nat}(h:Num 4294967296 l x)(hl:l.length<=2):x<18446744073709551616:=by
 have a:=Qab (B:=4294967296) (by decide) h.small;have b:=Qb6 (B:=4294967296) (by decide) hl;rw[h.eq] at a;exact Nat.lt_of_lt_of_le a b
theorem Qhf(M N:Vx)(c1 c2:Nat)(l m:Vy)(x y:Nat)(w:Vz)(F:U32 w M c1 l x)(k:U32 w N c2 m y)(hl:l.length<1099511627770)(G:m.length<1099511627770):
 Calls prog 202 #[.slice M l.length c1,.slice N m.length c2] w fun e w'=>(∃a H r,e=.returned (.slice a r.length H)/\U32 w' a H r (Nat.gcd x y))/\Below w.heap.size w w':=by
 obtain⟨g,n⟩:=nm (Nat.gcd x y);rw[n];go_enter func202,ntmps202;go_wp2;refine wp_loop_rounds (y+1) ?_;refine(Qmb _ w g 1099511627769 (by decide) ?hex y) x y M N c1 c2 l m _ lZ F k (by omega) (by omega) n bR
 case hex=>
  intro p q a b c d l m
  iterate 47 intro
  intro wr F k hl G n O;by_cases P:q=0
  .
   have Q:((m.length:Int) == 0)=true:=by have:=(k.num.len_zero (by decide)).1 P;simp[this]
   obtain⟨h,HQ⟩:=Ia n P;clear n P;go_wp2;go_ret;have t:=h.o;rw[HQ.o,Nat.gcd_zero_right] at t;exact⟨⟨a,c,l,rfl,by rw[<-t];exact F⟩,O⟩
  .
   have Q:((m.length:Int) == 0)=false:=by
    rw[beq_eq_false_iff_ne];have:=(k.num.len_zero (by decide)).2;omega
   by_cases I:l.length<=2
   .
    have R:¬(2:Int)<(l.length:Int):=by omega
    obtain⟨L,h⟩:=Ia O n;clear n;go_wp2_with fail;refine(Qb2 a c l p _ F I).mono ?_;rintro e wp ⟨rfl,rfl⟩;go_wp2_with fail;refine(Qb2 b d m q _ k G).mono ?_;rintro e wq ⟨rfl,rfl⟩;have z:p<18446744073709551616:=Qdb F.num I;have A:q<18446744073709551616:=Qdb k.num G;go_wp2;go_loopw [9,10] (fun X Y S=>∃u v:Nat,X=.int .u64 u/\Y=.int .u64 v/\u<18446744073709551616/\v<18446744073709551616/\Nat.gcd u v=g/\Below w.heap.size w S) (fun _ Y _=>(intOf Y).toNat)
    case atStart=>exact⟨p,q,rfl,rfl,z,A,h.o,L.o⟩
    case round=>
     obtain⟨u,v,rfl,rfl,hu,T,i,f⟩:=hrel;have h:=Hi i;clear i;by_cases B:v=0
     .
      subst B;go_wp2_with fail;refine(Qbn (u:Int) _ (by omega) (by omega)).mono ?_;rintro e w9 ⟨⟨U,V,W,rfl,j,_⟩,C⟩;go_wp2;go_ret;have t:=h.o;rw[Nat.gcd_zero_right] at t;rw[Int.toNat_natCast,t] at j;exact⟨⟨U,V,W,rfl,j⟩,f.trans (C.mono f.size)⟩
     .
      have Z:(0:Int)<(v:Int):=by omega
      have qv:((v:Int) == 0)=false:=by rw[beq_eq_false_iff_ne];omega
      obtain⟨r,s⟩:=nm (u % v);have t2:(u:Int) % (v:Int)=(r:Int):=by rw[<-s];simp
      have t3:(u:Int).tmod (v:Int)=(r:Int):=by rw[Int.tmod_eq_emod_of_nonneg (by omega)];exact t2
      have aa:r<v:=by rw[<-s];exact Nat.mod_lt _ (by omega)
      have HR:=Hi s;clear s;go_wp2;go_region
      all_goals
       go_wp2;go_roundw
       case rel=>exact⟨v,r,rfl,rfl,T,by omega,by rw[<-HR.o];exact(Qb1 u v).trans h.o,f.drew⟩
       case measure=>simp[intOf];omega
   .
    have R:(2:Int)<(l.length:Int):=by omega
    obtain⟨HD,L,h⟩:=Ib (Qbd a b c d l m p q wr F k (by omega) (by omega)) O n;clear n;go_wp2_with fail;refine HD.o.mono ?_;rintro e w1 ⟨⟨a',c',r1,ab,ad,r',rfl,ae,D⟩,E⟩;have J:=k.below E;have K:r'.length<=2:=Nat.le_trans (D.len_mono k (Nat.le_of_lt (Nat.mod_lt _ (by omega)))) G;obtain⟨af,ag⟩:=Ia (L.o.trans (E.mono L.o.size)) ((Qb1 p q).trans h.o);clear E ae HD;go_wp2_with fail;refine(Qb2 b d m q _ J G).mono ?_;rintro e wp ⟨rfl,rfl⟩;go_wp2_with fail;refine(Qb2 ab ad r' (p % q) _ D K).mono ?_;rintro e wq ⟨rfl,rfl⟩;have z:q<18446744073709551616:=Qdb J.num G;have A:(p % q)<18446744073709551616:=Qdb D.num K;go_wp2;go_loopw [9,10] (fun X Y S=>∃u v:Nat,X=.int .u64 u/\Y=.int .u64 v/\u<18446744073709551616/\v<18446744073709551616/\Nat.gcd u v=g/\Below w.heap.size w S) (fun _ Y _=>(intOf Y).toNat)
    case atStart=>exact⟨q,(p % q),rfl,rfl,z,A,ag.o,af.o⟩
    case round=>
     obtain⟨u,v,rfl,rfl,hu,T,i,f⟩:=hrel;have h:=Hi i;clear i;by_cases B:v=0
     .
      subst B;go_wp2_with fail;refine(Qbn (u:Int) _ (by omega) (by omega)).mono ?_;rintro e w9 ⟨⟨U,V,W,rfl,j,_⟩,C⟩;go_wp2;go_ret;have t:=h.o;rw[Nat.gcd_zero_right] at t;rw[Int.toNat_natCast,t] at j;exact⟨⟨U,V,W,rfl,j⟩,f.trans (C.mono f.size)⟩
     .
      have Z:(0:Int)<(v:Int):=by omega
      have qv:((v:Int) == 0)=false:=by rw[beq_eq_false_iff_ne];omega
      obtain⟨r,s⟩:=nm (u % v);have t2:(u:Int) % (v:Int)=(r:Int):=by rw[<-s];simp
      have t3:(u:Int).tmod (v:Int)=(r:Int):=by rw[Int.tmod_eq_emod_of_nonneg (by omega)];exact t2
      have aa:r<v:=by rw[<-s];exact Nat.mod_lt _ (by omega)
      have HR:=Hi s;clear s;go_wp2;go_region
      all_goals
       go_wp2;go_roundw
       case rel=>exact⟨v,r,rfl,rfl,T,by omega,by rw[<-HR.o];exact(Qb1 u v).trans h.o,f.drew⟩
       case measure=>simp[intOf];omega
def SB(w:Vz)(b:Nat)(t:Vr)(C:Vw):Prop:=w.heap[b]?=some (.cells C t (0,0))
def NoInt(C:Vw):Prop:=∀(i:Nat) (k:IntKind) (n:Int),C[i]?≠some (Value.int k n)
theorem SB.lt{w:Vz}{b:Nat}{t:Vr}{C:Vw}(h:SB w b t C):b<w.heap.size:=by
 apply bC;intro a;unfold SB at h;rw[Array.getElem?_eq_none (by omega)] at h;cases h
theorem SB.cell{w:Vz}{b:Nat}{t:Vr}{C:Vw}(h:SB w b t C)(i:Nat):w.cell? ⟨b,i,none⟩=C[i]?:=by
 unfold SB at h;simp[World.cell?,h]
theorem SB.free{w:Vz}{b:Nat}{t:Vr}{C:Vw}(h:SB w b t C)(i:Nat):w.frozen? ⟨b,i,none⟩=false:=by
 unfold SB at h;simp[World.frozen?,h]
theorem SB.set{w:Vz}{b:Nat}{t:Vr}{C:Vw}(h:SB w b t C)(i:Nat)(v:Value):SB (w.setCell ⟨b,i,none⟩ v) b t (C.setIfInBounds i v):=by
 unfold SB at h ⊢;simp[World.setCell,Array.getElem?_modify,h]
theorem SB.alloc{w:Vz}{b:Nat}{t:Vr}{C:Vw}(h:SB w b t C)(o:Obj):SB (w.alloc o) b t C:=by
 have:=h.lt;unfold SB at h ⊢;rw[Below.heap_alloc _ _ _ this];exact h
theorem SB.new(w:Vz)(t:Vr)(C:Vw):SB (w.alloc (.cells C t)) w.heap.size t C:=by
 show (w.heap.push _)[w.heap.size]?=_
 simp
theorem SB.below{w a:Vz}{b B:Nat}{t:Vr}{C:Vw}(h:SB w b t C)(c:Below B w a)(hB:b<B):SB a b t C:=by
 unfold SB at h ⊢;rw[c.block b hB];exact h
structure Only (b:Nat) (w w':Vz):Prop where
 os:w'.os=w.os
 tape:w'.tape=w.tape
 output:w'.output=w.output
 size:w.heap.size<=w'.heap.size
 block:∀k,k<w.heap.size->k≠b->w'.heap[k]?=w.heap[k]?
theorem Only.refl(b:Nat)(w:Vz):Only b w w:=⟨rfl,rfl,rfl,Nat.le_refl _,fun _ _ _=>rfl⟩
theorem Only.trans{b:Nat}{u v w:Vz}(h:Only b u v)(k:Only b v w):Only b u w:=
 ⟨k.os.trans h.os,k.tape.trans h.tape,k.output.trans h.output,Nat.le_trans h.size k.size,fun i c a=>(k.block i (by have:=h.size;omega) a).trans (h.block i c a)⟩
theorem Only.of_below{b:Nat}{w a:Vz}(h:Bl w a):Only b w a:=⟨h.os,h.tape,h.output,h.size,fun k hk _=>h.block k hk⟩
theorem Only.setCell{b:Nat}{u w:Vz}(h:Only b u w)(i:Nat)(v:Value):Only b u (w.setCell ⟨b,i,none⟩ v):=
 ⟨h.os,h.tape,h.output,by have:=h.size;simpa [World.setCell] using this,fun k hk a=>(Below.heap_setCell _ _ _ _ a).trans (h.block k hk a)⟩
theorem Only.drew{b:Nat}{u w:Vz}(h:Only b u w):Only b u w.drew:=⟨h.os,h.tape,h.output,h.size,h.block⟩
theorem Only.drewN{b:Nat}{u w:Vz}(h:Only b u w)(n:Nat):Only b u (w.drewN n):=⟨h.os,h.tape,h.output,h.size,h.block⟩
theorem Only.below{b B:Nat}{w a:Vz}(h:Only b w a)(hB:B<=b)(c:B<=w.heap.size):Below B w a:=⟨h.os,h.tape,h.output,h.size,fun k hk=>h.block k (by omega) (by omega)⟩
theorem Only.fresh{b:Nat}{u w a:Vz}(h:Bl u w)(k:Only b w a)(c:u.heap.size<=b):Bl u a:=
 h.trans (k.below c h.size)
theorem SB.only{w d:Vz}{b c:Nat}{t:Vr}{C:Vw}(h:SB w b t C)(k:Only c w d)(a:b≠c):SB d b t C:=by
 have:=h.lt;unfold SB at h ⊢;rw[k.block b this a];exact h
theorem Row.only{k:IntKind}{w n:Vz}{a:Vx}{d:Nat}{l:Vy}{b:Nat}{t:Vr}{C:Vw}(h:Row k w a d l)(f:Only b w n)(p:SB w b t C)(q:NoInt C):Row k n a d l:=by
 refine⟨h.fit,?_,fun i r=>?_⟩
 .
  rcases h.shape with g|⟨e,c,rfl,o⟩
  . exact .inl g
  . exact .inr ⟨e,c,rfl,by have:=f.size;omega⟩
 .
  obtain⟨e,c,g,o,j⟩:=h.cell i r;have m:e≠b:=by
   rintro rfl;rw[p.cell] at j;exact q _ _ _ j
  exact⟨e,c,g,by have:=f.size;omega,(World.cell?_of_block (w:=w) (f.block e o m)).trans j⟩
theorem U32.only{w d:Vz}{a:Vx}{c:Nat}{l:Vy}{n b:Nat}{t:Vr}{C:Vw}(h:U32 w a c l n)(e:Only b w d)(f:SB w b t C)(g:NoInt C):U32 d a c l n:=
 ⟨h.row.only e f g,h.num,h.short⟩
structure IntAt (w:Vz) (b o:Nat) (z:Int) (a:Vx) (cap:Nat) (l:Vy):Prop where
 neg:w.cell? ⟨b,o,none⟩=some (.bool (decide (z<0)))
 abs:w.cell? ⟨b,o+1,none⟩=some (.slice a l.length cap)
 num:U32 w a cap l z.natAbs
 lt:b<w.heap.size
theorem IntAt.below{w e:Vz}{b o:Nat}{z:Int}{a:Vx}{c:Nat}{l:Vy}(h:IntAt w b o z a c l)(d:Bl w e):IntAt e b o z a c l:=
 ⟨ce d h.lt h.neg,ce d h.lt h.abs,h.num.below d,by have:=h.lt;have:=d.size;omega⟩
def putInt(C:Vw)(o:Nat)(neg:Bool)(v:Value):Array Value:=(C.setIfInBounds (o+1) v).setIfInBounds o (.bool neg)
structure Laid (w w':Vz) (b o:Nat) (t:Vr) (C:Vw) (z:Int) (a:Vx) (cap:Nat) (l:Vy):Prop where
 sb:SB w' b t (putInt C o (decide (z<0)) (.slice a l.length cap))
 num:U32 w' a cap l z.natAbs
 only:Only b w w'
theorem Laid.at{w d:Vz}{b o:Nat}{t:Vr}{C:Vw}{z:Int}{a:Vx}{c:Nat}{l:Vy}(h:Laid w d b o t C z a c l)(e:o+1<C.size):IntAt d b o z a c l:=by
 refine⟨?_,?_,h.num,h.sb.lt⟩
 . have f:o<C.size:=by omega
   rw[h.sb.cell];simp[putInt,f]
 . rw[h.sb.cell];simp[putInt,e]
def ZC(w:Vz)(b:Nat):List Value→Prop
 |[x0]=>w.cell? ⟨b,0,none⟩=some x0∧True
 |[x0,x1]=>w.cell? ⟨b,0,none⟩=some x0∧w.cell? ⟨b,1,none⟩=some x1∧True
 |[x0,x1,x2]=>w.cell? ⟨b,0,none⟩=some x0∧w.cell? ⟨b,1,none⟩=some x1∧w.cell? ⟨b,2,none⟩=some x2∧True
 |[x0,x1,x2,x3]=>w.cell? ⟨b,0,none⟩=some x0∧w.cell? ⟨b,1,none⟩=some x1∧w.cell? ⟨b,2,none⟩=some x2∧w.cell? ⟨b,3,none⟩=some x3∧True
 |[x0,x1,x2,x3,x4]=>w.cell? ⟨b,0,none⟩=some x0∧w.cell? ⟨b,1,none⟩=some x1∧w.cell? ⟨b,2,none⟩=some x2∧w.cell? ⟨b,3,none⟩=some x3∧w.cell? ⟨b,4,none⟩=some x4∧True
 |[x0,x1,x2,x3,x4,x5]=>w.cell? ⟨b,0,none⟩=some x0∧w.cell? ⟨b,1,none⟩=some x1∧w.cell? ⟨b,2,none⟩=some x2∧w.cell? ⟨b,3,none⟩=some x3∧w.cell? ⟨b,4,none⟩=some x4∧w.cell? ⟨b,5,none⟩=some x5∧True
 |_=>True
theorem zc{w:Vz}{b:Nat}{t:Vr}{l:Vv}(h:SB w b t l.toArray):ZC w b l:=by
 unfold ZC
 split
 all_goals first|trivial|exact⟨h.cell 0,trivial⟩|exact⟨h.cell 0,h.cell 1,trivial⟩|exact⟨h.cell 0,h.cell 1,h.cell 2,trivial⟩|exact⟨h.cell 0,h.cell 1,h.cell 2,h.cell 3,trivial⟩|exact⟨h.cell 0,h.cell 1,h.cell 2,h.cell 3,h.cell 4,trivial⟩|exact⟨h.cell 0,h.cell 1,h.cell 2,h.cell 3,h.cell 4,h.cell 5,trivial⟩
theorem Ua{w W:Vz}{o:Obj}(h:w.alloc o=W):O (Bl w W):=by rw[<-h];exact(Below.refl _ _).alloc (Nat.le_refl _) _
theorem Ub{w W:Vz}{o p:Obj}(h:(w.alloc o).alloc p=W):O (Bl w W):=by rw[<-h];exact((Below.refl _ _).alloc (Nat.le_refl _) _).alloc (by simp) _
theorem Uc{w W:Vz}{t:Vr}{C:Vw}(h:w.alloc (.cells C t)=W):O (SB W w.heap.size t C):=by rw[<-h];exact SB.new w _ _
theorem Ud{w W:Vz}{t:Vr}{C:Vw}{o:Obj}(h:(w.alloc (.cells C t)).alloc o=W):O (SB W w.heap.size t C):=by rw[<-h];exact(SB.new w _ _).alloc _
theorem Ue{w W:Vz}{t:Vr}{C:Vw}{o:Obj}(h:(w.alloc o).alloc (.cells C t)=W):O (SB W (w.heap.size+1) t C):=Hi (by rw[<-h];have:=SB.new (w.alloc o) t C;simpa using this)
theorem Uf{w W:Vz}{B:Nat}{t:Vr}{C:Vw}(h:w.alloc (.cells C t)=W)(k:w.heap.size=B):O (SB W B t C):=k ▸ Uc h
theorem Ug{w W:Vz}{B:Nat}{t:Vr}{C:Vw}{o:Obj}(h:(w.alloc (.cells C t)).alloc o=W)(k:w.heap.size=B):O (SB W B t C):=k ▸ Ud h
theorem Uh{w W:Vz}{B:Nat}{t:Vr}{C:Vw}{o:Obj}(h:(w.alloc o).alloc (.cells C t)=W)(k:w.heap.size=B):O (SB W (B+1) t C):=k ▸ Ue h
theorem Qiy{C:Vw}{i:Nat}(h:i<C.size):∃v,C[i]?=some v:=⟨C[i],by simp[h]⟩
theorem Qpz(z:Int)(neg:Bool)(n:Nat)(a:z=if neg then -(n:Int) else (n:Int)):decide (z<0)=(neg && decide (0<n)):=by
 subst a;cases neg
 . simp
 .
  by_cases h:0<n
  . simp[h]
  .
   have:n=0:=by omega
   subst this;simp
theorem Qca(b o:Nat)(t:Vr)(C:Vw)(neg:Bool)(a:Vx)(c:Nat)(l:Vy)(n:Nat)(z:Int)(w:Vz)(g:SB w b t C)(v:NoInt C)(x:o+1<C.size)(s:U32 w a c l n)(u:z=if neg then -(n:Int) else (n:Int)):
 Calls prog 137 #[.pointer (some ⟨b,o,none⟩),.bool neg,.slice a l.length c] w fun e y=>e=.returned (.pointer (some ⟨b,o,none⟩))/\Laid w y b o t C z a c l:=by
 obtain⟨B,h⟩:=Qiy (C:=C) (i:=o) (by omega);obtain⟨D,j⟩:=Qiy (C:=C) (i:=o+1) x;have A:=g.cell o;have k1:=g.cell (o+1);rw[h] at A;rw[j] at k1;have f0:=g.free o;have f1:=g.free (o+1);have k:z.natAbs=n:=by rw[u];split<;>omega
 have m:=Qpz z neg n u;have f:decide (0<n)=decide (0<l.length):=by
  have:=s.num.len_zero (by decide);apply decide_eq_decide.2;omega
 obtain⟨r,p,q⟩:=Ib g k (m.trans (by rw[f]));clear g k m f u h j;cases neg
 .
  go_enter func137,ntmps137;go_wp2;go_ret;have d:Only b w ((w.setCell ⟨b,o+1,none⟩ (.slice a l.length c)).setCell ⟨b,o,none⟩ (.bool false)):=((Only.refl b w).setCell _ _).setCell _ _;refine⟨rfl,⟨?_,?_,d⟩⟩
  . rw[q.o];exact(r.o.set (o+1) _).set o _
  . rw[p.o];exact s.only d r.o v
 .
  go_enter func137,ntmps137;go_wp2;go_ret;have d:Only b w ((w.setCell ⟨b,o+1,none⟩ (.slice a l.length c)).setCell ⟨b,o,none⟩ (.bool (decide (0<l.length)))):=((Only.refl b w).setCell _ _).setCell _ _;refine⟨rfl,⟨?_,?_,d⟩⟩
  . rw[q.o];exact(r.o.set (o+1) _).set o _
  . rw[p.o];exact s.only d r.o v
def LaidOk(w:Vz)(b o:Nat)(t:Vr)(C:Vw)(z:Int)(e:Ending)(w':Vz):Prop:=
 e=.returned (.pointer (some ⟨b,o,none⟩))/\∃a cap l,Laid w w' b o t C z a cap l
theorem LaidOk.of{w w1 f:Vz}{b o:Nat}{t:Vr}{C:Vw}{z:Int}{e:Ending}(h:Only b w w1)(k:LaidOk w1 b o t C z e f):LaidOk w b o t C z e f:=by
 obtain⟨g,a,c,l,d⟩:=k;exact⟨g,a,c,l,⟨d.sb,d.num,h.trans d.only⟩⟩
theorem Qiz(b o:Nat)(t:Vr)(C:Vw)(z:Int)(w:Vz)(d:SB w b t C)(f:NoInt C)(m:o+1<C.size)(g:0<=z)(q:z<1000000):
 Calls prog 150 #[.pointer (some ⟨b,o,none⟩),.int .i64 z] w (LaidOk w b o t C z):=by
 obtain⟨n,rfl⟩:=Int.eq_ofNat_of_zero_le g;obtain⟨h,p⟩:=Ia d f;have i:¬((n:Int)<0):=by omega
 clear d f g;go_enter func150,ntmps150;go_wp2_with fail;refine(Qbn (n:Int) _ (by omega) (by omega)).mono ?_;rintro e w1 ⟨⟨a,c,l,rfl,j,_⟩,k⟩;rw[Int.toNat_natCast] at j;go_wp2_with fail;refine(Qca b o t C false a c l n n w1 (h.o.below k h.o.lt) p.o m j (by simp)).mono ?_;rintro e w2 ⟨rfl,hl⟩;go_wp2;go_ret;exact LaidOk.of (Only.of_below k) ⟨rfl,_,_,_,hl⟩
theorem Tryz.int_zero:NoInt #[Value.bool false,Value.slice none 0 0]:=by
 intro i k n
 match i with
 |0=>simp
 |1=>simp
 |i+2=>simp
def IntNew(w:Vz)(z:Int)(e:Ending)(w':Vz):Prop:=
 (∃b a cap l,e=.returned (.pointer (some ⟨b,0,none⟩))/\w.heap.size<=b/\SB w' b 121 #[.bool (decide (z<0)),.slice a l.length cap]/\U32 w' a cap l z.natAbs)/\Below w.heap.size w w'
theorem Qbu(z:Int)(w:Vz)(c:0<=z)(d:z<1000000):
 Calls prog 90 #[.int .i64 z] w (IntNew w z):=by
 go_enter func90,ntmps90;go_wp2_with fail;refine(Qiz w.heap.size 0 121 _ z _ (SB.new w 121 _) Tryz.int_zero (by simp) c d).mono ?_;rintro e w2 ⟨rfl,a,b,l,hl⟩;go_wp2;go_ret;exact⟨⟨w.heap.size,a,b,l,rfl,Nat.le_refl _,hl.sb,hl.num⟩,Only.fresh ((Below.refl _ w).alloc lZ _) hl.only lZ⟩
theorem U32.drew{w:Vz}{a:Vx}{b:Nat}{l:Vy}{n:Nat}(h:U32 w a b l n):U32 w.drew a b l n:=h.below bR.drew
theorem Qi1(X:Int):X=if decide (X<0)=true then -(X.natAbs:Int) else (X.natAbs:Int):=by
 by_cases h:X<0
 . simp[h];omega
 . simp[h];omega
theorem Qi2(i p:Nat)(t:Vr)(C:Vw)(b h:Nat)(X:Int)(a:Vx)(g:Nat)(l:Vy)(w:Vz)(r:SB w i t C)(s:NoInt C)(x:p+1<C.size)(j:IntAt w b h X a g l)(k:b≠i):
 Calls prog 133 #[.pointer (some ⟨i,p,none⟩),.pointer (some ⟨b,h,none⟩)] w (LaidOk w i p t C X):=by
 have y:=j.neg;have k1:=j.abs;have c:=j.lt;obtain⟨u,z,A⟩:=Ib r s j.num;clear r s j;go_enter func133,ntmps133;go_wp2;go_region_held3 (fun v=>v.cell? ⟨b,h,none⟩=some (.bool (decide (X<0)))/\v.cell? ⟨b,h+1,none⟩=some (.slice a l.length g)) ((simp [*]))
  (first
    |(go_at_call 191;refine(Qe2 a g l X.natAbs _ ?_).mono ?_;exact A.o.drew;rintro e w1 ⟨⟨B,m,rfl,n⟩,d⟩;have D:=ce d c y;have c1:=ce d c k1;have q:=Hi n;have f:=Hi ((Below.refl w.heap.size w).drew.trans d);clear n d)
    |(go_at_call 137;refine(Qca i p t C _ B m l X.natAbs X _ ?_ z.o x q.o ?_).mono ?_;exact u.o.below f.o u.o.lt;exact Qi1 X;rintro e w2 ⟨rfl,hl⟩;have d0:=(World.cell?_of_block (a:=⟨b,h,none⟩) (hl.only.block b (Nat.lt_of_lt_of_le c f.o.size) k)).trans D;have d1:=(World.cell?_of_block (a:=⟨b,h+1,none⟩) (hl.only.block b (Nat.lt_of_lt_of_le c f.o.size) k)).trans c1;have E:=Hi hl;clear hl))
 go_wp2;go_ret;exact LaidOk.of (Only.of_below f.o) ⟨rfl,_,_,_,E.o⟩
def sgn(neg:Bool)(n:Nat):Int:=if neg then -(n:Int) else (n:Int)
theorem Qi3(X:Int):sgn (decide (X<0)) X.natAbs=X:=(Qi1 X).symm
theorem Qdx(neg:Bool)(n:Nat):(sgn neg n).natAbs=n:=by unfold sgn;split<;>omega
theorem Qp0(f g:Bool)(h i:Vx)(c1 c2:Nat)(l m:Vy)(x y:Nat)(w:Vz)(z:U32 w h c1 l x)(A:U32 w i c2 m y)(hl:l.length<1099511627776)(C:m.length<1099511627776):
 Calls prog 193 #[.bool f,.slice h l.length c1,.bool g,.slice i m.length c2] w fun e B=>(∃neg a c r n,e=.returned (.tuple #[.bool neg,.slice a r.length c])/\U32 B a c r n/\sgn neg n=sgn f x+sgn g y)/\Below w.heap.size w B:=by
 obtain⟨k,p⟩:=Ia z A;clear z A;by_cases d:f=g
 .
  subst d;have D:(f == f)=true:=by simp
  go_enter func193,ntmps193;go_wp2_with fail;refine(Qhe h i c1 c2 l m x y _ k.o p.o hl C).mono ?_;rintro e w1 ⟨⟨a,c,r,rfl,q⟩,s⟩;go_wp2;go_ret2;exact⟨⟨f,a,c,r,x+y,rfl,q,by unfold sgn;split<;>omega⟩,s⟩
 .
  have D:(f == g)=false:=by simp[d]
  by_cases t:cmp3 x y<0
  .
   have E:=(Qav x y).1 t;have j:=Hi d;have u:¬(0<=cmp3 x y):=by omega
   clear d t;go_enter func193,ntmps193;go_wp2_with fail;refine(Qbc h i c1 c2 l m x y _ k.o p.o).mono ?_;rintro e w1 ⟨rfl,b⟩;go_wp2_with fail;refine(Qhj i h c2 c1 m l y x _ (p.o.below b) (k.o.below b) (by omega)).mono ?_;rintro e w2 ⟨⟨a,c,r,rfl,q⟩,s⟩;go_wp2;go_ret2;refine⟨⟨g,a,c,r,y - x,rfl,q,?_⟩,b.trans (s.mono b.size)⟩;have:=j.o;unfold sgn;cases f<;>cases g<;>simp at this ⊢ <;>omega
  .
   have v:y<=x:=by have:=(Qav x y);omega
   have j:=Hi d;have u:0<=cmp3 x y:=by omega
   clear d t;go_enter func193,ntmps193;go_wp2_with fail;refine(Qbc h i c1 c2 l m x y _ k.o p.o).mono ?_;rintro e w1 ⟨rfl,b⟩;go_wp2_with fail;refine(Qhj h i c1 c2 l m x y _ (k.o.below b) (p.o.below b) v).mono ?_;rintro e w2 ⟨⟨a,c,r,rfl,q⟩,s⟩;go_wp2;go_ret2;refine⟨⟨f,a,c,r,x - y,rfl,q,?_⟩,b.trans (s.mono b.size)⟩;have:=j.o;unfold sgn;cases f<;>cases g<;>simp at this ⊢ <;>omega
theorem Qp1{neg:Bool}{n:Nat}{Z:Int}(h:sgn neg n=Z):Z=if neg=true then -(n:Int) else (n:Int):=by
 rw[<-h];unfold sgn;cases neg<;>rfl
theorem Qp2(X Y:Int):X*Y=if (decide (X<0) != decide (Y<0))=true then -((X.natAbs*Y.natAbs:Nat):Int) else ((X.natAbs*Y.natAbs:Nat):Int):=by
 rw[Int.natCast_mul];by_cases h:X<0
 .
  by_cases k:Y<0
  . rw[if_neg (by simp[h,k]),show ((X.natAbs:Nat):Int)= -X from by omega,show ((Y.natAbs:Nat):Int)= -Y from by omega,Int.neg_mul_neg]
  . rw[if_pos (by simp[h,k]),show ((X.natAbs:Nat):Int)= -X from by omega,show ((Y.natAbs:Nat):Int)=Y from by omega,Int.neg_mul,Int.neg_neg]
 .
  by_cases k:Y<0
  . rw[if_pos (by simp[h,k]),show ((X.natAbs:Nat):Int)=X from by omega,show ((Y.natAbs:Nat):Int)= -Y from by omega,Int.mul_neg,Int.neg_neg]
  . rw[if_neg (by simp[h,k]),show ((X.natAbs:Nat):Int)=X from by omega,show ((Y.natAbs:Nat):Int)=Y from by omega]
theorem Qp3(n z:Nat)(t:Vr)(C:Vw)(g p:Nat)(X:Int)(a:Vx)(k:Nat)(l:Vy)(h q:Nat)(Y:Int)(b:Vx)(cap':Nat)(m:Vy)(w:Vz)(E:SB w n t C)(F:NoInt C)(I:z+1<C.size)(r:IntAt w g p X a k l)(s:IntAt w h q Y b cap' m)(u:g≠n)(j:h≠n)(J:l.length+m.length<1099511627770):
 Calls prog 134 #[.pointer (some ⟨n,z,none⟩),.pointer (some ⟨g,p,none⟩),.pointer (some ⟨h,q,none⟩)] w (LaidOk w n z t C (X+Y)):=by
 have K:=r.neg;have k1:=r.abs;have L:=s.neg;have M:=s.abs;have i:=r.lt;have c:=s.lt;obtain⟨G,N,O,P⟩:=Ic E F r.num s.num;clear E F r s;go_enter func134,ntmps134;go_wp2;go_region_held3 (fun A=>A.cell? ⟨g,p,none⟩=some (.bool (decide (X<0)))/\A.cell? ⟨g,p+1,none⟩=some (.slice a l.length k)/\A.cell? ⟨h,q,none⟩=some (.bool (decide (Y<0)))/\A.cell? ⟨h,q+1,none⟩=some (.slice b m.length cap')) ((simp [*]))
  (first
    |(go_at_call 193;refine(Qp0 (decide (X<0)) (decide (Y<0)) a b k cap' l m X.natAbs Y.natAbs _ ?_ ?_ ?_ ?_).mono ?_;exact O.o.drew;exact P.o.drew;omega;omega;rintro e w1 ⟨⟨H,Q,v,R,n1,rfl,x,y⟩,d⟩;have B:=Hi y;clear y;have S:=ce d i K;have c1:=ce d i k1;have c2:=ce d c L;have c3:=ce d c M;have D:=Hi x;have f:=Hi ((Below.refl w.heap.size w).drew.trans d);clear x d)
    |(go_at_call 137;refine(Qca n z t C _ Q v R n1 (X+Y) _ ?_ N.o I D.o ?_).mono ?_;exact G.o.below f.o G.o.lt;exact Qp1 (B.o.trans (by rw[Qi3,Qi3]));rintro e w2 ⟨rfl,hl⟩;have d0:=(World.cell?_of_block (a:=⟨g,p,none⟩) (hl.only.block g (Nat.lt_of_lt_of_le i f.o.size) u)).trans S;have d1:=(World.cell?_of_block (a:=⟨g,p+1,none⟩) (hl.only.block g (Nat.lt_of_lt_of_le i f.o.size) u)).trans c1;have d2:=(World.cell?_of_block (a:=⟨h,q,none⟩) (hl.only.block h (Nat.lt_of_lt_of_le c f.o.size) j)).trans c2;have d3:=(World.cell?_of_block (a:=⟨h,q+1,none⟩) (hl.only.block h (Nat.lt_of_lt_of_le c f.o.size) j)).trans c3;have T:=Hi hl;clear hl))
 go_wp2;go_ret;exact LaidOk.of (Only.of_below f.o) ⟨rfl,_,_,_,T.o⟩
theorem Qp4(q z:Nat)(t:Vr)(C:Vw)(g r:Nat)(X:Int)(a:Vx)(k:Nat)(l:Vy)(h s:Nat)(Y:Int)(b:Vx)(cap':Nat)(m:Vy)(w:Vz)(E:SB w q t C)(F:NoInt C)(H:z+1<C.size)(u:IntAt w g r X a k l)(v:IntAt w h s Y b cap' m)(x:g≠q)(j:h≠q)(I:l.length+m.length<1099511627770):
 Calls prog 82 #[.pointer (some ⟨q,z,none⟩),.pointer (some ⟨g,r,none⟩),.pointer (some ⟨h,s,none⟩)] w (LaidOk w q z t C (X*Y)):=by
 have J:=u.neg;have k1:=u.abs;have K:=v.neg;have L:=v.abs;have i:=u.lt;have c:=v.lt;obtain⟨G,M,N,O⟩:=Ic E F u.num v.num;clear E F u v;go_enter func82,ntmps82;go_wp2;go_region_held3 (fun A=>A.cell? ⟨g,r,none⟩=some (.bool (decide (X<0)))/\A.cell? ⟨g,r+1,none⟩=some (.slice a l.length k)/\A.cell? ⟨h,s,none⟩=some (.bool (decide (Y<0)))/\A.cell? ⟨h,s+1,none⟩=some (.slice b m.length cap')) ((simp [*]))
  (first
    |(go_at_call 138;refine(Qhh a b k cap' l m X.natAbs Y.natAbs _ ?_ ?_ ?_).mono ?_;exact N.o.drew;exact O.o.drew;omega;rintro e w1 ⟨⟨P,y,Q,rfl,n⟩,d⟩;obtain⟨n1,p⟩:=nm (X.natAbs*Y.natAbs);rw[p] at n;have B:=Hi p;clear p;have R:=ce d i J;have c1:=ce d i k1;have c2:=ce d c K;have c3:=ce d c L;have D:=Hi n;have f:=Hi ((Below.refl w.heap.size w).drew.trans d);clear n d)
    |(go_at_call 137;refine(Qca q z t C _ P y Q n1 (X*Y) _ ?_ M.o H D.o ?_).mono ?_;exact G.o.below f.o G.o.lt;exact(by rw[<-B.o];exact Qp2 X Y);rintro e w2 ⟨rfl,hl⟩;have d0:=(World.cell?_of_block (a:=⟨g,r,none⟩) (hl.only.block g (Nat.lt_of_lt_of_le i f.o.size) x)).trans R;have d1:=(World.cell?_of_block (a:=⟨g,r+1,none⟩) (hl.only.block g (Nat.lt_of_lt_of_le i f.o.size) x)).trans c1;have d2:=(World.cell?_of_block (a:=⟨h,s,none⟩) (hl.only.block h (Nat.lt_of_lt_of_le c f.o.size) j)).trans c2;have d3:=(World.cell?_of_block (a:=⟨h,s+1,none⟩) (hl.only.block h (Nat.lt_of_lt_of_le c f.o.size) j)).trans c3;have S:=Hi hl;clear hl))
 go_wp2;go_ret;exact LaidOk.of (Only.of_below f.o) ⟨rfl,_,_,_,S.o⟩
end Go.Proofs.YtkkadnoecklepaaGreatDoor
