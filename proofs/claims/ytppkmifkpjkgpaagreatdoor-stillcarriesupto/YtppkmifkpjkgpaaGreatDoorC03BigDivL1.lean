import Derived.Test.YtppkmifkpjkgpaaGreatDoorC02BigDivL3
namespace Go.Proofs.YtppkmifkpjkgpaaGreatDoor
open Go.RowKit
open Go.Proofs.Tryz
set_option linter.unusedSimpArgs false
set_option linter.unusedVariables false
set_option maxHeartbeats 8000000
set_option maxRecDepth 1000000
def GuessExit(Qx:Exit->Act->World->Prop)(w3:Vz)(bv ov cv gu gq n j L v1 v0 Q:Nat)(v us qs:Vy)(x10 x15:Value):Prop:=
 ∀(g:Nat) {s0 s1 s2 s3 s4 s5 s6 s7 s8 s9 s14 s19 s21 s22 s23 s24 s25 s26 s27 s28 s29 s30 s31 s32 s33 s34 s35 s36 s37 s38 s39 s40 s41 s42 s43 s44 s45 s46 s47 s48 s49 s50 s51 s52 s53 s54 s55 s56 s57 s58 s59 s60 s61 s62 s63 s64 s65 s66 s67 s68 s69 s70 s71 s72 s73 s74 s75 s76 s77 s78 s79 s80 s81 s82 s83 s84 s85 s86 s87 s88 s89 s90 s91 s92 s93 s94 s95 s96 s97 s98 s99 s100 s101 s102 s103 s104 s105 s106 s107 s108 s109 s110 s111 s112 s113 s114 s115 s116 s117 s118 s119 s120 s121 s122 s123 s124 s125 s126 s127 s128 s129 s130 s131 s132 s133 s134 s135 s136 s137 s138 s139 s140 s141 s142 s143 s144 s145 s146 s147 s148 s149 s150 s151 s152 s153 s154 s155 s156 s157 s158 s159 s160 s161 s162 s163 s164 s165 s166 s167 s168 s169 s170 s171 s172 s173 s174 s175 s176 s177 s178 s179 s180 s181 s182 s183 s184 s185 s186 s187 s188 s189 s190 s191 s192 s193 s194 s195 s196 s197 s198 s199 s200 s201 s202 s203 s204 s205 s206 s207 s208 s209 s210 s211 s212 s213 s214 s215 s216 s217 s218 s219 s220 s221 s222 s223 s224 s225 s226 s227 s228 s229 s230 s231 s232 s233 s234 s235 s236 s237 s238 s239 s240 s241 s242 s243 s244 s245 s246 s247 s248 s249 s250 s251 s252 s253 s254 s255 s256 s257 s258 s259 s260 s261 s262 s263 s264 s265 s266 s267 s268 s269 s270 s271 s272:Value} (wr:Vz),DivMem w3 wr bv ov gu gq n L v us qs->g<4294967296->Q<=g->g<=Q+1->
    Qx (.exit 2) ⟨#[s0,s1,s2,s3,s4,s5,s6,s7,s8,s9,x10,.slice (some ⟨bv,ov,none⟩) (n+2) cv,.slice (some ⟨gu,0,none⟩) L L,.int .i64 ((n:Int)+2),s14,x15,.int .u64 (v1:Int),.int .u64 (v0:Int),.int .i64 (j:Int),s19,.int .u64 (g:Int),s21,s22,s23,s24,s25,s26,s27,s28,s29,s30,s31,s32,s33,s34,s35,s36,s37,s38,s39,s40,s41,s42,s43,s44,s45,s46,s47,s48,s49,s50,s51,s52,s53,s54,s55,s56,s57,s58,s59,s60,s61,s62,s63,s64,s65,s66,s67,s68,s69,s70,s71,s72,s73,s74,s75,s76,s77,s78,s79,s80,s81,s82,s83,s84,s85,s86,s87,s88,s89,s90,s91,s92,s93,s94,s95,s96,s97,s98,s99,s100,s101,s102,s103,s104,s105,s106,s107,s108,s109,s110,s111,s112,s113,s114,s115,s116,s117,s118,s119,s120,s121,s122,s123,s124,s125,s126,s127,s128,s129,s130,s131,s132,s133,s134,s135,s136,s137,s138,s139,s140,s141,s142,s143,s144,s145,s146,s147,s148,s149,s150,s151,s152,s153,s154,s155,s156,s157,s158,s159,s160,s161,s162,s163,s164,s165,s166,s167,s168,s169,s170,s171,s172,s173,s174,s175,s176,s177,s178,s179,s180,s181,s182,s183,s184,s185,s186,s187,s188,s189,s190,s191,s192,s193,s194,s195,s196,s197,s198,s199,s200,s201,s202,s203,s204,s205,s206,s207,s208,s209,s210,s211,s212,s213,s214,s215,s216,s217,s218,s219,s220,s221,s222,s223,s224,s225,s226,s227,s228,s229,s230,s231,s232,s233,s234,s235,s236,s237,s238,s239,s240,s241,s242,s243,s244,s245,s246,s247,s248,s249,s250,s251,s252,s253,s254,s255,s256,s257,s258,s259,s260,s261,s262,s263,s264,s265,s266,s267,s268,s269,s270,s271,s272],[]⟩ wr
def GuessAt(Qx:Exit->Act->World->Prop)(w3:Vz)(bv ov cv gu gq n j L v1 v0 Q hh:Nat)(v us qs:Vy)(x10 x15:Value)(t:Nat):Prop:=
 ∀(g r:Nat) {s0 s1 s2 s3 s4 s5 s6 s7 s8 s9 s14 s19 s22 s23 s24 s25 s26 s27 s28 s29 s30 s31 s32 s33 s34 s35 s36 s37 s38 s39 s40 s41 s42 s43 s44 s45 s46 s47 s48 s49 s50 s51 s52 s53 s54 s55 s56 s57 s58 s59 s60 s61 s62 s63 s64 s65 s66 s67 s68 s69 s70 s71 s72 s73 s74 s75 s76 s77 s78 s79 s80 s81 s82 s83 s84 s85 s86 s87 s88 s89 s90 s91 s92 s93 s94 s95 s96 s97 s98 s99 s100 s101 s102 s103 s104 s105 s106 s107 s108 s109 s110 s111 s112 s113 s114 s115 s116 s117 s118 s119 s120 s121 s122 s123 s124 s125 s126 s127 s128 s129 s130 s131 s132 s133 s134 s135 s136 s137 s138 s139 s140 s141 s142 s143 s144 s145 s146 s147 s148 s149 s150 s151 s152 s153 s154 s155 s156 s157 s158 s159 s160 s161 s162 s163 s164 s165 s166 s167 s168 s169 s170 s171 s172 s173 s174 s175 s176 s177 s178 s179 s180 s181 s182 s183 s184 s185 s186 s187 s188 s189 s190 s191 s192 s193 s194 s195 s196 s197 s198 s199 s200 s201 s202 s203 s204 s205 s206 s207 s208 s209 s210 s211 s212 s213 s214 s215 s216 s217 s218 s219 s220 s221 s222 s223 s224 s225 s226 s227 s228 s229 s230 s231 s232 s233 s234 s235 s236 s237 s238 s239 s240 s241 s242 s243 s244 s245 s246 s247 s248 s249 s250 s251 s252 s253 s254 s255 s256 s257 s258 s259 s260 s261 s262 s263 s264 s265 s266 s267 s268 s269 s270 s271 s272:Value} (wr:Vz),g<=t->DivMem w3 wr bv ov gu gq n L v us qs->g<18446744073709551616->r<4294967296->g*v1+r=hh->Q<=g->
    Code.rounds prog (((Tryz.f157.body.map loopsIn).getD []).getD 1 .skip) Qx (t+1) ⟨#[s0,s1,s2,s3,s4,s5,s6,s7,s8,s9,x10,.slice (some ⟨bv,ov,none⟩) (n+2) cv,.slice (some ⟨gu,0,none⟩) L L,.int .i64 ((n:Int)+2),s14,x15,.int .u64 (v1:Int),.int .u64 (v0:Int),.int .i64 (j:Int),s19,.int .u64 (g:Int),.int .u64 (r:Int),s22,s23,s24,s25,s26,s27,s28,s29,s30,s31,s32,s33,s34,s35,s36,s37,s38,s39,s40,s41,s42,s43,s44,s45,s46,s47,s48,s49,s50,s51,s52,s53,s54,s55,s56,s57,s58,s59,s60,s61,s62,s63,s64,s65,s66,s67,s68,s69,s70,s71,s72,s73,s74,s75,s76,s77,s78,s79,s80,s81,s82,s83,s84,s85,s86,s87,s88,s89,s90,s91,s92,s93,s94,s95,s96,s97,s98,s99,s100,s101,s102,s103,s104,s105,s106,s107,s108,s109,s110,s111,s112,s113,s114,s115,s116,s117,s118,s119,s120,s121,s122,s123,s124,s125,s126,s127,s128,s129,s130,s131,s132,s133,s134,s135,s136,s137,s138,s139,s140,s141,s142,s143,s144,s145,s146,s147,s148,s149,s150,s151,s152,s153,s154,s155,s156,s157,s158,s159,s160,s161,s162,s163,s164,s165,s166,s167,s168,s169,s170,s171,s172,s173,s174,s175,s176,s177,s178,s179,s180,s181,s182,s183,s184,s185,s186,s187,s188,s189,s190,s191,s192,s193,s194,s195,s196,s197,s198,s199,s200,s201,s202,s203,s204,s205,s206,s207,s208,s209,s210,s211,s212,s213,s214,s215,s216,s217,s218,s219,s220,s221,s222,s223,s224,s225,s226,s227,s228,s229,s230,s231,s232,s233,s234,s235,s236,s237,s238,s239,s240,s241,s242,s243,s244,s245,s246,s247,s248,s249,s250,s251,s252,s253,s254,s255,s256,s257,s258,s259,s260,s261,s262,s263,s264,s265,s266,s267,s268,s269,s270,s271,s272],[]⟩ wr
structure GuessOk (n j L v1 v0 u0 Q hh:Nat) (us:Vy):Prop where
 o1:L<=1099511627776
 o2:j+(n+2)<L
 o3:1<=v1
 o4:v1<4294967296
 o5:v0<4294967296
 o6:us.getD (j+n) 0=u0
 o7:u0<4294967296
 o8:Q<4294967296
 down:∀g r,g*v1+r=hh->r*4294967296+u0<g*v0->Q<g
 done:∀g r,g*v1+r=hh->g<4294967296->g*v0<=r*4294967296+u0->g<=Q+1
 brk:∀g r,g*v1+r=hh->4294967296<=r->g<4294967296
theorem Qhi(Qx:Exit->Act->World->Prop)(w3:Vz)(bv ov cv gu gq n j L v1 d a Q hh:Nat)(v us qs:Vy)(e f:Value)(ok:GuessOk n j L v1 d a Q hh us)
 (b:GuessExit Qx w3 bv ov cv gu gq n j L v1 d Q v us qs e f) (t g r:Nat) {s0 s1 s2 s3 s4 s5 s6 s7 s8 s9 eq er es et eu ev ew ex ey ez e0 e1 e2 e3 e4 e5 e6 e7 e8 e9 fa fb fc fd fe ff fg fh fi fj fk fl fm fn fo fp fq fr fs ft fu fv fw fx fy fz ga gb gc gd ge gf gg gh gj gk gl gm gn gp gr gs gt gv gw gx gy gz g0 g1 g2 g3 g4 g5 g6 g7 g8 g9 ha hb h i k l m q s u w x y z A B C D E F G H I J K M N O P R S U V W X Y Z aa ab ad ae af ag ah ai aj ak al am an ao ap aq ar au av aw ax ay az a0 a1 a2 a3 a4 a5 a6 a7 a8 a9 ba bb bc bd be bf bg bh bi bj bk bl bm bn bo bp bq br bs bt bu bw bx bz b0 b1 b2 b3 b4 b5 b6 b7 b8 b9 ca cb cc cd ce cf cg ch ci cj ck cl cm cn cp cq cr cs ct cu cw cx cy cz c0 c1 c2 c3 c4 c5 c6 c7 c8 c9 da db dc dd de df dg dh di dj dk dl dm dn dp dq dr ds dt du dv dw dx dy dz ea eb ec ed ee ef eg eh ei ej ek em:Value} (wr:Vz) (hm:DivMem w3 wr bv ov gu gq n L v us qs) (hr:r<4294967296) (en:g*v1+r=hh) (hQ:Q<=g)
 (hg:g<4294967296) (hc:g*d<=r*4294967296+a):
   Code.rounds prog (((Tryz.f157.body.map loopsIn).getD []).getD 1 .skip) Qx (t+1) ⟨#[s0,s1,s2,s3,s4,s5,s6,s7,s8,s9,e,.slice (some ⟨bv,ov,none⟩) (n+2) cv,.slice (some ⟨gu,0,none⟩) L L,.int .i64 ((n:Int)+2),eq,f,.int .u64 (v1:Int),.int .u64 (d:Int),.int .i64 (j:Int),er,.int .u64 (g:Int),.int .u64 (r:Int),es,et,eu,ev,ew,ex,ey,ez,e0,e1,e2,e3,e4,e5,e6,e7,e8,e9,fa,fb,fc,fd,fe,ff,fg,fh,fi,fj,fk,fl,fm,fn,fo,fp,fq,fr,fs,ft,fu,fv,fw,fx,fy,fz,ga,gb,gc,gd,ge,gf,gg,gh,gj,gk,gl,gm,gn,gp,gr,gs,gt,gv,gw,gx,gy,gz,g0,g1,g2,g3,g4,g5,g6,g7,g8,g9,ha,hb,h,i,k,l,m,q,s,u,w,x,y,z,A,B,C,D,E,F,G,H,I,J,K,M,N,O,P,R,S,U,V,W,X,Y,Z,aa,ab,ad,ae,af,ag,ah,ai,aj,ak,al,am,an,ao,ap,aq,ar,au,av,aw,ax,ay,az,a0,a1,a2,a3,a4,a5,a6,a7,a8,a9,ba,bb,bc,bd,be,bf,bg,bh,bi,bj,bk,bl,bm,bn,bo,bp,bq,br,bs,bt,bu,bw,bx,bz,b0,b1,b2,b3,b4,b5,b6,b7,b8,b9,ca,cb,cc,cd,ce,cf,cg,ch,ci,cj,ck,cl,cm,cn,cp,cq,cr,cs,ct,cu,cw,cx,cy,cz,c0,c1,c2,c3,c4,c5,c6,c7,c8,c9,da,db,dc,dd,de,df,dg,dh,di,dj,dk,dl,dm,dn,dp,dq,dr,ds,dt,du,dv,dw,dx,dy,dz,ea,eb,ec,ed,ee,ef,eg,eh,ei,ej,ek,em],[]⟩ wr:=by
 obtain⟨o1,o2,o3,o4,o5,o6,o7,o8,o9,eo,hd⟩:=ok;have he:=hm.ul;have k2:=hm.ub.cell (j+(n+2) - 2) (by omega);rw[show us.getD (j+(n+2) - 2) 0=a from by rw[show j+(n+2) - 2=j+n from by omega];exact o6] at k2;have ep:=eo g r en hg hc;have HM:=Hi hm;have hp:=Qds hg o5;obtain⟨p,c⟩:∃p:Nat,g*d=p:=⟨_,rfl⟩;have hf:p<=18446744065119617025:=by rw[<-c];exact hp
 have r1:(g:Int)*(d:Int)=(p:Int):=by rw[<-c];simp
 obtain⟨T,hT⟩:∃T:Nat,4294967296*r+a=T:=⟨_,rfl⟩;have hi:bits .or .u64 ((r:Int)*4294967296) (a:Int)=(T:Int):=by
  rw[or64 ((r:Int)*4294967296) (a:Int) r a 32 (by omega) rfl o7 (by omega)];omega
 have hj:T<18446744073709551616:=by omega
 have hk:¬((T:Int)<(p:Int)):=by omega
 have hl:¬(4294967295:Int)<(g:Int):=by omega
 clear o9 eo hd hm hp c hT hc o6 en;rw[rounds_succ]
 conv=>arg 2;whnf
 go_wp2;exact b _ _ HM.o hg hQ ep
theorem Qmm(Qx:Exit->Act->World->Prop)(w3:Vz)(bv ov cv gu gq n j L b v0 u0 Q hh:Nat)(v us qs:Vy)(e f:Value)(ok:GuessOk n j L b v0 u0 Q hh us)
 (h:GuessExit Qx w3 bv ov cv gu gq n j L b v0 Q v us qs e f) (t g r:Nat) (ih:GuessAt Qx w3 bv ov cv gu gq n j L b v0 Q hh v us qs e f t) {s0 s1 s2 s3 s4 s5 s6 s7 s8 s9 eu ev ew ex ey ez e0 e3 e4 e5 e6 e7 e8 e9 fa fb fc fd fe ff fg fh fi fj fk fl fm fn fo fp fq fr fs ft fu fv fw fx fy fz ga gb gc gd ge gf gg gh gj gk gl gm gn gp gr gs gt gv gw gx gy gz g0 g2 g3 g4 g5 g6 g7 g8 g9 ha hc hd he hf hi hj hk hl p q s u w x y z A B C D E F G H I J K M N O P R S T U V W X Y Z aa ab ad ae af ag ah ai aj ak al am an ao ap aq ar au av aw ax ay az a0 a1 a2 a3 a4 a5 a6 a7 a8 a9 ba bb bc bd be bf bg bh bi bj bk bl bm bn bo bp bq br bs bt bu bw bx bz b0 b1 b2 b3 b4 b5 b6 b7 b8 b9 ca cb cc cd ce cf cg ch ci cj ck cl cm cn cp cq cr cs ct cu cw cx cy cz c0 c1 c2 c3 c4 c5 c6 c7 c8 c9 da db dc dd de df dg dh di dj dk dl dm dn dp dq dr ds dt du dv dw dx dy dz ea eb ec ed ee ef eh ei ej ek em en eo ep eq:Value} (wr:Vz) (es:g<=t+1) (hm:DivMem w3 wr bv ov gu gq n L v us qs) (hg:g<18446744073709551616) (hr:r<4294967296) (i:g*b+r=hh) (hQ:Q<=g)
 (et:4294967296<=g):
   Code.rounds prog (((Tryz.f157.body.map loopsIn).getD []).getD 1 .skip) Qx (t+1+1) ⟨#[s0,s1,s2,s3,s4,s5,s6,s7,s8,s9,e,.slice (some ⟨bv,ov,none⟩) (n+2) cv,.slice (some ⟨gu,0,none⟩) L L,.int .i64 ((n:Int)+2),eu,f,.int .u64 (b:Int),.int .u64 (v0:Int),.int .i64 (j:Int),ev,.int .u64 (g:Int),.int .u64 (r:Int),ew,ex,ey,ez,e0,e3,e4,e5,e6,e7,e8,e9,fa,fb,fc,fd,fe,ff,fg,fh,fi,fj,fk,fl,fm,fn,fo,fp,fq,fr,fs,ft,fu,fv,fw,fx,fy,fz,ga,gb,gc,gd,ge,gf,gg,gh,gj,gk,gl,gm,gn,gp,gr,gs,gt,gv,gw,gx,gy,gz,g0,g2,g3,g4,g5,g6,g7,g8,g9,ha,hc,hd,he,hf,hi,hj,hk,hl,p,q,s,u,w,x,y,z,A,B,C,D,E,F,G,H,I,J,K,M,N,O,P,R,S,T,U,V,W,X,Y,Z,aa,ab,ad,ae,af,ag,ah,ai,aj,ak,al,am,an,ao,ap,aq,ar,au,av,aw,ax,ay,az,a0,a1,a2,a3,a4,a5,a6,a7,a8,a9,ba,bb,bc,bd,be,bf,bg,bh,bi,bj,bk,bl,bm,bn,bo,bp,bq,br,bs,bt,bu,bw,bx,bz,b0,b1,b2,b3,b4,b5,b6,b7,b8,b9,ca,cb,cc,cd,ce,cf,cg,ch,ci,cj,ck,cl,cm,cn,cp,cq,cr,cs,ct,cu,cw,cx,cy,cz,c0,c1,c2,c3,c4,c5,c6,c7,c8,c9,da,db,dc,dd,de,df,dg,dh,di,dj,dk,dl,dm,dn,dp,dq,dr,ds,dt,du,dv,dw,dx,dy,dz,ea,eb,ec,ed,ee,ef,eh,ei,ej,ek,em,en,eo,ep,eq],[]⟩ wr:=by
 obtain⟨o1,o2,o3,o4,o5,o6,o7,o8,o9,k,l⟩:=ok;obtain⟨c,m⟩:∃c,g=c+1:=⟨g - 1,by omega⟩;have a:c*b+(r+b)=hh:=by rw[<-i,m,Nat.add_mul];omega
 have eg:(g:Int) - 1=(c:Int):=by omega
 have er:(r:Int)+(b:Int)=((r+b:Nat):Int):=by omega
 obtain⟨EG,ER,d,HM,hn⟩:=Id eg er m hm a;have hp:(4294967295:Int)<(g:Int):=by omega
 clear m eg er;by_cases hb:4294967296<=r+b
 .
  have e1:=l c (r+b) a hb;have e2:=k c (r+b) a e1 (Qiz _ _ _ _ _ e1 o5 hb);obtain⟨E1,E2⟩:=Ia e1 e2;have ho:(4294967295:Int)<(r:Int)+(b:Int):=by omega
  have HQ:=Hi (show Q<=c by have:=d.o;omega);clear o9 k l hm o6 i a e1 e2 hb et es hQ;rw[rounds_succ]
  conv=>arg 2;whnf
  go_wp2;rw[EG.o];exact h c _ HM.o E1.o HQ.o E2.o
 .
  have ho:¬(4294967295:Int)<(r:Int)+(b:Int):=by omega
  obtain⟨HQ,HT,HB⟩:=Ib (show Q<=c by have:=d.o;omega) (show c<=t by have:=d.o;omega) (show r+b<4294967296 by omega);clear o9 k l hm o6 i a et es hQ hb;rw[rounds_succ]
  conv=>arg 2;whnf
  go_wp2;rw[EG.o,ER.o];exact ih c (r+b) _ HT.o HM.o (by have:=d.o;omega) HB.o hn.o HQ.o
theorem Qmn(Qx:Exit->Act->World->Prop)(w3:Vz)(bv ov cv gu gq n j L b h i Q hh:Nat)(v us qs:Vy)(k l:Value)(ok:GuessOk n j L b h i Q hh us)
 (m:GuessExit Qx w3 bv ov cv gu gq n j L b h Q v us qs k l) (t g r:Nat) (ih:GuessAt Qx w3 bv ov cv gu gq n j L b h Q hh v us qs k l t) {s0 s1 s2 s3 s4 s5 s6 s7 s8 s9 ey ez e0 e3 e4 e5 e6 e7 e8 e9 fa fb fc fd fe ff fg fh fi fj fk fl fm fn fo fp fq fr fs ft fu fv fw fx fy fz ga gb gc gd ge gf gg gh gj gk gl gm gn gp gr gs gt gv gw gx gy gz g0 g2 g3 g4 g5 g6 g7 g8 g9 ha hd he hf hi hj hk hl hn ho hq hs ht w x y z A B C D E F G H I J K M N O P R S U V W X Y Z aa ab ad ae af ag ah ai aj ak al am an ao ap aq ar au av aw ax ay az a0 a1 a2 a3 a4 a5 a6 a7 a8 a9 ba bb bc bd be bf bg bh bi bj bk bl bm bn bo bp bq br bs bt bu bw bx bz b0 b1 b2 b3 b4 b5 b6 b7 b8 b9 ca cb cc cd ce cf cg ch ci cj ck cl cm cn cp cq cr cs ct cu cw cx cy cz c0 c1 c2 c3 c4 c5 c6 c7 c8 c9 da db dc dd de df dg dh di dj dk dl dm dn dp dq dr ds dt du dv dw dx dy dz ea eb ec ed ee ef eh ei ej ek em en eo ep eq es et eu ev ew:Value} (wr:Vz) (ex:g<=t+1) (hm:DivMem w3 wr bv ov gu gq n L v us qs) (hr:r<4294967296) (d:g*b+r=hh) (hQ:Q<=g)
 (hg:g<4294967296) (hc:r*4294967296+i<g*h):
   Code.rounds prog (((Tryz.f157.body.map loopsIn).getD []).getD 1 .skip) Qx (t+1+1) ⟨#[s0,s1,s2,s3,s4,s5,s6,s7,s8,s9,k,.slice (some ⟨bv,ov,none⟩) (n+2) cv,.slice (some ⟨gu,0,none⟩) L L,.int .i64 ((n:Int)+2),ey,l,.int .u64 (b:Int),.int .u64 (h:Int),.int .i64 (j:Int),ez,.int .u64 (g:Int),.int .u64 (r:Int),e0,e3,e4,e5,e6,e7,e8,e9,fa,fb,fc,fd,fe,ff,fg,fh,fi,fj,fk,fl,fm,fn,fo,fp,fq,fr,fs,ft,fu,fv,fw,fx,fy,fz,ga,gb,gc,gd,ge,gf,gg,gh,gj,gk,gl,gm,gn,gp,gr,gs,gt,gv,gw,gx,gy,gz,g0,g2,g3,g4,g5,g6,g7,g8,g9,ha,hd,he,hf,hi,hj,hk,hl,hn,ho,hq,hs,ht,w,x,y,z,A,B,C,D,E,F,G,H,I,J,K,M,N,O,P,R,S,U,V,W,X,Y,Z,aa,ab,ad,ae,af,ag,ah,ai,aj,ak,al,am,an,ao,ap,aq,ar,au,av,aw,ax,ay,az,a0,a1,a2,a3,a4,a5,a6,a7,a8,a9,ba,bb,bc,bd,be,bf,bg,bh,bi,bj,bk,bl,bm,bn,bo,bp,bq,br,bs,bt,bu,bw,bx,bz,b0,b1,b2,b3,b4,b5,b6,b7,b8,b9,ca,cb,cc,cd,ce,cf,cg,ch,ci,cj,ck,cl,cm,cn,cp,cq,cr,cs,ct,cu,cw,cx,cy,cz,c0,c1,c2,c3,c4,c5,c6,c7,c8,c9,da,db,dc,dd,de,df,dg,dh,di,dj,dk,dl,dm,dn,dp,dq,dr,ds,dt,du,dv,dw,dx,dy,dz,ea,eb,ec,ed,ee,ef,eh,ei,ej,ek,em,en,eo,ep,eq,es,et,eu,ev,ew],[]⟩ wr:=by
 obtain⟨o1,o2,o3,o4,o5,o6,o7,o8,o9,q,s⟩:=ok;have hw:=o9 g r d hc;have hx:=hm.ul;have k2:=hm.ub.cell (j+(n+2) - 2) (by omega);rw[show us.getD (j+(n+2) - 2) 0=i from by rw[show j+(n+2) - 2=j+n from by omega];exact o6] at k2;have hp:=Qds hg o5;obtain⟨p,e⟩:∃p:Nat,g*h=p:=⟨_,rfl⟩;have hy:p<=18446744065119617025:=by rw[<-e];exact hp
 have r1:(g:Int)*(h:Int)=(p:Int):=by rw[<-e];simp
 obtain⟨T,hT⟩:∃T:Nat,4294967296*r+i=T:=⟨_,rfl⟩;have hz:bits .or .u64 ((r:Int)*4294967296) (i:Int)=(T:Int):=by
  rw[or64 ((r:Int)*4294967296) (i:Int) r i 32 (by omega) rfl o7 (by omega)];omega
 have h0:T<18446744073709551616:=by omega
 have h1:(T:Int)<(p:Int):=by omega
 obtain⟨c,u⟩:∃c,g=c+1:=⟨g - 1,by omega⟩;have a:c*b+(r+b)=hh:=by rw[<-d,u,Nat.add_mul];omega
 have eg:(g:Int) - 1=(c:Int):=by omega
 have er:(r:Int)+(b:Int)=((r+b:Nat):Int):=by omega
 obtain⟨EG,ER,f,HM,hu⟩:=Id eg er u hm a;have h2:¬(4294967295:Int)<(g:Int):=by omega
 have h3:(1:Int)<=(g:Int):=by omega
 clear u eg er;by_cases hb:4294967296<=r+b
 .
  have e1:=s c (r+b) a hb;have e2:=q c (r+b) a e1 (Qiz _ _ _ _ _ e1 o5 hb);obtain⟨E1,E2⟩:=Ia e1 e2;have hv:(4294967295:Int)<(r:Int)+(b:Int):=by omega
  have HQ:=Hi (show Q<=c by have:=f.o;omega);clear o9 q s hm o6 d a hp e hT hc e1 e2 hb ex hQ;rw[rounds_succ]
  conv=>arg 2;whnf
  go_wp2;rw[EG.o];exact m c _ HM.o E1.o HQ.o E2.o
 .
  have hv:¬(4294967295:Int)<(r:Int)+(b:Int):=by omega
  obtain⟨HQ,HT,HB⟩:=Ib (show Q<=c by have:=f.o;omega) (show c<=t by have:=f.o;omega) (show r+b<4294967296 by omega);clear o9 q s hm o6 d a hp e hT hc ex hQ hb;rw[rounds_succ]
  conv=>arg 2;whnf
  go_wp2;rw[EG.o,ER.o];exact ih c (r+b) _ HT.o HM.o (by have:=f.o;omega) HB.o hu.o HQ.o
theorem Qmo(i:Exit->Act->World->Prop)(k:Vz)(l m o p q n j L f e s Q u:Nat)(v us w:Vy)(b c:Value)(A:GuessOk n j L f e s Q u us)
 (a:GuessExit i k l m o p q n j L f e Q v us w b c) (t:Nat):GuessAt i k l m o p q n j L f e Q u v us w b c t:=by
 induction t with
 |zero=>
  intro g r
  iterate 263 intro
  intro wr h x B y d z;obtain rfl:g=0:=by omega
  exact Qhi i k l m o p q n j L f e s Q u v us w b c A a 0 0 r wr x y d z (by omega) (by rw[Nat.zero_mul];omega)
 |succ t C=>
  intro g r
  iterate 263 intro
  intro wr h x B y d z;by_cases hB:4294967296<=g
  . exact Qmm i k l m o p q n j L f e s Q u v us w b c A a t g r C wr h x B y d z hB
  .
   by_cases D:r*4294967296+s<g*e
   . exact Qmn i k l m o p q n j L f e s Q u v us w b c A a t g r C wr h x y d z (by omega) D
   . exact Qhi i k l m o p q n j L f e s Q u v us w b c A a (t+1) g r wr x y d z (by omega) (by omega)
def PlaceExit(Qx:Exit->Act->World->Prop)(w3:Vz)(bv ov cv gu gq n M L X V:Nat)(v:Vy)(x10:Value):Prop:=
 ∀(us qs:Vy) {s0 s1 s2 s3 s4 s5 s6 s7 s8 s9 s11 s13 s14 s16 s17 s18 s19 s20 s21 s22 s23 s24 s25 s26 s27 s28 s29 s30 s31 s32 s33 s34 s35 s36 s37 s38 s39 s40 s41 s42 s43 s44 s45 s46 s47 s48 s49 s50 s51 s52 s53 s54 s55 s56 s57 s58 s59 s60 s61 s62 s63 s64 s65 s66 s67 s68 s69 s70 s71 s72 s73 s74 s75 s76 s77 s78 s79 s80 s81 s82 s83 s84 s85 s86 s87 s88 s89 s90 s91 s92 s93 s94 s95 s96 s97 s98 s99 s100 s101 s102 s103 s104 s105 s106 s107 s108 s109 s110 s111 s112 s113 s114 s115 s116 s117 s118 s119 s120 s121 s122 s123 s124 s125 s126 s127 s128 s129 s130 s131 s132 s133 s134 s135 s136 s137 s138 s139 s140 s141 s142 s143 s144 s145 s146 s147 s148 s149 s150 s151 s152 s153 s154 s155 s156 s157 s158 s159 s160 s161 s162 s163 s164 s165 s166 s167 s168 s169 s170 s171 s172 s173 s174 s175 s176 s177 s178 s179 s180 s181 s182 s183 s184 s185 s186 s187 s188 s189 s190 s191 s192 s193 s194 s195 s196 s197 s198 s199 s200 s201 s202 s203 s204 s205 s206 s207 s208 s209 s210 s211 s212 s213 s214 s215 s216 s217 s218 s219 s220 s221 s222 s223 s224 s225 s226 s227 s228 s229 s230 s231 s232 s233 s234 s235 s236 s237 s238 s239 s240 s241 s242 s243 s244 s245 s246 s247 s248 s249 s250 s251 s252 s253 s254 s255 s256 s257 s258 s259 s260 s261 s262 s263 s264 s265 s266 s267 s268 s269 s270 s271 s272:Value} (wr:Vz),DivMem w3 wr bv ov gu gq n L v us qs->DivInv X V n M 0 us qs->
    Qx (.exit 0) ⟨#[s0,s1,s2,s3,s4,s5,s6,s7,s8,s9,x10,s11,.slice (some ⟨gu,0,none⟩) L L,s13,s14,.slice (some ⟨gq,0,none⟩) (M+1) (M+1),s16,s17,s18,s19,s20,s21,s22,s23,s24,s25,s26,s27,s28,s29,s30,s31,s32,s33,s34,s35,s36,s37,s38,s39,s40,s41,s42,s43,s44,s45,s46,s47,s48,s49,s50,s51,s52,s53,s54,s55,s56,s57,s58,s59,s60,s61,s62,s63,s64,s65,s66,s67,s68,s69,s70,s71,s72,s73,s74,s75,s76,s77,s78,s79,s80,s81,s82,s83,s84,s85,s86,s87,s88,s89,s90,s91,s92,s93,s94,s95,s96,s97,s98,s99,s100,s101,s102,s103,s104,s105,s106,s107,s108,s109,s110,s111,s112,s113,s114,s115,s116,s117,s118,s119,s120,s121,s122,s123,s124,s125,s126,s127,s128,s129,s130,s131,s132,s133,s134,s135,s136,s137,s138,s139,s140,s141,s142,s143,s144,s145,s146,s147,s148,s149,s150,s151,s152,s153,s154,s155,s156,s157,s158,s159,s160,s161,s162,s163,s164,s165,s166,s167,s168,s169,s170,s171,s172,s173,s174,s175,s176,s177,s178,s179,s180,s181,s182,s183,s184,s185,s186,s187,s188,s189,s190,s191,s192,s193,s194,s195,s196,s197,s198,s199,s200,s201,s202,s203,s204,s205,s206,s207,s208,s209,s210,s211,s212,s213,s214,s215,s216,s217,s218,s219,s220,s221,s222,s223,s224,s225,s226,s227,s228,s229,s230,s231,s232,s233,s234,s235,s236,s237,s238,s239,s240,s241,s242,s243,s244,s245,s246,s247,s248,s249,s250,s251,s252,s253,s254,s255,s256,s257,s258,s259,s260,s261,s262,s263,s264,s265,s266,s267,s268,s269,s270,s271,s272],[]⟩ wr
def PlaceAt(Qx:Exit->Act->World->Prop)(w3:Vz)(bv ov cv gu gq n M L v1 v0 X V:Nat)(v:Vy)(x10:Value)(t:Nat):Prop:=
 ∀(us qs:Vy) {s0 s1 s2 s3 s4 s5 s6 s7 s8 s9 s14 s19 s20 s21 s22 s23 s24 s25 s26 s27 s28 s29 s30 s31 s32 s33 s34 s35 s36 s37 s38 s39 s40 s41 s42 s43 s44 s45 s46 s47 s48 s49 s50 s51 s52 s53 s54 s55 s56 s57 s58 s59 s60 s61 s62 s63 s64 s65 s66 s67 s68 s69 s70 s71 s72 s73 s74 s75 s76 s77 s78 s79 s80 s81 s82 s83 s84 s85 s86 s87 s88 s89 s90 s91 s92 s93 s94 s95 s96 s97 s98 s99 s100 s101 s102 s103 s104 s105 s106 s107 s108 s109 s110 s111 s112 s113 s114 s115 s116 s117 s118 s119 s120 s121 s122 s123 s124 s125 s126 s127 s128 s129 s130 s131 s132 s133 s134 s135 s136 s137 s138 s139 s140 s141 s142 s143 s144 s145 s146 s147 s148 s149 s150 s151 s152 s153 s154 s155 s156 s157 s158 s159 s160 s161 s162 s163 s164 s165 s166 s167 s168 s169 s170 s171 s172 s173 s174 s175 s176 s177 s178 s179 s180 s181 s182 s183 s184 s185 s186 s187 s188 s189 s190 s191 s192 s193 s194 s195 s196 s197 s198 s199 s200 s201 s202 s203 s204 s205 s206 s207 s208 s209 s210 s211 s212 s213 s214 s215 s216 s217 s218 s219 s220 s221 s222 s223 s224 s225 s226 s227 s228 s229 s230 s231 s232 s233 s234 s235 s236 s237 s238 s239 s240 s241 s242 s243 s244 s245 s246 s247 s248 s249 s250 s251 s252 s253 s254 s255 s256 s257 s258 s259 s260 s261 s262 s263 s264 s265 s266 s267 s268 s269 s270 s271 s272:Value} (wr:Vz),t<=M+1->DivMem w3 wr bv ov gu gq n L v us qs->DivInv X V n M t us qs->
    Code.rounds prog (((Tryz.f157.body.map loopsIn).getD []).getD 0 .skip) Qx (t+1) ⟨#[s0,s1,s2,s3,s4,s5,s6,s7,s8,s9,x10,.slice (some ⟨bv,ov,none⟩) (n+2) cv,.slice (some ⟨gu,0,none⟩) L L,.int .i64 ((n:Int)+2),s14,.slice (some ⟨gq,0,none⟩) (M+1) (M+1),.int .u64 (v1:Int),.int .u64 (v0:Int),.int .i64 ((t:Int) - 1),s19,s20,s21,s22,s23,s24,s25,s26,s27,s28,s29,s30,s31,s32,s33,s34,s35,s36,s37,s38,s39,s40,s41,s42,s43,s44,s45,s46,s47,s48,s49,s50,s51,s52,s53,s54,s55,s56,s57,s58,s59,s60,s61,s62,s63,s64,s65,s66,s67,s68,s69,s70,s71,s72,s73,s74,s75,s76,s77,s78,s79,s80,s81,s82,s83,s84,s85,s86,s87,s88,s89,s90,s91,s92,s93,s94,s95,s96,s97,s98,s99,s100,s101,s102,s103,s104,s105,s106,s107,s108,s109,s110,s111,s112,s113,s114,s115,s116,s117,s118,s119,s120,s121,s122,s123,s124,s125,s126,s127,s128,s129,s130,s131,s132,s133,s134,s135,s136,s137,s138,s139,s140,s141,s142,s143,s144,s145,s146,s147,s148,s149,s150,s151,s152,s153,s154,s155,s156,s157,s158,s159,s160,s161,s162,s163,s164,s165,s166,s167,s168,s169,s170,s171,s172,s173,s174,s175,s176,s177,s178,s179,s180,s181,s182,s183,s184,s185,s186,s187,s188,s189,s190,s191,s192,s193,s194,s195,s196,s197,s198,s199,s200,s201,s202,s203,s204,s205,s206,s207,s208,s209,s210,s211,s212,s213,s214,s215,s216,s217,s218,s219,s220,s221,s222,s223,s224,s225,s226,s227,s228,s229,s230,s231,s232,s233,s234,s235,s236,s237,s238,s239,s240,s241,s242,s243,s244,s245,s246,s247,s248,s249,s250,s251,s252,s253,s254,s255,s256,s257,s258,s259,s260,s261,s262,s263,s264,s265,s266,s267,s268,s269,s270,s271,s272],[]⟩ wr
theorem Qmj(c:Exit->Act->World->Prop)(d:Vz)(e f g h i n M L l m X V:Nat)(v:Vy)(b:Value)(a:PlaceExit c d e f g h i n M L X V v b):PlaceAt c d e f g h i n M L l m X V v b 0:=by
 intro us r
 iterate 265 intro
 intro wr s j k;obtain⟨p,q⟩:=Ia j k;clear j k;rw[rounds_succ]
 conv=>arg 2;whnf
 go_wp2;exact a _ _ _ p.o q.o
theorem Qmk(Qx:Exit->Act->World->Prop)(w3:Vz)(bv ov cv gu gq n M L f v0 X V:Nat)(v:Vy)(l:Value)(hL:L=M+n+3)(O:L<=1099511627776)(P:Num 4294967296 v V)(R:v.length=n+2)(S:v.getD (n+1) 0=f)(U:v.getD n 0=v0)(h1:1<=f)
 (j:Nat) (ih:PlaceAt Qx w3 bv ov cv gu gq n M L f v0 X V v l j):PlaceAt Qx w3 bv ov cv gu gq n M L f v0 X V v l (j+1):=by
 intro us W
 iterate 265 intro
 intro wr ai hm H;have aj:f<4294967296:=by rw[<-S];exact P.small.getD (by omega) _
 have ak:v0<4294967296:=by rw[<-U];exact P.small.getD (by omega) _
 have m:0<V:=by
  have y:=P.trim.pow_le (B:=4294967296) (by omega);rw[P.eq] at y;have e2:0<4294967296 ^ (v.length - 1):=Nat.pow_pos (by omega);omega
 have az:=H.ulen;have ei:((j+1:Nat):Int) - 1=(j:Int):=by omega
 rw[ei];clear ei;obtain⟨q,r⟩:∃d,us.getD (j+(n+2)) 0=d:=⟨_,rfl⟩;obtain⟨u1,A⟩:∃d,us.getD (j+(n+1)) 0=d:=⟨_,rfl⟩;obtain⟨u0,C⟩:∃d,us.getD (j+n) 0=d:=⟨_,rfl⟩;have b2:q<4294967296:=by rw[<-r];exact H.usmall.getD (by omega) _
 have b1:u1<4294967296:=by rw[<-A];exact H.usmall.getD (by omega) _
 have b0:u0<4294967296:=by rw[<-C];exact H.usmall.getD (by omega) _
 have g2:=hm.ub.cell (j+(n+2)) (by omega);have g1:=hm.ub.cell (j+(n+1)) (by omega);rw[r] at g2;rw[A] at g1;obtain⟨s,al⟩:=nm (q*4294967296+u1);obtain⟨Q,hQ⟩:=nm (val 4294967296 us / (4294967296 ^ j*V));obtain⟨G1,G2,G3,G4⟩:=H.guess (by omega) P R r A C S U h1 al hQ;have am:=H.q_lt m;rw[hQ] at am;have ok:GuessOk n j L f v0 u0 Q s us:=⟨O,by omega,h1,aj,ak,C,b0,am,G2,G3,G4⟩;have a0:bits .or .u64 ((q:Int)*4294967296) (u1:Int)=(s:Int):=by
  rw[or64 ((q:Int)*4294967296) (u1:Int) q u1 32 (by omega) rfl b1 (by omega)];omega
 have a1:s<18446744073709551616:=by omega
 obtain⟨t,u⟩:∃t,s / f=t:=⟨_,rfl⟩;obtain⟨Y,D⟩:∃Y,s % f=Y:=⟨_,rfl⟩;have t1:(s:Int) / (f:Int)=(t:Int):=by rw[<-u];simp
 have t2:(s:Int) % (f:Int)=(Y:Int):=by rw[<-D];simp
 have t3:(s:Int).tmod (f:Int)=(Y:Int):=by rw[Int.tmod_eq_emod_of_nonneg (by omega)];exact t2
 have t4:(s:Int).tdiv (f:Int)=(t:Int):=by rw[Int.tdiv_eq_ediv_of_nonneg (by omega)];exact t1
 have Z:t<18446744073709551616:=by rw[<-u];exact Nat.lt_of_le_of_lt (Nat.div_le_self _ _) a1
 have a2:Y<f:=by rw[<-D];exact Nat.mod_lt _ (by omega)
 have t5:=Qcb t Z;have an:t*f+Y=s:=by rw[<-u,<-D,Nat.mul_comm];exact Nat.div_add_mod _ _
 have h:Q<=t:=by rw[<-u];exact G1
 have qv:((f:Int) == 0)=false:=by rw[beq_eq_false_iff_ne];omega
 obtain⟨OK,HM,I,HQ,ao,a3,i,E,HL⟩:=Ih ok hm H hQ r an P R hL;have F:=Hi ai;have k:j+(n+2)<L:=by omega
 have ba:(j:Int)+((n:Int)+2)<(L:Int):=by omega
 have bb:(0:Int)<=(j:Int)+((n:Int)+2):=by omega
 have bc:(j:Int)+((n:Int)+2) - 1<(L:Int):=by omega
 have bd:(0:Int)<=(j:Int)+((n:Int)+2) - 1:=by omega
 clear G1 G2 G3 G4 u D an hQ r A C H hm al az P R S U ok hL ai;rw[rounds_succ]
 conv=>arg 2;whnf
 go_wp2;go_quiet (fail);go_wp2;go_quiet (fail);go_wp2;refine wp_loop_rounds (t+1) ?_;refine(Qmo _ w3 bv ov cv gu gq n j L f v0 u0 Q s v us W l _ OK.o ?hex t) t Y _ lZ ((HM.o.drewN _).drewN _) Z (by omega) a3.o h
 case hex=>
  clear g1 g2 a0 t1 t2 t3 t4 t5 Z a2 h qv;intro g
  iterate 264 intro
  intro be ap a4 h aa;go_wp2;refine wp_loop_rounds (n+2+1) ?_;refine(Qmq _ w3 bv ov cv gu gq n j L (val 4294967296 (us.take (j+(n+2)))) q g v W l _ _ _ O k a4 ?hex2 (n+2)) 0 0 0 us _ (by omega) ap (by omega) (by omega) ao.o ?hz2 ?hv2
  case hz2=>
   intro p hp;have y:=HL.o;have e2:=F.o;have e3:=Qaa (B:=4294967296) (by omega) i.o.small;rw[i.o.eq,E.o] at e3;have e4:=I.o.zero (by omega) e3;exact Qpc 4294967296 (by omega) us (j+(n+2)) e4 p hp
  case hv2=>simp[val]
  case hex2=>
   intro c d us1
   iterate 262 intro
   intro bf b hc hd ha hz ab;have a5:=I.o.qlen;have w:=b.ul;have k0:=b.ub.cell (j+(n+2)) (by omega);have k1:=b.ub.free (j+(n+2));rw[ha] at k0;have f0:=b.qb.cell j (by have:=F.o;omega);have f1:=b.qb.free j;obtain⟨z,aq⟩:=nm (W.getD j 0);rw[aq] at f0;have ad:=Qaa (B:=4294967296) (by omega) i.o.small;rw[i.o.eq,E.o] at ad;have hU:val 4294967296 us=val 4294967296 (us.take (j+(n+2)))+4294967296 ^ (j+(n+2))*q:=by
    have y:=HL.o;have e2:=F.o;exact Qi2 4294967296 us (j+(n+2)) q (by have:=I.o.ulen;omega) ao.o (I.o.zero (by omega) ad)
   have x:val 4294967296 (us1.take (j+(n+2)))<4294967296 ^ (j+(n+2)):=by
    have y:=Qaa (B:=4294967296) (by omega) (b.usmall.take (j+(n+2)));rw[List.length_take,w,Nat.min_eq_left (by omega)] at y;exact y
   rw[show v.take (n+2)=v from List.take_of_length_le (by rw[E.o];exact Nat.le_refl _),i.o.eq] at ab;have J:=Qo9 4294967296 j (n+2) q c d g _ _ V _ x hU m (by omega) ab (by rw[HQ.o];exact h) (by rw[HQ.o];exact aa) (by omega);have hD:4294967296 ^ j*V<=4294967296 ^ (j+(n+2)):=by rw[Nat.pow_add];exact Nat.mul_le_mul_left _ (by omega)
   have K:=Nat.mod_lt (val 4294967296 us) (Nat.mul_pos (Nat.pow_pos (n:=j) (show 0<4294967296 by omega)) m);rw[HQ.o] at J;obtain⟨ae,HZ,HD,ar,af⟩:=Id b hz hD K w;have bg:(j:Int)<(M:Int)+1:=by have:=F.o;omega
   have bh:=Hi I.o;clear hD K ab hU ad hz b w a5 aq ha x ap;rcases J with ⟨rfl,ag,e⟩|⟨au,ag,e⟩
   .
    have tt:IntKind.u64.wrap (IntKind.u64.wrap ((q:Int) - (c:Int)) - (d:Int))=0:=by
     rw[Qao,Qao];omega
    have ah:=Hi e;clear e ag h aa;go_wp2;refine ih (us1.set (j+(n+2)) 0) (W.set j g) _ (by have:=F.o;omega) ((ae.o.setU _ 0 (by omega)).setQ j g) (I.o.next (by have:=F.o;omega) m HQ.o (by rw[List.length_set,af.o,HL.o]) (ae.o.usmall.set _ (by omega)) ?_);rw[Qi3 _ _ _ (by rw[af.o];exact k) HZ.o];exact ah.o
   .
    obtain⟨T,hT⟩:∃T:Nat,T=18446744073709551615:=⟨_,rfl⟩;have tt:IntKind.u64.wrap (IntKind.u64.wrap ((q:Int) - (c:Int)) - (d:Int))=(T:Int):=by
     rw[Qao,Qao];omega
    have t1:(T:Int) % 4294967296=4294967295:=by omega
    have t2:(T:Int) / 9223372036854775808=1:=by omega
    have a6:T<18446744073709551616:=by omega
    have eg:(g:Int) - 1=(Q:Int):=by omega
    have EG:=Hi eg;have a7:(1:Int)<=(g:Int):=by omega
    have ah:=Hi e;clear e ag h aa hT eg au;go_wp2;rw[EG.o];refine wp_loop_rounds (n+2+1) ?_;refine(Qmu _ w3 bv ov cv gu gq n j L (val 4294967296 (us1.take (j+(n+2)))) 4294967295 v W l _ _ _ _ O k ?hex3 (n+2)) 0 0 (us1.set (j+(n+2)) 4294967295) _ (by omega) (ae.o.setU _ 4294967295 (by omega)) (by omega) (Qbi _ _ _ (by rw[af.o];exact k)) ?hz3 ?hv3
    case hz3=>intro p hp;rw[getD_set_ne _ _ _ _ (by omega)];exact HZ.o p hp
    case hv3=>rw[List.take_set_of_le lZ];simp[val]
    case hex3=>
     clear k0 k1 f0 f1 tt t1 t2 a6 a7;intro c3 av
     iterate 263 intro
     intro bi a aw ax hz3 hv3;have k0:=a.ub.cell (j+(n+2)) (by rw[a.ul];exact k);have k1:=a.ub.free (j+(n+2));rw[ax] at k0;have f0:=a.qb.cell j (by have:=F.o;have:=I.o.qlen;omega);have f1:=a.qb.free j;obtain⟨z',N⟩:∃z,W.getD j 0=z:=⟨_,rfl⟩;rw[N] at f0;have x:val 4294967296 (av.take (j+(n+2)))<4294967296 ^ (j+(n+2)):=by
      have y:=Qaa (B:=4294967296) (by omega) (a.usmall.take (j+(n+2)));rw[List.length_take,a.ul,Nat.min_eq_left (by omega)] at y;exact y
     rw[show v.take (n+2)=v from List.take_of_length_le (by rw[E.o];exact Nat.le_refl _),i.o.eq,ah.o] at hv3;obtain⟨a8,e⟩:=Qpe _ _ c3 _ _ x ar.o HD.o aw hv3;subst a8;obtain⟨G,a9,ay⟩:=Ib a hz3 e;clear a hz3 e hv3 x ax N aw;go_wp2;refine ih (av.set (j+(n+2)) 0) (W.set j Q) _ (by have:=F.o;omega) ((G.o.setU _ 0 (by omega)).setQ j Q) (I.o.next (by have:=F.o;omega) m HQ.o (by rw[List.length_set,G.o.ul,HL.o]) (G.o.usmall.set _ (by omega)) ?_);rw[Qi3 _ _ _ (by rw[G.o.ul];exact k) a9.o];exact ay.o
theorem Qml(d:Exit->Act->World->Prop)(e:Vz)(f g h i j n M L c k X V:Nat)(v:Vy)(a:Value)(q:L=M+n+3)(l:L<=1099511627776)(r:Num 4294967296 v V)(m:v.length=n+2)(o:v.getD (n+1) 0=c)(p:v.getD n 0=k)(s:1<=c)
 (b:PlaceExit d e f g h i j n M L X V v a) (t:Nat):PlaceAt d e f g h i j n M L c k X V v a t:=by
 induction t with
 |zero=>exact Qmj d e f g h i j n M L c k X V v a b
 |succ t u=>exact Qmk d e f g h i j n M L c k X V v a q l r m o p s t u
end Go.Proofs.YtppkmifkpjkgpaaGreatDoor
