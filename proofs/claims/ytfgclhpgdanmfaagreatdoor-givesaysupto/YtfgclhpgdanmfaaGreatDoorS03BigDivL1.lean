import Derived.Test.YtfgclhpgdanmfaaGreatDoorS02BigDivL4
namespace Go.Proofs.YtfgclhpgdanmfaaGreatDoor
set_option linter.defProp false
open Go.RowKit
open Go.Proofs.Tryz
set_option linter.unusedSimpArgs false
set_option linter.unusedVariables false
set_option maxHeartbeats 8000000
set_option maxRecDepth 1000000
def wb(Q:Ab)(w3:Vz)(bv ov cv gu gq n j L R a2 g:Nat)(v qs:Vy)(x10 x15 x16 x17:Ac):Prop:=
 ∀(c d:Nat)(us:Vy) {e0 e1 e2 e3 e4 e5 e6 e7 e8 e9 ef el ep et eu ev ew ex ey ez d0 d1 d2 d3 d4 d5 d6 d7 d8 d9 da db dc dd de df dg dh di dj dk dl dm dn dp dq dr ds dt du dv dw dx dy dz k0 k1 k2 k3 k4 k5 k6 k7 k8 k9 ka kb kc kd ke kf kg kh ki kj kk kl km kn ko kp kq kr ks kt ku kv kw kx ky kz p0 p1 p2 p3 p4 p5 p6 p7 p8 p9 pa pb pc pd pe pf pg ph pi pj pk pl pm pn po pp pq pr ps pt pu pv pw px py pz y0 y1 y2 y3 y4 y5 y6 y7 y8 y9 ya yb yc yd ye yf yg yh yi yj yk yl ym yn yo yp yq yr ys yt yu yv yw yx yy yz z0 z1 z2 z3 z4 z5 z6 z7 z8 z9 za zb zc zd ze zf zg zh zi zj zk zl zm zn zo zp zq zr zs zt zu zv zw zx zy zz E0 E1 E2 E3 E4 E5 E6 E7 E8 E9 Ea Eb Ec Ed Ee Ef Eg Eh Ei Ej Ek El Em En Eo Ep Eq Er Es Et Eu Ev Ew Ex Ey Ez K0 K1 K2 K3 K4 K5 K6 K7 K8 K9 Ka Kb Kc Kd Ke Kf Kg Kh Ki Kj Kk Kl Km Kn Ko Kp Kq:Ac} (wr:Vz),jt w3 wr bv ov gu gq n L v us qs->c<4294967296->d<=1->us.getD (j+(n+2)) 0=a2->(∀p,j+(n+2)<p->us.getD p 0=0)->
    val 4294967296 (us.take (j+(n+2)))+4294967296 ^ j*(g*val 4294967296 (v.take (n+2)))=R+4294967296 ^ (j+(n+2))*(c+d)->
    Q (.exit 4) ⟨#[e0,e1,e2,e3,e4,e5,e6,e7,e8,e9,x10,.slice (some ⟨bv,ov,none⟩) (n+2) cv,.slice (some ⟨gu,0,none⟩) L L,.int .i64 ((n:Int)+2),ef,x15,x16,x17,.int .i64 (j:Int),el,.int .u64 (g:Int),ep,.int .u64 (c:Int),.int .u64 (d:Int),et,eu,ev,ew,ex,ey,ez,d0,d1,d2,d3,d4,d5,d6,d7,d8,d9,da,db,dc,dd,de,df,dg,dh,di,dj,dk,dl,dm,dn,dp,dq,dr,ds,dt,du,dv,dw,dx,dy,dz,k0,k1,k2,k3,k4,k5,k6,k7,k8,k9,ka,kb,kc,kd,ke,kf,kg,kh,ki,kj,kk,kl,km,kn,ko,kp,kq,kr,ks,kt,ku,kv,kw,kx,ky,kz,p0,p1,p2,p3,p4,p5,p6,p7,p8,p9,pa,pb,pc,pd,pe,pf,pg,ph,pi,pj,pk,pl,pm,pn,po,pp,pq,pr,ps,pt,pu,pv,pw,px,py,pz,y0,y1,y2,y3,y4,y5,y6,y7,y8,y9,ya,yb,yc,yd,ye,yf,yg,yh,yi,yj,yk,yl,ym,yn,yo,yp,yq,yr,ys,yt,yu,yv,yw,yx,yy,yz,z0,z1,z2,z3,z4,z5,z6,z7,z8,z9,za,zb,zc,zd,ze,zf,zg,zh,zi,zj,zk,zl,zm,zn,zo,zp,zq,zr,zs,zt,zu,zv,zw,zx,zy,zz,E0,E1,E2,E3,E4,E5,E6,E7,E8,E9,Ea,Eb,Ec,Ed,Ee,Ef,Eg,Eh,Ei,Ej,Ek,El,Em,En,Eo,Ep,Eq,Er,Es,Et,Eu,Ev,Ew,Ex,Ey,Ez,K0,K1,K2,K3,K4,K5,K6,K7,K8,K9,Ka,Kb,Kc,Kd,Ke,Kf,Kg,Kh,Ki,Kj,Kk,Kl,Km,Kn,Ko,Kp,Kq],[]⟩ wr
def vi(Q:Ab)(w3:Vz)(bv ov cv gu gq n j L R a2 g:Nat)(v qs:Vy)(x10 x15 x16 x17:Ac)(t:Nat):Prop:=
 ∀(i c d:Nat)(us:Vy) {e0 e1 e2 e3 e4 e5 e6 e7 e8 e9 ef el ep eu ev ew ex ey ez d0 d1 d2 d3 d4 d5 d6 d7 d8 d9 da db dc dd de df dg dh di dj dk dl dm dn dp dq dr ds dt du dv dw dx dy dz k0 k1 k2 k3 k4 k5 k6 k7 k8 k9 ka kb kc kd ke kf kg kh ki kj kk kl km kn ko kp kq kr ks kt ku kv kw kx ky kz p0 p1 p2 p3 p4 p5 p6 p7 p8 p9 pa pb pc pd pe pf pg ph pi pj pk pl pm pn po pp pq pr ps pt pu pv pw px py pz y0 y1 y2 y3 y4 y5 y6 y7 y8 y9 ya yb yc yd ye yf yg yh yi yj yk yl ym yn yo yp yq yr ys yt yu yv yw yx yy yz z0 z1 z2 z3 z4 z5 z6 z7 z8 z9 za zb zc zd ze zf zg zh zi zj zk zl zm zn zo zp zq zr zs zt zu zv zw zx zy zz E0 E1 E2 E3 E4 E5 E6 E7 E8 E9 Ea Eb Ec Ed Ee Ef Eg Eh Ei Ej Ek El Em En Eo Ep Eq Er Es Et Eu Ev Ew Ex Ey Ez K0 K1 K2 K3 K4 K5 K6 K7 K8 K9 Ka Kb Kc Kd Ke Kf Kg Kh Ki Kj Kk Kl Km Kn Ko Kp Kq:Ac} (wr:Vz),i+t=n+2->jt w3 wr bv ov gu gq n L v us qs->c<4294967296->d<=1->us.getD (j+(n+2)) 0=a2->(∀p,j+(n+2)<p->us.getD p 0=0)->
    val 4294967296 (us.take (j+(n+2)))+4294967296 ^ j*(g*val 4294967296 (v.take i))=R+4294967296 ^ (j+i)*(c+d)->
    Code.rounds prog (((Tryz.f185.body.map mE).getD []).getD 2 .skip) Q (t+1) ⟨#[e0,e1,e2,e3,e4,e5,e6,e7,e8,e9,x10,.slice (some ⟨bv,ov,none⟩) (n+2) cv,.slice (some ⟨gu,0,none⟩) L L,.int .i64 ((n:Int)+2),ef,x15,x16,x17,.int .i64 (j:Int),el,.int .u64 (g:Int),ep,.int .u64 (c:Int),.int .u64 (d:Int),.int .i64 (i:Int),eu,ev,ew,ex,ey,ez,d0,d1,d2,d3,d4,d5,d6,d7,d8,d9,da,db,dc,dd,de,df,dg,dh,di,dj,dk,dl,dm,dn,dp,dq,dr,ds,dt,du,dv,dw,dx,dy,dz,k0,k1,k2,k3,k4,k5,k6,k7,k8,k9,ka,kb,kc,kd,ke,kf,kg,kh,ki,kj,kk,kl,km,kn,ko,kp,kq,kr,ks,kt,ku,kv,kw,kx,ky,kz,p0,p1,p2,p3,p4,p5,p6,p7,p8,p9,pa,pb,pc,pd,pe,pf,pg,ph,pi,pj,pk,pl,pm,pn,po,pp,pq,pr,ps,pt,pu,pv,pw,px,py,pz,y0,y1,y2,y3,y4,y5,y6,y7,y8,y9,ya,yb,yc,yd,ye,yf,yg,yh,yi,yj,yk,yl,ym,yn,yo,yp,yq,yr,ys,yt,yu,yv,yw,yx,yy,yz,z0,z1,z2,z3,z4,z5,z6,z7,z8,z9,za,zb,zc,zd,ze,zf,zg,zh,zi,zj,zk,zl,zm,zn,zo,zp,zq,zr,zs,zt,zu,zv,zw,zx,zy,zz,E0,E1,E2,E3,E4,E5,E6,E7,E8,E9,Ea,Eb,Ec,Ed,Ee,Ef,Eg,Eh,Ei,Ej,Ek,El,Em,En,Eo,Ep,Eq,Er,Es,Et,Eu,Ev,Ew,Ex,Ey,Ez,K0,K1,K2,K3,K4,K5,K6,K7,K8,K9,Ka,Kb,Kc,Kd,Ke,Kf,Kg,Kh,Ki,Kj,Kk,Kl,Km,Kn,Ko,Kp,Kq],[]⟩ wr
def take_zero(Q:Ab)(k:Vz)(l m p q r n j L R s g:Nat)(v t:Vy)(b e f h:Ac)(F:L<=1099511627776)(G:j+(n+2)<L)(a:wb Q k l m p q r n j L R s g v t b e f h):vi Q k l m p q r n j L R s g v t b e f h 0:=by
 intro i c d us
 iterate 261 intro
 intro wr H u z A w x y;obtain rfl:i=n+2:=oO;obtain⟨B,C,D,E⟩:=Ic y u x w;clear y u x w;rw[kM]
 conv=>arg 2;whnf
 go_wp2;exact a _ _ _ _ C.o z A E.o D.o B.o
def YQ(Q:Ab)(E:Vz)(F G H I J n j L R K g:Nat)(v M:Vy)(l m q r:Ac)(hL:L<=1099511627776)(hj:j+(n+2)<L)(hg:g<4294967296)(t:Nat)(ih:vi Q E F G H I J n j L R K g v M l m q r t):vi Q E F G H I J n j L R K g v M l m q r (t+1):=by
 intro i c d us
 iterate 261 intro
 intro wr N h hc hd O P T;obtain⟨HM,HZ,HA⟩:=Ib h P O;have z:=h.ul;obtain⟨e,x⟩:=nm (v.getD i 0);obtain⟨a,f⟩:∃a,us.getD (j+i) 0=a:=⟨_,rfl⟩;have A:e<4294967296:=by rw[<-x];exact h.vsmall.getD oO _
 have B:a<4294967296:=by rw[<-f];exact h.usmall.getD oO _
 have k1:=h.C4 i oO;have k2:=h.ub.cell (i+j) oO;have k3:=h.ub.free (i+j);rw[x]at k1;rw[tR i j,f,tR j i]at k2;have y:=IF hg A;obtain⟨p,b⟩:∃p:Nat,g*e=p:=⟨_,rfl⟩;have ab:p<=18446744065119617025:=by rw[<-b];exact y
 obtain⟨S,C⟩:∃S:Nat,c+p=S:=⟨_,rfl⟩;obtain⟨lo,s⟩:∃lo:Nat,S % 4294967296=lo:=⟨_,rfl⟩;obtain⟨u,w⟩:∃u:Nat,S / 4294967296=u:=⟨_,rfl⟩;obtain⟨U,V,b1,b2,W,X,Y⟩:=VL a lo d B oO hd;have k:=VN 4294967296 j i (j+(n+2)) a c d g e U V R us v oO oO f x (by rw[b,C,s];exact W) T;rw[b,C,w]at k;obtain⟨HS,B4,B5⟩:=Ib k X Y;have r1:(g:Int)*(e:Int)=(p:Int):=by rw[<-b];simp
 have r2:(c:Int)+(p:Int)=(S:Int):=oO;have r3:(S:Int) % 4294967296=(lo:Int):=oO;have r4:(S:Int) / 4294967296=(u:Int):=oO;have ad:S<18446744073709551616:=oO;have Z:lo<4294967296:=oO;have D:u<4294967296:=oO;have ae:i<n+2:=oO;have aa:i+j<L:=oO;have HI:=Hi N;clear T h P O x f k z N W X Y y b C s w;rw[kM]
 conv=>arg 2;whnf
 go_wp2;simp only[xw,B4.o,B5.o];rw[show (i:Int)+1=((i+1:Nat):Int) from by omega];refine ih (i+1) u V (us.set (j+i) U) _ (oB HI.o) ?_ D b2 ?_ ?_ HS.o
 . rw[tR j i];exact HM.o.A0 _ _ b1
 . rw[getD_set_ne _ _ _ _ oO];exact HA.o
 . intro p y;rw[getD_set_ne _ _ _ _ oO];exact HZ.o p y
def YP(Q:Ab)(f:Vz)(h i k l m n j L R o g:Nat)(v p:Vy)(a b c d:Ac)(q:L<=1099511627776)(r:j+(n+2)<L)(s:g<4294967296)(e:wb Q f h i k l m n j L R o g v p a b c d)(t:Nat):vi Q f h i k l m n j L R o g v p a b c d t:=by
 induction t with
 |zero=>exact take_zero Q f h i k l m n j L R o g v p a b c d q r e
 |succ t u=>exact YQ Q f h i k l m n j L R o g v p a b c d q r s t u
def uQ(Qx:Ab)(w3:Vz)(bv ov cv gu gq n j L v1 v0 Q:Nat)(v us qs:Vy)(x10 x15:Ac):Prop:=
 ∀(g:Nat) {e0 e1 e2 e3 e4 e5 e6 e7 e8 e9 ef el ep er es et eu ev ew ex ey ez d0 d1 d2 d3 d4 d5 d6 d7 d8 d9 da db dc dd de df dg dh di dj dk dl dm dn dp dq dr ds dt du dv dw dx dy dz k0 k1 k2 k3 k4 k5 k6 k7 k8 k9 ka kb kc kd ke kf kg kh ki kj kk kl km kn ko kp kq kr ks kt ku kv kw kx ky kz p0 p1 p2 p3 p4 p5 p6 p7 p8 p9 pa pb pc pd pe pf pg ph pi pj pk pl pm pn po pp pq pr ps pt pu pv pw px py pz y0 y1 y2 y3 y4 y5 y6 y7 y8 y9 ya yb yc yd ye yf yg yh yi yj yk yl ym yn yo yp yq yr ys yt yu yv yw yx yy yz z0 z1 z2 z3 z4 z5 z6 z7 z8 z9 za zb zc zd ze zf zg zh zi zj zk zl zm zn zo zp zq zr zs zt zu zv zw zx zy zz E0 E1 E2 E3 E4 E5 E6 E7 E8 E9 Ea Eb Ec Ed Ee Ef Eg Eh Ei Ej Ek El Em En Eo Ep Eq Er Es Et Eu Ev Ew Ex Ey Ez K0 K1 K2 K3 K4 K5 K6 K7 K8 K9 Ka Kb Kc Kd Ke Kf Kg Kh Ki Kj Kk Kl Km Kn Ko Kp Kq:Ac} (wr:Vz),jt w3 wr bv ov gu gq n L v us qs->g<4294967296->Q<=g->g<=Q+1->
    Qx (.exit 2) ⟨#[e0,e1,e2,e3,e4,e5,e6,e7,e8,e9,x10,.slice (some ⟨bv,ov,none⟩) (n+2) cv,.slice (some ⟨gu,0,none⟩) L L,.int .i64 ((n:Int)+2),ef,x15,.int .u64 (v1:Int),.int .u64 (v0:Int),.int .i64 (j:Int),el,.int .u64 (g:Int),ep,er,es,et,eu,ev,ew,ex,ey,ez,d0,d1,d2,d3,d4,d5,d6,d7,d8,d9,da,db,dc,dd,de,df,dg,dh,di,dj,dk,dl,dm,dn,dp,dq,dr,ds,dt,du,dv,dw,dx,dy,dz,k0,k1,k2,k3,k4,k5,k6,k7,k8,k9,ka,kb,kc,kd,ke,kf,kg,kh,ki,kj,kk,kl,km,kn,ko,kp,kq,kr,ks,kt,ku,kv,kw,kx,ky,kz,p0,p1,p2,p3,p4,p5,p6,p7,p8,p9,pa,pb,pc,pd,pe,pf,pg,ph,pi,pj,pk,pl,pm,pn,po,pp,pq,pr,ps,pt,pu,pv,pw,px,py,pz,y0,y1,y2,y3,y4,y5,y6,y7,y8,y9,ya,yb,yc,yd,ye,yf,yg,yh,yi,yj,yk,yl,ym,yn,yo,yp,yq,yr,ys,yt,yu,yv,yw,yx,yy,yz,z0,z1,z2,z3,z4,z5,z6,z7,z8,z9,za,zb,zc,zd,ze,zf,zg,zh,zi,zj,zk,zl,zm,zn,zo,zp,zq,zr,zs,zt,zu,zv,zw,zx,zy,zz,E0,E1,E2,E3,E4,E5,E6,E7,E8,E9,Ea,Eb,Ec,Ed,Ee,Ef,Eg,Eh,Ei,Ej,Ek,El,Em,En,Eo,Ep,Eq,Er,Es,Et,Eu,Ev,Ew,Ex,Ey,Ez,K0,K1,K2,K3,K4,K5,K6,K7,K8,K9,Ka,Kb,Kc,Kd,Ke,Kf,Kg,Kh,Ki,Kj,Kk,Kl,Km,Kn,Ko,Kp,Kq],[]⟩ wr
def vk(Qx:Ab)(w3:Vz)(bv ov cv gu gq n j L v1 v0 Q hh:Nat)(v us qs:Vy)(x10 x15:Ac)(t:Nat):Prop:=
 ∀(g r:Nat) {e0 e1 e2 e3 e4 e5 e6 e7 e8 e9 ef el er es et eu ev ew ex ey ez d0 d1 d2 d3 d4 d5 d6 d7 d8 d9 da db dc dd de df dg dh di dj dk dl dm dn dp dq dr ds dt du dv dw dx dy dz k0 k1 k2 k3 k4 k5 k6 k7 k8 k9 ka kb kc kd ke kf kg kh ki kj kk kl km kn ko kp kq kr ks kt ku kv kw kx ky kz p0 p1 p2 p3 p4 p5 p6 p7 p8 p9 pa pb pc pd pe pf pg ph pi pj pk pl pm pn po pp pq pr ps pt pu pv pw px py pz y0 y1 y2 y3 y4 y5 y6 y7 y8 y9 ya yb yc yd ye yf yg yh yi yj yk yl ym yn yo yp yq yr ys yt yu yv yw yx yy yz z0 z1 z2 z3 z4 z5 z6 z7 z8 z9 za zb zc zd ze zf zg zh zi zj zk zl zm zn zo zp zq zr zs zt zu zv zw zx zy zz E0 E1 E2 E3 E4 E5 E6 E7 E8 E9 Ea Eb Ec Ed Ee Ef Eg Eh Ei Ej Ek El Em En Eo Ep Eq Er Es Et Eu Ev Ew Ex Ey Ez K0 K1 K2 K3 K4 K5 K6 K7 K8 K9 Ka Kb Kc Kd Ke Kf Kg Kh Ki Kj Kk Kl Km Kn Ko Kp Kq:Ac} (wr:Vz),g<=t->jt w3 wr bv ov gu gq n L v us qs->g<18446744073709551616->r<4294967296->g*v1+r=hh->Q<=g->
    Code.rounds prog (((Tryz.f185.body.map mE).getD []).getD 1 .skip) Qx (t+1) ⟨#[e0,e1,e2,e3,e4,e5,e6,e7,e8,e9,x10,.slice (some ⟨bv,ov,none⟩) (n+2) cv,.slice (some ⟨gu,0,none⟩) L L,.int .i64 ((n:Int)+2),ef,x15,.int .u64 (v1:Int),.int .u64 (v0:Int),.int .i64 (j:Int),el,.int .u64 (g:Int),.int .u64 (r:Int),er,es,et,eu,ev,ew,ex,ey,ez,d0,d1,d2,d3,d4,d5,d6,d7,d8,d9,da,db,dc,dd,de,df,dg,dh,di,dj,dk,dl,dm,dn,dp,dq,dr,ds,dt,du,dv,dw,dx,dy,dz,k0,k1,k2,k3,k4,k5,k6,k7,k8,k9,ka,kb,kc,kd,ke,kf,kg,kh,ki,kj,kk,kl,km,kn,ko,kp,kq,kr,ks,kt,ku,kv,kw,kx,ky,kz,p0,p1,p2,p3,p4,p5,p6,p7,p8,p9,pa,pb,pc,pd,pe,pf,pg,ph,pi,pj,pk,pl,pm,pn,po,pp,pq,pr,ps,pt,pu,pv,pw,px,py,pz,y0,y1,y2,y3,y4,y5,y6,y7,y8,y9,ya,yb,yc,yd,ye,yf,yg,yh,yi,yj,yk,yl,ym,yn,yo,yp,yq,yr,ys,yt,yu,yv,yw,yx,yy,yz,z0,z1,z2,z3,z4,z5,z6,z7,z8,z9,za,zb,zc,zd,ze,zf,zg,zh,zi,zj,zk,zl,zm,zn,zo,zp,zq,zr,zs,zt,zu,zv,zw,zx,zy,zz,E0,E1,E2,E3,E4,E5,E6,E7,E8,E9,Ea,Eb,Ec,Ed,Ee,Ef,Eg,Eh,Ei,Ej,Ek,El,Em,En,Eo,Ep,Eq,Er,Es,Et,Eu,Ev,Ew,Ex,Ey,Ez,K0,K1,K2,K3,K4,K5,K6,K7,K8,K9,Ka,Kb,Kc,Kd,Ke,Kf,Kg,Kh,Ki,Kj,Kk,Kl,Km,Kn,Ko,Kp,Kq],[]⟩ wr
structure vj (n j L v1 v0 u0 Q hh:Nat) (us:Vy):Prop where
 o1:L<=1099511627776
 o2:j+(n+2)<L
 o3:1<=v1
 o4:v1<4294967296
 o5:v0<4294967296
 o6:us.getD (j+n) 0=u0
 o7:u0<4294967296
 o8:Q<4294967296
 down:∀g r,g*v1+r=hh->r*4294967296+u0<g*v0->Q<g
 done:∀g r,g*v1+r=hh->g<4294967296->g*v0<=r*4294967296+u0->g<=Q+1
 brk:∀g r,g*v1+r=hh->4294967296<=r->g<4294967296
def Ql(I:Ab)(J:Vz)(K M N O P n j L c w x Q D:Nat)(v us R:Vy)(m q:Ac)(ok:vj n j L c w x Q D us)(f:uQ I J K M N O P n j L c w Q v us R m q)(E:Nat)(s:∀t,E=t+1->vk I J K M N O P n j L c w Q D v us R m q t):vk I J K M N O P n j L c w Q D v us R m q E:=by
 intro g r
 iterate 263 intro
 intro wr z y hg hr d S;obtain⟨o1,o2,o3,o4,U,F,o7,o8,G,i,l⟩:=ok;have V:=y.ul;have k2:=y.ub.cell (j+(n+2) - 2) oO;rw[show us.getD (j+(n+2) - 2) 0=x from by rw[show j+(n+2) - 2=j+n from by omega];exact F]at k2;obtain⟨p,e⟩:∃p:Nat,g*w=p:=⟨_,rfl⟩;have r1:(g:Int)*(w:Int)=(p:Int):=by rw[<-e];simp
 obtain⟨T,hT⟩:∃T:Nat,4294967296*r+x=T:=⟨_,rfl⟩;have W:bits .or .u64 ((r:Int)*4294967296) (x:Int)=(T:Int):=by rw[yO ((r:Int)*4294967296) (x:Int) r x 32 oO rfl o7 oO];omega
 have X:T<18446744073709551616:=oO;have Y:=Hi y;by_cases a:g<4294967296/\p<=T
 .
  have A:=i g r d a.1 oO;have Z:p<=18446744065119617025:=by rw[<-e];exact IF a.1 U
  have aa:¬((T:Int)<(p:Int)):=oO;have B:¬(4294967295:Int)<(g:Int):=oO;have HG:=Hi a.1;clear G i l y e hT a F d s;rw[kM]
  conv=>arg 2;whnf
  go_wp2;exact f _ _ Y.o HG.o S A
 obtain⟨k,u⟩:∃k,g=k+1:=⟨g - 1,by
  rcases eE g with h|h
  . exact absurd ⟨oO,by rw[<-e,h,qP];omega⟩ a
  . omega⟩
 obtain⟨t,rfl⟩:∃t,E=t+1:=⟨E - 1,oO⟩;have ih:=s t rfl;have b:k*c+(r+c)=D:=by rw[<-d,u,jB];omega
 have eg:(g:Int) - 1=(k:Int):=oO;have er:(r:Int)+(c:Int)=((r+c:Nat):Int):=oO;obtain⟨EG,ER,C,ab⟩:=Ic eg er u b;by_cases hB:4294967296<=g;have B:(4294967295:Int)<(g:Int):=oO;have HQ:=Hi (show Q<=k by omega);clear r1 W X V k2
 rotate_left 1
 have aa:(T:Int)<(p:Int):=oO;have ad:=G g r d oO;have Z:p<=18446744065119617025:=by rw[<-e];exact IF oO U
 have B:¬(4294967295:Int)<(g:Int):=oO;have af:(1:Int)<=(g:Int):=oO;have HQ:=Hi (show Q<=k by omega);clear ad
 all_goals
  clear hB u eg er e hT a s;by_cases hb:4294967296<=r+c
  . have H:=l k (r+c) b hb;have e2:=i k (r+c) b H (VO _ _ _ _ _ H U hb);obtain⟨E1,E2⟩:=Ia H e2;have ae:(4294967295:Int)<(r:Int)+(c:Int):=oO;clear G i l y F d b H e2 hb z S;rw[kM]
    conv=>arg 2;whnf
    go_wp2;rw[EG.o];exact f k _ Y.o E1.o HQ.o E2.o
  . have ae:¬(4294967295:Int)<(r:Int)+(c:Int):=oO;obtain⟨HT,HB⟩:=Ia (show k<=t by have:=C.o;omega) (show r+c<4294967296 by omega);clear G i l y F d b z S hb;rw[kM]
    conv=>arg 2;whnf
    go_wp2;rw[EG.o,ER.o];exact ih k (r+c) _ HT.o Y.o (oB C.o) HB.o ab.o HQ.o
def YR(f:Ab)(g:Vz)(i k l m o n j L d e r Q p:Nat)(v us q:Vy)(b c:Ac)(s:vj n j L d e r Q p us)(a:uQ f g i k l m o n j L d e Q v us q b c)(t:Nat):vk f g i k l m o n j L d e Q p v us q b c t:=by
 induction t with
 |zero=>exact Ql f g i k l m o n j L d e r Q p v us q b c s a 0 (fun t h=>oO)
 |succ t u=>exact Ql f g i k l m o n j L d e r Q p v us q b c s a (t+1) (fun w h=>Nat.succ.inj h ▸ u)
def uM(Qx:Ab)(w3:Vz)(bv ov cv gu gq n M L X V:Nat)(v:Vy)(x10:Ac):Prop:=
 ∀(us qs:Vy) {e0 e1 e2 e3 e4 e5 e6 e7 e8 e9 eb ee ef eh ei ej el eo ep er es et eu ev ew ex ey ez d0 d1 d2 d3 d4 d5 d6 d7 d8 d9 da db dc dd de df dg dh di dj dk dl dm dn dp dq dr ds dt du dv dw dx dy dz k0 k1 k2 k3 k4 k5 k6 k7 k8 k9 ka kb kc kd ke kf kg kh ki kj kk kl km kn ko kp kq kr ks kt ku kv kw kx ky kz p0 p1 p2 p3 p4 p5 p6 p7 p8 p9 pa pb pc pd pe pf pg ph pi pj pk pl pm pn po pp pq pr ps pt pu pv pw px py pz y0 y1 y2 y3 y4 y5 y6 y7 y8 y9 ya yb yc yd ye yf yg yh yi yj yk yl ym yn yo yp yq yr ys yt yu yv yw yx yy yz z0 z1 z2 z3 z4 z5 z6 z7 z8 z9 za zb zc zd ze zf zg zh zi zj zk zl zm zn zo zp zq zr zs zt zu zv zw zx zy zz E0 E1 E2 E3 E4 E5 E6 E7 E8 E9 Ea Eb Ec Ed Ee Ef Eg Eh Ei Ej Ek El Em En Eo Ep Eq Er Es Et Eu Ev Ew Ex Ey Ez K0 K1 K2 K3 K4 K5 K6 K7 K8 K9 Ka Kb Kc Kd Ke Kf Kg Kh Ki Kj Kk Kl Km Kn Ko Kp Kq:Ac} (wr:Vz),jt w3 wr bv ov gu gq n L v us qs->nF X V n M 0 us qs->
    Qx (.exit 0) ⟨#[e0,e1,e2,e3,e4,e5,e6,e7,e8,e9,x10,eb,.slice (some ⟨gu,0,none⟩) L L,ee,ef,.slice (some ⟨gq,0,none⟩) (M+1) (M+1),eh,ei,ej,el,eo,ep,er,es,et,eu,ev,ew,ex,ey,ez,d0,d1,d2,d3,d4,d5,d6,d7,d8,d9,da,db,dc,dd,de,df,dg,dh,di,dj,dk,dl,dm,dn,dp,dq,dr,ds,dt,du,dv,dw,dx,dy,dz,k0,k1,k2,k3,k4,k5,k6,k7,k8,k9,ka,kb,kc,kd,ke,kf,kg,kh,ki,kj,kk,kl,km,kn,ko,kp,kq,kr,ks,kt,ku,kv,kw,kx,ky,kz,p0,p1,p2,p3,p4,p5,p6,p7,p8,p9,pa,pb,pc,pd,pe,pf,pg,ph,pi,pj,pk,pl,pm,pn,po,pp,pq,pr,ps,pt,pu,pv,pw,px,py,pz,y0,y1,y2,y3,y4,y5,y6,y7,y8,y9,ya,yb,yc,yd,ye,yf,yg,yh,yi,yj,yk,yl,ym,yn,yo,yp,yq,yr,ys,yt,yu,yv,yw,yx,yy,yz,z0,z1,z2,z3,z4,z5,z6,z7,z8,z9,za,zb,zc,zd,ze,zf,zg,zh,zi,zj,zk,zl,zm,zn,zo,zp,zq,zr,zs,zt,zu,zv,zw,zx,zy,zz,E0,E1,E2,E3,E4,E5,E6,E7,E8,E9,Ea,Eb,Ec,Ed,Ee,Ef,Eg,Eh,Ei,Ej,Ek,El,Em,En,Eo,Ep,Eq,Er,Es,Et,Eu,Ev,Ew,Ex,Ey,Ez,K0,K1,K2,K3,K4,K5,K6,K7,K8,K9,Ka,Kb,Kc,Kd,Ke,Kf,Kg,Kh,Ki,Kj,Kk,Kl,Km,Kn,Ko,Kp,Kq],[]⟩ wr
def tA(Qx:Ab)(w3:Vz)(bv ov cv gu gq n M L v1 v0 X V:Nat)(v:Vy)(x10:Ac)(t:Nat):Prop:=
 ∀(us qs:Vy) {e0 e1 e2 e3 e4 e5 e6 e7 e8 e9 ef el eo ep er es et eu ev ew ex ey ez d0 d1 d2 d3 d4 d5 d6 d7 d8 d9 da db dc dd de df dg dh di dj dk dl dm dn dp dq dr ds dt du dv dw dx dy dz k0 k1 k2 k3 k4 k5 k6 k7 k8 k9 ka kb kc kd ke kf kg kh ki kj kk kl km kn ko kp kq kr ks kt ku kv kw kx ky kz p0 p1 p2 p3 p4 p5 p6 p7 p8 p9 pa pb pc pd pe pf pg ph pi pj pk pl pm pn po pp pq pr ps pt pu pv pw px py pz y0 y1 y2 y3 y4 y5 y6 y7 y8 y9 ya yb yc yd ye yf yg yh yi yj yk yl ym yn yo yp yq yr ys yt yu yv yw yx yy yz z0 z1 z2 z3 z4 z5 z6 z7 z8 z9 za zb zc zd ze zf zg zh zi zj zk zl zm zn zo zp zq zr zs zt zu zv zw zx zy zz E0 E1 E2 E3 E4 E5 E6 E7 E8 E9 Ea Eb Ec Ed Ee Ef Eg Eh Ei Ej Ek El Em En Eo Ep Eq Er Es Et Eu Ev Ew Ex Ey Ez K0 K1 K2 K3 K4 K5 K6 K7 K8 K9 Ka Kb Kc Kd Ke Kf Kg Kh Ki Kj Kk Kl Km Kn Ko Kp Kq:Ac} (wr:Vz),t<=M+1->jt w3 wr bv ov gu gq n L v us qs->nF X V n M t us qs->
    Code.rounds prog (((Tryz.f185.body.map mE).getD []).getD 0 .skip) Qx (t+1) ⟨#[e0,e1,e2,e3,e4,e5,e6,e7,e8,e9,x10,.slice (some ⟨bv,ov,none⟩) (n+2) cv,.slice (some ⟨gu,0,none⟩) L L,.int .i64 ((n:Int)+2),ef,.slice (some ⟨gq,0,none⟩) (M+1) (M+1),.int .u64 (v1:Int),.int .u64 (v0:Int),.int .i64 ((t:Int) - 1),el,eo,ep,er,es,et,eu,ev,ew,ex,ey,ez,d0,d1,d2,d3,d4,d5,d6,d7,d8,d9,da,db,dc,dd,de,df,dg,dh,di,dj,dk,dl,dm,dn,dp,dq,dr,ds,dt,du,dv,dw,dx,dy,dz,k0,k1,k2,k3,k4,k5,k6,k7,k8,k9,ka,kb,kc,kd,ke,kf,kg,kh,ki,kj,kk,kl,km,kn,ko,kp,kq,kr,ks,kt,ku,kv,kw,kx,ky,kz,p0,p1,p2,p3,p4,p5,p6,p7,p8,p9,pa,pb,pc,pd,pe,pf,pg,ph,pi,pj,pk,pl,pm,pn,po,pp,pq,pr,ps,pt,pu,pv,pw,px,py,pz,y0,y1,y2,y3,y4,y5,y6,y7,y8,y9,ya,yb,yc,yd,ye,yf,yg,yh,yi,yj,yk,yl,ym,yn,yo,yp,yq,yr,ys,yt,yu,yv,yw,yx,yy,yz,z0,z1,z2,z3,z4,z5,z6,z7,z8,z9,za,zb,zc,zd,ze,zf,zg,zh,zi,zj,zk,zl,zm,zn,zo,zp,zq,zr,zs,zt,zu,zv,zw,zx,zy,zz,E0,E1,E2,E3,E4,E5,E6,E7,E8,E9,Ea,Eb,Ec,Ed,Ee,Ef,Eg,Eh,Ei,Ej,Ek,El,Em,En,Eo,Ep,Eq,Er,Es,Et,Eu,Ev,Ew,Ex,Ey,Ez,K0,K1,K2,K3,K4,K5,K6,K7,K8,K9,Ka,Kb,Kc,Kd,Ke,Kf,Kg,Kh,Ki,Kj,Kk,Kl,Km,Kn,Ko,Kp,Kq],[]⟩ wr
def YU(c:Ab)(d:Vz)(e f g h i n M L l m X V:Nat)(v:Vy)(b:Ac)(a:uM c d e f g h i n M L X V v b):tA c d e f g h i n M L l m X V v b 0:=by
 intro us r
 iterate 265 intro
 intro wr s j k;obtain⟨p,q⟩:=Ia j k;clear j k;rw[kM]
 conv=>arg 2;whnf
 go_wp2;exact a _ _ _ p.o q.o
def YT(Qx:Ab)(w3:Vz)(bv ov cv gu gq n M L f v0 X V:Nat)(v:Vy)(l:Ac)(hL:L=M+n+3)(O:L<=1099511627776)(P:Num 4294967296 v V)(R:v.length=n+2)(S:v.getD (n+1) 0=f)(U:v.getD n 0=v0)(h1:1<=f)(j:Nat)(ih:tA Qx w3 bv ov cv gu gq n M L f v0 X V v l j):tA Qx w3 bv ov cv gu gq n M L f v0 X V v l (j+1):=by
 intro us W
 iterate 265 intro
 intro wr ai hm H;have aj:f<4294967296:=by rw[<-S];exact P.small.getD oO _
 have ak:v0<4294967296:=by rw[<-U];exact P.small.getD oO _
 have m:0<V:=by have y:=P.trim.pK (B:=4294967296) oO;rw[P.eq]at y;have e2:0<4294967296 ^ (v.length - 1):=gU oO;omega
 have az:=H.ulen;have ei:((j+1:Nat):Int) - 1=(j:Int):=oO;rw[ei];clear ei;obtain⟨q,r⟩:∃d,us.getD (j+(n+2)) 0=d:=⟨_,rfl⟩;obtain⟨u1,A⟩:∃d,us.getD (j+(n+1)) 0=d:=⟨_,rfl⟩;obtain⟨u0,C⟩:∃d,us.getD (j+n) 0=d:=⟨_,rfl⟩;have b2:q<4294967296:=by rw[<-r];exact H.usmall.getD oO _
 have b1:u1<4294967296:=by rw[<-A];exact H.usmall.getD oO _
 have b0:u0<4294967296:=by rw[<-C];exact H.usmall.getD oO _
 have g2:=hm.ub.cell (j+(n+2)) oO;have g1:=hm.ub.cell (j+(n+1)) oO;rw[r]at g2;rw[A]at g1;obtain⟨s,al⟩:=nm (q*4294967296+u1);obtain⟨Q,hQ⟩:=nm (val 4294967296 us / (4294967296 ^ j*V));obtain⟨G1,G2,G3,G4⟩:=H.F8 oO P R r A C S U h1 al hQ;have am:=H.FZ m;rw[hQ]at am;have ok:vj n j L f v0 u0 Q s us:=⟨O,oO,h1,aj,ak,C,b0,am,G2,G3,G4⟩;have a0:bits .or .u64 ((q:Int)*4294967296) (u1:Int)=(s:Int):=by rw[yO ((q:Int)*4294967296) (u1:Int) q u1 32 oO rfl b1 oO];omega
 have a1:s<18446744073709551616:=oO;obtain⟨t,u⟩:∃t,s / f=t:=⟨_,rfl⟩;obtain⟨Y,D⟩:∃Y,s % f=Y:=⟨_,rfl⟩;have t1:(s:Int) / (f:Int)=(t:Int):=by rw[<-u];simp
 have t2:(s:Int) % (f:Int)=(Y:Int):=by rw[<-D];simp
 have t3:(s:Int).tmod (f:Int)=(Y:Int):=by rw[kN oO];exact t2
 have t4:(s:Int).tdiv (f:Int)=(t:Int):=by rw[nw oO];exact t1
 have Z:t<18446744073709551616:=by rw[<-u];exact bQ (mR _ _) a1
 have a2:Y<f:=by rw[<-D];exact eU _ oO
 have t5:=FM t Z;have an:t*f+Y=s:=by rw[<-u,<-D,bV];exact iS _ _
 have h:Q<=t:=by rw[<-u];exact G1
 have qv:((f:Int) == 0)=false:=by rw[aJ];omega
 obtain⟨OK,HM,I,HQ,ao,a3,i,E,HL⟩:=Ih ok hm H hQ r an P R hL;have F:=Hi ai;have k:j+(n+2)<L:=oO;have ba:(j:Int)+((n:Int)+2)<(L:Int):=oO;have bb:(0:Int)<=(j:Int)+((n:Int)+2):=oO;have bc:(j:Int)+((n:Int)+2) - 1<(L:Int):=oO;have bd:(0:Int)<=(j:Int)+((n:Int)+2) - 1:=oO;clear G1 G2 G3 G4 u D an hQ r A C H hm al az P R S U ok hL ai;rw[kM]
 conv=>arg 2;whnf
 go_wp2;go_quiet (fail);go_wp2;go_quiet (fail);go_wp2;refine rT (t+1) ?_;refine(YR _ w3 bv ov cv gu gq n j L f v0 u0 Q s v us W l _ OK.o ?hex t) t Y _ lZ ((HM.o.drewN _).drewN _) Z oO a3.o h
 case hex=>
  clear g1 g2 a0 t1 t2 t3 t4 t5 Z a2 h qv;intro g
  iterate 264 intro
  intro be ap a4 h aa;go_wp2;refine rT (n+2+1) ?_;refine(YP _ w3 bv ov cv gu gq n j L (val 4294967296 (us.take (j+(n+2)))) q g v W l _ _ _ O k a4 ?hex2 (n+2)) 0 0 0 us _ oO ap oO oO ao.o ?hz2 ?hv2
  case hz2=> intro p hp;have y:=HL.o;have e2:=F.o;have e3:=qi (B:=4294967296) oO i.o.small;rw[i.o.eq,E.o]at e3;have e4:=I.o.zero oO e3;exact VJ 4294967296 oO us (j+(n+2)) e4 p hp
  case hv2=>simp[val]
  case hex2=>
   intro c d us1
   iterate 262 intro
   intro bf b hc hd ha hz ab;have a5:=I.o.qlen;have w:=b.ul;have k0:=b.ub.cell (j+(n+2)) oO;have k1:=b.ub.free (j+(n+2));rw[ha]at k0;have f0:=b.qb.cell j (oB F.o);have f1:=b.qb.free j;obtain⟨z,aq⟩:=nm (W.getD j 0);rw[aq]at f0;have ad:=qi (B:=4294967296) oO i.o.small;rw[i.o.eq,E.o]at ad;have hU:val 4294967296 us=val 4294967296 (us.take (j+(n+2)))+4294967296 ^ (j+(n+2))*q:=by have y:=HL.o;have e2:=F.o;exact Oh 4294967296 us (j+(n+2)) q (oB I.o.ulen) ao.o (I.o.zero oO ad)
   have x:val 4294967296 (us1.take (j+(n+2)))<4294967296 ^ (j+(n+2)):=by have y:=qi (B:=4294967296) oO (b.usmall.take (j+(n+2)));rw[cI,w,eH oO]at y;exact y
   rw[show v.take (n+2)=v from bL (by rw[E.o];exact aV _),i.o.eq]at ab;have J:=VM 4294967296 j (n+2) q c d g _ _ V _ x hU m oO ab (by rw[HQ.o];exact h) (by rw[HQ.o];exact aa) oO;have hD:4294967296 ^ j*V<=4294967296 ^ (j+(n+2)):=by rw[eG];exact cR _ oO
   have K:=eU (val 4294967296 us) (gL (gU (n:=j) (show 0<4294967296 by omega)) m);rw[HQ.o]at J;obtain⟨ae,HZ,HD,ar,af⟩:=Id b hz hD K w;have bg:(j:Int)<(M:Int)+1:=oB F.o;have bh:=Hi I.o;clear hD K ab hU ad hz b w a5 aq ha x ap;rcases J with ⟨rfl,ag,e⟩|⟨au,ag,e⟩
   . have tt:IntKind.u64.wrap (IntKind.u64.wrap ((q:Int) - (c:Int)) - (d:Int))=0:=by rw[xw,xw];omega
     have ah:=Hi e;clear e ag h aa;go_wp2;refine ih (us1.set (j+(n+2)) 0) (W.set j g) _ (oB F.o) ((ae.o.A0 _ 0 oO).FV j g) (I.o.next (oB F.o) m HQ.o (by rw[aQ,af.o,HL.o]) (ae.o.usmall.set _ oO) ?_);rw[Og _ _ _ (by rw[af.o];exact k) HZ.o];exact ah.o
   .
    obtain⟨T,hT⟩:∃T:Nat,T=18446744073709551615:=⟨_,rfl⟩;have tt:IntKind.u64.wrap (IntKind.u64.wrap ((q:Int) - (c:Int)) - (d:Int))=(T:Int):=by rw[xw,xw];omega
    have t1:(T:Int) % 4294967296=4294967295:=oO;have t2:(T:Int) / 9223372036854775808=1:=oO;have a6:T<18446744073709551616:=oO;have eg:(g:Int) - 1=(Q:Int):=oO;have EG:=Hi eg;have a7:(1:Int)<=(g:Int):=oO;have ah:=Hi e;clear e ag h aa hT eg au;go_wp2;rw[EG.o];refine rT (n+2+1) ?_;refine(Yp _ w3 bv ov cv gu gq n j L (val 4294967296 (us1.take (j+(n+2)))) 4294967295 v W l _ _ _ _ O k ?hex3 (n+2)) 0 0 (us1.set (j+(n+2)) 4294967295) _ oO (ae.o.A0 _ 4294967295 oO) oO (DB _ _ _ (by rw[af.o];exact k)) ?hz3 ?hv3
    case hz3=>intro p hp;rw[getD_set_ne _ _ _ _ oO];exact HZ.o p hp
    case hv3=>rw[List.take_set_of_le lZ];simp[val]
    case hex3=>
     clear k0 k1 f0 f1 tt t1 t2 a6 a7;intro c3 av
     iterate 263 intro
     intro bi a aw ax hz3 hv3;have k0:=a.ub.cell (j+(n+2)) (by rw[a.ul];exact k);have k1:=a.ub.free (j+(n+2));rw[ax]at k0;have f0:=a.qb.cell j (oC F.o I.o.qlen);have f1:=a.qb.free j;obtain⟨z',N⟩:∃z,W.getD j 0=z:=⟨_,rfl⟩;rw[N]at f0;have x:val 4294967296 (av.take (j+(n+2)))<4294967296 ^ (j+(n+2)):=by have y:=qi (B:=4294967296) oO (a.usmall.take (j+(n+2)));rw[cI,a.ul,eH oO]at y;exact y
     rw[show v.take (n+2)=v from bL (by rw[E.o];exact aV _),i.o.eq,ah.o]at hv3;obtain⟨a8,e⟩:=VH _ _ c3 _ _ x ar.o HD.o aw hv3;subst a8;obtain⟨G,a9,ay⟩:=Ib a hz3 e;clear a hz3 e hv3 x ax N aw;go_wp2;refine ih (av.set (j+(n+2)) 0) (W.set j Q) _ (oB F.o) ((G.o.A0 _ 0 oO).FV j Q) (I.o.next (oB F.o) m HQ.o (by rw[aQ,G.o.ul,HL.o]) (G.o.usmall.set _ oO) ?_);rw[Og _ _ _ (by rw[G.o.ul];exact k) a9.o];exact ay.o
def YS(d:Ab)(e:Vz)(f g h i j n M L c k X V:Nat)(v:Vy)(a:Ac)(q:L=M+n+3)(l:L<=1099511627776)(r:Num 4294967296 v V)(m:v.length=n+2)(o:v.getD (n+1) 0=c)(p:v.getD n 0=k)(s:1<=c)(b:uM d e f g h i j n M L X V v a)(t:Nat):tA d e f g h i j n M L c k X V v a t:=by
 induction t with
 |zero=>exact YU d e f g h i j n M L c k X V v a b
 |succ t u=>exact YT d e f g h i j n M L c k X V v a q l r m o p s t u
end Go.Proofs.YtfgclhpgdanmfaaGreatDoor
