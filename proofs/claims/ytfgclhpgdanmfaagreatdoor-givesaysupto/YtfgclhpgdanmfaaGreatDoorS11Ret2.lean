import Derived.Test.YtfgclhpgdanmfaaGreatDoorS10NatMany
import Derived.Deep.DeepCutAuto
namespace Go.Proofs.YtfgclhpgdanmfaaGreatDoor
set_option linter.defProp false
open Go.RowKit
open Go.Proofs.Tryz
set_option linter.unusedSimpArgs false
set_option linter.unusedVariables false
set_option maxHeartbeats 8000000
set_option maxRecDepth 1000000
variable{w w' w0:Vz}{a b:Vx}{c cap d f g h j k m n n1 x y:Nat}{p:Addr}{l:Vy}{v:Ac}{t:Vr}{C:Vw}
def jx.Jk{p:Nat}{f:Vy}{n':Nat}(h:jx w a c l n)(k:jx w a p f n')(hl:l.length=f.length):n=n':=by
 have e:l=f:=by
  apply Bk hl;intro i m o;obtain⟨b,g,q,_,d1⟩:=h.row.cell i m;obtain⟨r,d,j,_,d2⟩:=k.row.cell i o;rw[q]at j;obtain⟨rfl,rfl⟩:b=r/\g=d:=by simp at j;exact j
  rw[d1]at d2;simp only[jl,Value.int.injEq,uW]at d2;have d3:l.getD i 0=f.getD i 0:=oO;rw[aC,aC,gE m,gE o]at d3
  simpa using d3
 rw[<-h.num.eq,<-k.num.eq,e]
open Classical in
def UW:∃f:World->Value->Nat,∀(w:Vz)(a:Vx)(c:Nat) (l:Vy) (n:Nat),jx w a c l n->f w (.slice a l.length c)=n:=by
 have h:∀(w:Vz)(v:Ac),∃n:Nat,∀(a:Vx)(c:Nat)(l:Vy) (m:Nat),v=.slice a l.length c->jx w a c l m->n=m:=by
  intro w v;by_cases g:∃n a c l,v=.slice a (List.length l) c/\jx w a c l n
  . obtain⟨n,a,c,l,rfl,b⟩:=g;refine⟨n,fun o q r m e d=>?_⟩;simp only[BR]at e;obtain⟨rfl,i,rfl⟩:=e;exact b.Jk d i
  . exact⟨0,fun a c l m e d=>absurd ⟨m,a,c,l,e,d⟩ g⟩
 have j:∀p:World × Value,∃n:Nat,∀(a:Vx)(c:Nat)(l:Vy) (m:Nat),p.2=.slice a l.length c->jx p.1 a c l m->n=m:=fun p=>h p.1 p.2
 obtain⟨f,k⟩:=gQ j;exact⟨fun w v=>f (w,v),fun w a c l n b=>k (w,.slice a l.length c) a c l n rfl b⟩
def jx.kD{m:Vy}(h:jx w a c l x)(k:jx w' b d m y)(e:x<=y):l.length<=m.length:=
 h.num.fG dD (bQ e (by have:=qi (B:=18446744073709551616) dD k.num.small;rw[k.num.eq]at this;exact this))
theorem UV(h:Num 18446744073709551616 l x)(a:l.length=1):l.getD 0 0=x:=by
 rw[<-h.eq]
 match l,a with
 | [z],_=>simp[val]
structure oQ (w:Vz) (p:Addr) (v:Ac) (wl:Vz):Prop where
 b:Bl w wl
 c:wl.cell? p=some v
def oQ.drew{a:Vz}(h:oQ w p v a):oQ w p v a.drew:=⟨h.b.drew,h.c⟩
def oQ.below{a:Vz}(h:oQ w p v a)(d:p.block<w.heap.size)(k:Bl a w'):oQ w p v w':=
 ⟨h.b.trans (k.mono h.b.size),(k.cell (aF d h.b.size)).trans h.c⟩
def UU(w:Vz)(f:Addr)(v:Ac)(j:f.block<w.heap.size)(a:Vx)(cap d:Nat)(l:Vy)(x:Nat)(h:jx w a cap l x)(g:0<d)(k:d<18446744073709551616)(c:Vz)(i:oQ w f v c):
 Calls prog 163 #[.slice a l.length cap,.int .u64 d] c fun e w'=>e=.returned (.int .u64 ((x % d:Nat):Int))/\oQ w f v w'/\Below c.heap.size c w':=by
 refine(UK a cap d l x c (h.below i.b) g k).mono ?_;rintro e w' ⟨rfl,hb⟩;exact⟨rfl,i.below j hb,hb⟩
def UT(w:Vz)(b:Addr)(v:Ac)(c:b.block<w.heap.size)(x y:Nat)(d:x<18446744073709551616)(f:y<18446744073709551616)(a:Vz)(g:oQ w b v a):
 Calls prog 162 #[.int .u64 x,.int .u64 y] a fun e w'=>e=.returned (.int .u64 ((Nat.gcd x y:Nat):Int))/\oQ w b v w'/\Below a.heap.size a w':=by
 refine(UL x y a d f).mono ?_;rintro e w' ⟨rfl,hb⟩;exact⟨rfl,g.below c hb,hb⟩
def US{a:Vz}{G:Nat}(h:Bl w a)(c:0<G)(hb:G<18446744073709551616):uN w G (.returned (.slice (some ⟨a.heap.size,0,none⟩) 1 1)) (a.alloc (.cells #[.int .u64 G] 172)):=by have hB:jf .u64 172 (a.alloc (.cells (dA .u64 [G]) 172)) a.heap.size [G]:=mn _ _ _ _;exact⟨⟨some ⟨a.heap.size,0,none⟩,1,[G],rfl,hB.row 1 sS 1 oO,⟨fun d b=>by simp at b;omega,.inr sO,by simp[val]⟩,sS⟩,h.alloc h.size _⟩
def Hg(B:Nat)(w:Vz)(a b:Vx)(c d:Nat)(l m:Vy)(p q:Nat):Prop:=∃g1 g2 C1 C2,a=some ⟨g1,0,none⟩/\b=some ⟨g2,0,none⟩/\ON w g1 c C1 l p/\ON w g2 d C2 m q/\g1≠g2/\B<=g1/\B<=g2
def OB{cap':Nat}(h:jx w a cap l x)(b:pV w' g l)(c:l.length<=cap'):ON w' g cap' l l x:=⟨b,h.num.small,h.short,dB,h.num,c⟩
def UR(a1 a2:Vx)(c1 c2:Nat)(l m:Vy)(x y:Nat)(w:Vz)(h1:jx w a1 c1 l x)(h2:jx w a2 c2 m y)(hl:l.length<1099511627770)(hm:m.length<1099511627770):
 Calls prog 106 #[.slice a1 l.length c1,.slice a2 m.length c2] w (uN w (Nat.gcd x y)):=by
 have HC:=Hi (Hb a1 a2 c1 c2 l m x y w h1 h2);obtain⟨G,hG⟩:=nm (Nat.gcd x y);rw[hG];obtain⟨H1,H2,HG⟩:=Ib h1 h2 hG;clear h1 h2 hG;obtain⟨natAt,ap⟩:=UW;have t:=Hi ap;clear ap;go_enter func106,ntmps106;go_wp2_with fail;go_fit HC.o;rintro e w1 ⟨rfl,hb⟩;have P:=Hi hb;clear hb HC;go_upto_if 11 with fail
 go_cut [0,1] (fun xv yv wr=>∃(p q:Nat)(a b:Vx)(c d:Nat) (l m:Vy),xv=.slice a l.length c/\yv=.slice b m.length d/\q<=p/\l.length<1099511627770/\jx w a c l p/\jx w b d m q/\Nat.gcd p q=G/\wr=w1)
 case first=>
  by_cases be:x<y
  . have ar:=(zM x y).2 be;go_wp2_with fail;go_meet
    case rel=>exact⟨y,x,a2,a1,c2,c1,m,l,rfl,rfl,oO,hm,H2.o,H1.o,(oW y x).trans HG.o,rfl⟩
  . have ar:¬(kZ x y<0):=fun h=>oB ((zM x y).1 h)
    go_wp2_with fail;go_meet
    case rel=>exact⟨x,y,a1,a2,c1,c2,l,m,rfl,rfl,oO,hl,H1.o,H2.o,HG.o,rfl⟩
 case rest=>
 clear hl hm H1 H2 HG;obtain⟨wx,rfl⟩:∃wx,wx=wc:=⟨wc,rfl⟩;obtain⟨p,q,a,b,c,d,l,m,rfl,rfl,s,D,g,f,U,rfl⟩:=hcut;obtain⟨HX,HY,HG⟩:=Ib g f U;clear g f U;go_upto_if 16 with fail
 go_cut [0,1] (fun xv yv wr=>∃(p q:Nat)(a b:Vx)(c d:Nat) (l m:Vy),xv=.slice a l.length c/\yv=.slice b m.length d/\q<=p/\l.length<1099511627770/\jx wr a c l p/\jx wr b d m q/\Nat.gcd p q=G/\(1<m.length->Hg w.heap.size wr a b c d l m p q)/\Below w.heap.size w wr)
 case first=>
  by_cases bf:1<m.length
  . have bg:(1:Int)<(m.length:Int):=oO;have bw:=HY.o.kD HX.o s;have au:=Hi (KI a c l p wx (HX.o.below P.o) oO);go_wp2_with fail;go_fit au.o;rintro e w2 ⟨⟨V,d1,rfl,bh,bx,av⟩,A⟩;obtain⟨aw,aa,i⟩:=Ib (KI b d m q w2 ((HY.o.below P.o).below A) oO) av (P.o.trans (A.mono P.o.size));have ax:w.heap.size<=V:=oB P.o.size;clear av A au;go_wp2_with fail;go_fit aw.o;rintro e w3 ⟨⟨N,d2,rfl,bi,bz,ay⟩,k⟩;obtain⟨Q,B⟩:=Ia (OB HX.o (aa.o.below k aa.o.lt) bh) (OB HY.o ay bi);have b0:V<N:=oB aa.o.lt;have j:=Hi (i.o.trans (k.mono i.o.size));clear ay k aw;go_wp2_with fail;go_meet
    case rel=>exact⟨p,q,some ⟨V,0,none⟩,some ⟨N,0,none⟩,d1,d2,l,m,rfl,rfl,s,oO,Q.o.u64,B.o.u64,HG.o,(fun _=>⟨V,N,l,m,rfl,rfl,Q.o,B.o,oO,ax,oO⟩),j.o⟩
  . have bg:¬((1:Int)<(m.length:Int)):=oO;go_wp2_with fail;go_meet
    case rel=>exact⟨p,q,a,b,c,d,l,m,rfl,rfl,s,oO,HX.o.below P.o,HY.o.below P.o,HG.o,(fun h=>absurd h bf),P.o⟩
 case rest=>
 clear s D HX HY HG P;obtain⟨wy,rfl⟩:∃wy,wy=wc:=⟨wc,rfl⟩;have az:=Hi hcut;clear hcut;go_wp2_with fail;go_loopw [0,1] (fun xv yv wr=>∃(p q:Nat)(a b:Vx)(c d:Nat) (l m:Vy),xv=.slice a l.length c/\yv=.slice b m.length d/\q<=p/\l.length<1099511627770/\jx wr a c l p/\jx wr b d m q/\Nat.gcd p q=G/\(1<m.length->Hg w.heap.size wr a b c d l m p q)/\Below w.heap.size w wr) (fun xv yv wr=>natAt wr xv+natAt wr yv)
 case atStart=>exact az.o
 case round=>
  obtain⟨p,q,a,b,c,d,l,m,rfl,rfl,s,D,g,f,U,a0,hb⟩:=hrel;have a3:=Hi a0;clear a0;have b1:=f.kD g s;obtain⟨R,v,E,u⟩:=Ic g f U hb;by_cases b2:m.length<=1
  .
   have bj:¬(1:Int)<(m.length:Int):=oO;by_cases n:q=0
   . have bk:((m.length:Int) == 0)=true:=by have:=(f.num.eV dD).1 n;simp[this]
     have HQ:=Hi n;clear g f U hb n;go_wp2;go_ret;have e1:=E.o;rw[HQ.o,oE]at e1;exact⟨⟨a,c,l,rfl,by rw[<-e1];exact R.o⟩,u.o⟩
   .
    have bk:((m.length:Int) == 0)=false:=by rw[aJ];have:=(f.num.eV dD).2;omega
    have F:m.length=1:=oB ((f.num.eV dD).2);have HO:=Hi (Hc b d m q wr f);by_cases C:q=1
    . rw[show decide (q=1)=true by simpa using C]at HO;have HQ:=Hi C;clear g f U hb n C F;go_wp2_with fail;go_fit HO.o;rintro e w2 ⟨rfl,hw⟩;subst hw;go_wp2;go_ret;have e1:=E.o;rw[HQ.o,Nat.gcd_one_right]at e1;exact⟨⟨b,d,m,rfl,by rw[<-e1,<-HQ.o];exact v.o⟩,u.o⟩
    .
     rw[show decide (q=1)=false by simpa using C]at HO;obtain⟨b',S,rfl,ab,a4⟩:=f.row.cell 0 oO;have T:=UV f.num F;rw[T,dV]at a4;have ad:q<18446744073709551616:=by rw[<-T];exact f.num.small.getD oO 0
     obtain⟨b3,HR⟩:=Ia T (UU wr ⟨b',S,none⟩ (.int .u64 q) ab a c q l p g oO ad);obtain⟨r,hr⟩:=nm (p % q);rw[hr]at HR;have b4:r<q:=by rw[<-hr];exact eU _ oO
     obtain⟨bl,b5,ae⟩:=Ib hr C n;clear g f U hb C T hr n F;go_wp2_with fail;go_fit HO.o;rintro e w2 ⟨rfl,hw⟩;subst hw;go_wp2_with fail;have HI:O (oQ w2 ⟨b',S,none⟩ (.int .u64 q) w2):=Hi ⟨ac _ _,a4⟩;have i0:(0:Int)<(m.length:Int):=oC ((v.o.num.eV dD).2) ae.o;have af:O (Nat.gcd q r=G):=Hi (by rw[<-E.o,<-bl.o];exact FO p q);have HW:=Hi (UT w2 ⟨b',S,none⟩ (.int .u64 q) ab q r ad oO);have b6:0<m.length:=oO;rw[af.o]at HW;go_region_held3 (fun w'=>w'.cell? ⟨b',S,none⟩=some (.int .u64 q)) ((first|(simp [*];done)|exact ce ((ac _ w4).alloc lZ _) z4 k0)) (first
      |(
       go_at_call 163
       first
        |go_fit (HR.o _ HI.o)
        |go_fit (HR.o _ HI.o.drew)
       rintro e w3 ⟨rfl,W,hb⟩;have k0:=W.c;have a5:=Hi W
       clear W hb)
      |(
       go_at_call 162
       first
        |go_fit (HW.o _ a5.o)
        |go_fit (HW.o _ a5.o.drew)
       rintro e w4 ⟨rfl,W,hb⟩;have k0:=W.c;have z4:=aF ab W.b.size;have z5:=Nat.ne_of_lt z4;have bm:=Hi W
       clear W hb))
     all_goals
      go_wp2;go_ret;have bn:0<G:=by rw[<-af.o];exact Nat.gcd_pos_of_pos_left _ (oB ae.o)
      have bo:G<18446744073709551616:=by rw[<-af.o];exact bQ (CA _ (oB ae.o)) ad
      exact US (u.o.trans (bm.o.b.mono u.o.size)) bn bo
  .
   have bj:(1:Int)<(m.length:Int):=oO;have n:0<q:=by
    rcases eE q with h0|h0
    . have:=(f.num.eV dD).1 h0;omega
    . exact h0
   obtain⟨V,N,C1,C2,rfl,rfl,a6,a7,a8,bp,a9⟩:=a3.o oO;obtain⟨Q,B,HM⟩:=Ib a6 a7 (UJ (some ⟨V,0,none⟩) (some ⟨N,0,none⟩) c d (l.length - 2) l m p q wr g f s oO);clear g f U hb a6 a7 a3;go_wp2_with fail;go_fit HM.o;rintro e w2 ⟨⟨ba,xx,xy,yx,yy,rfl,hS⟩,A⟩;obtain⟨HS,i,HN⟩:=Ib hS A (UI ba xx xy yx yy);clear hS A HM;unfold ni;unfold ni at HN;by_cases z:xy=0
   . rw[show decide (xy=0)=true by simpa using z]at HN;clear z;go_wp2_with fail;go_fit (HN.o _);rintro e w3 ⟨rfl,k⟩;have j:=Hi ((i.o.alloc i.o.size _).trans (k.mono (i.o.alloc i.o.size _).size));clear k HN;have HD:=Hi (OC (some ⟨V,0,none⟩) (some ⟨N,0,none⟩) c d (m.length - 2) l m p q w3 (R.o.below j.o) (v.o.below j.o) s oO D);go_wp2_with fail;go_fit HD.o;rintro e w4 ⟨⟨aq,cq,lq,gr,cr,Cr,lr,rfl,H,ag,b7⟩,I⟩;have J:=Hi (j.o.trans (I.mono j.o.size));have K:=ag.u64;have L:=Hi K;have bb:=Hi (B.o.below J.o);have bq:=Hi ag;have bu:N<gr:=oC B.o.pre.lt j.o.size;clear ag;have bv:=eU p n;have Z:=Hi (v.o.below J.o);have m1:=t.o _ _ _ _ _ R.o;have m2:=t.o _ _ _ _ _ v.o;have m3:=t.o _ _ _ _ _ Z.o;have m4:=t.o _ _ _ _ _ L.o;obtain⟨ah,ai,aj,ak⟩:=Ic m1 m2 m3 m4;clear H K I HD m1 m2 m3 m4;go_wp2;refine⟨⟨q,p % q,some ⟨N,0,none⟩,some ⟨gr,0,none⟩,d,cr,m,lr,rfl,rfl,oO,oO,Z.o,L.o,(FO p q).trans E.o,fun _=>⟨N,gr,C2,Cr,rfl,rfl,bb.o,bq.o,oO,a9,oO⟩,u.o.trans (J.o.mono u.o.size)⟩,?_⟩;rw[ah.o,ai.o,aj.o,ak.o];omega
   . rw[show decide (xy=0)=false by simpa using z]at HN;obtain⟨X,Y,hL⟩:=HS.o.go oO;have HL:=Hi hL;have al:=hL.less n;have b8:=hL.le;have br:=Hi hL.gcd;clear hL z;go_wp2_with fail;go_fit (HN.o _);rintro e w3 ⟨rfl,k⟩;obtain⟨j,M⟩:=Ia ((i.o.alloc i.o.size _).trans (k.mono (i.o.alloc i.o.size _).size)) ((cK w2 _ _).below k wO);clear k HN;have k0:=M.o.cell 0;have k1:=M.o.cell 1;have k2:=M.o.cell 2;have k3:=M.o.cell 3;have k4:=M.o.cell 4;simp at k0 k1 k2 k3 k4;have HD:=Hi (UH ba xx xy yx yy V N c d C1 C2 l m p q X Y w3 (Q.o.below j.o) (B.o.below j.o) a8 s HS.o HL.o n w.heap.size bp a9);go_wp2_with fail;go_fit HD.o;rintro e w4 ⟨⟨ga,gb,ca,cb,Ca,Cb,la,lb,rfl,am,an,bc⟩,I⟩;have J:=Hi ((u.o.trans (j.o.mono u.o.size)).trans I);have H:=am.u64;have K:=an.u64;obtain⟨bs,bt⟩:=Ia am an;have ao:ga≠gb/\w.heap.size<=ga/\w.heap.size<=gb:=oO;clear am an bc;obtain⟨bd,L,ah,ai⟩:=Ic H K (t.o _ _ _ _ _ R.o) (t.o _ _ _ _ _ v.o);obtain⟨aj,ak⟩:=Ia (t.o _ _ _ _ _ bd.o) (t.o _ _ _ _ _ L.o);have b9:=H.kD v.o al.1;clear H K I HD;go_wp2;refine⟨⟨X,Y,some ⟨ga,0,none⟩,some ⟨gb,0,none⟩,ca,cb,la,lb,rfl,rfl,oO,oO,bd.o,L.o,br.o.trans E.o,fun _=>⟨ga,gb,Ca,Cb,rfl,rfl,bs.o,bt.o,ao.1,ao.2.1,ao.2.2⟩,J.o⟩,?_⟩;rw[ah.o,ai.o,aj.o,ak.o];omega
def P4(neg:Bool):kJ neg 0=0:=by cases neg<;>simp[kJ]
def XA{neg:Bool}{t:Nat}(h:0<t):decide (kJ neg t<0)=neg:=by cases neg<;>simp[kJ]<;>omega
def EN(x:Int):kJ (decide (x<0)) x.natAbs=x:=by
 unfold kJ;by_cases h:x<0
 . simp[h];omega
 . simp[h];omega
def FI(p q:Bool)(s t:Nat):kJ (p != q) (s*t)=kJ p s*kJ q t:=by cases p<;>cases q<;>simp[kJ]<;>grind
def Xz(p:Bool)(s:Nat):kJ (!p) s= - kJ p s:=by cases p<;>simp[kJ]
def P3{neg:Bool}{t:Nat}(b:0<d)(a:Nat.Coprime t d):(mkRat (kJ neg t) d).num=kJ neg t/\(mkRat (kJ neg t) d).den=d:=by have e:=Rat.mk_eq_mkRat (kJ neg t) d oO (by rw[IW];exact a);rw[<-e];exact⟨rfl,rfl⟩
def Xy(x y:Rat)(b:Nat.gcd x.num.natAbs y.den=g)(c:Nat.gcd y.num.natAbs x.den=h):
 mkRat (kJ (decide (x.num<0) != decide (y.num<0)) (x.num.natAbs / g*(y.num.natAbs / h))) (x.den / h*(y.den / g))=x*y/\Nat.Coprime (x.num.natAbs / g*(y.num.natAbs / h)) (x.den / h*(y.den / g)):=by
 have d:0<g:=by rw[<-b];exact eQ _ y.den_pos
 have e:0<h:=by rw[<-c];exact eQ _ x.den_pos
 have d1:=b ▸ nK _ _;have d2:=b ▸ lG _ _;have d3:=c ▸ nK _ _;have d4:=c ▸ lG _ _;have f:=it d1;have i:=it d2;have j:=it d3;have k:=it d4;constructor
 .
  rw[<-Kr,<-vS (a:=g*h) (oB (gL d e))]
  congr 1
  .
   have k1:(kJ (decide (x.num<0)) (x.num.natAbs / g))*(g:Int)=x.num:=by have:=FI (decide (x.num<0)) false (x.num.natAbs / g) g;rw[show kJ false g=(g:Int) from rfl,f,rz,EN]at this;exact this.symm
   have k2:(kJ (decide (y.num<0)) (y.num.natAbs / h))*(h:Int)=y.num:=by have:=FI (decide (y.num<0)) false (y.num.natAbs / h) h;rw[show kJ false h=(h:Int) from rfl,j,rz,EN]at this;exact this.symm
   rw[FI,<-k1,<-k2,gi];rw[k1,k2]
   conv=>rhs;rw[<-k1,<-k2]
   grind
  . rw[fE,cY,cY]
    conv=>rhs;rw[<-k,<-i]
    grind
 .
  have c1:=CB (rm d1) (BW (rm d4) x.reduced);have c2:Nat.Coprime (x.num.natAbs / g) (y.den / g):=by have:=np (m:=x.num.natAbs) (n:=y.den) oO;rw[b]at this;exact this
  have c3:Nat.Coprime (y.num.natAbs / h) (x.den / h):=by have:=np (m:=y.num.natAbs) (n:=x.den) oO;rw[c]at this;exact this
  have c4:=CB (rm d3) (BW (rm d2) y.reduced);exact Nat.Coprime.mul_left (Mf c1 c2) (Mf c3 c4)
def Xx(x y:Rat){t:Nat}{neg:Bool}(c:Nat.gcd x.den y.den=g)(e:kJ neg t=x.num*((y.den / g:Nat):Int)+y.num*((x.den / g:Nat):Int))(d:Nat.gcd t g=h):
 mkRat (kJ neg (t / h)) (x.den / g*(y.den / h))=x+y/\Nat.Coprime (t / h) (x.den / g*(y.den / h)):=by
 have f:0<g:=by rw[<-c];exact eQ _ y.den_pos
 have i:0<h:=by rw[<-d];exact eQ _ f
 have d1:=c ▸ nK _ _;have d2:=c ▸ lG _ _;have d3:=d ▸ nK _ _;have d4:=d ▸ lG _ _;have j:=it d1;have l:=it d2;have o:=it d3;have p:=it (Nat.dvd_trans d4 d2);have q:t=(x.num*((y.den / g:Nat):Int)+y.num*((x.den / g:Nat):Int)).natAbs:=by rw[<-e,IW]
 constructor
 .
  rw[<-H5,<-vS (a:=h*g) (oB (gL i f))]
  congr 1
  .
   have k1:kJ neg (t / h)*(h:Int)=kJ neg t:=by have:=FI neg false (t / h) h;rw[show kJ false h=(h:Int) from rfl,o,rz]at this;exact this.symm
   rw[gi,<-Int.mul_assoc,k1,e]
   conv=>rhs;rw[<-j,<-l,gi,gi]
   grind
  . rw[fE,cY,cY]
    conv=>rhs;rw[<-j,<-p]
    grind
 . have b:=Rat.add.aux x y c.symm rfl rfl;simp only[]at b;rw[<-q,d]at b;have k:=np (m:=t) (n:=x.den / g*y.den) (by rw[<-b];exact i);rw[<-b,Nat.mul_div_assoc _ (Nat.dvd_trans d4 d2)]at k;exact k
def PZ{y:Rat}(a:y≠0):mkRat (kJ (decide (y.num<0)) y.den) y.num.natAbs=y⁻¹/\Nat.Coprime y.den y.num.natAbs/\0<y.num.natAbs:=by
 have b:y.num≠0:=fun h=>a (jA.1 h)
 refine⟨?_,Nat.Coprime.symm y.reduced,oO⟩;rw[Rat.inv_def];by_cases h:y.num<0
 . conv=>rhs;rw[show y.num= -((y.num.natAbs:Nat):Int) by omega,Rat.divInt_neg',Bg]
   simp[kJ,h]
 . conv=>rhs;rw[show y.num=((y.num.natAbs:Nat):Int) by omega]
   rw[Bg];simp[kJ,h]
structure xD where
 a:Option Addr
 n:Nat
 c:Nat
 x:Nat
 k:Nat
abbrev AU:=List xD
def mz(w:Vz)(a:Vx)(n c x:Nat):Prop:=∃l,List.length l=n/\jx w a c l x
def mz.below(h:mz w a n c x)(hb:Bl w w'):mz w' a n c x:=by obtain⟨l,hl,h⟩:=h;exact⟨l,hl,h.below hb⟩
def mz.pB(h:mz w a n c x):x=0↔n=0:=by obtain⟨l,rfl,h⟩:=h;exact h.num.eV dD
def jx.jd(h:jx w a c l n)(b:n<2 ^ k):l.length<=k:=by apply h.num.fG dD;refine aF b ?_;exact iJ dD k
def mz.some(h:mz w a n c x)(f:0<x):∃b o,a=some ⟨b,o,none⟩:=by
 have g:n≠0:=fun d=>oB (h.pB.2 d)
 obtain⟨l,hl,h⟩:=h;obtain⟨b,o,e,_⟩:=h.row.cell 0 oO;exact⟨b,o,e⟩
structure fQ (w0 w:Vz) (L:List xD):Prop where
 base:Bl w0 w
 ts:∀t,t∈ L->mz w t.a t.n t.c t.x/\t.x<2 ^ t.k
def fQ.below{L:List xD}(h:fQ w0 w L)(hb:Bl w w'):fQ w0 w' L:=
 ⟨h.base.trans (hb.mono h.base.size),fun t a=>⟨(h.ts t a).1.below hb,(h.ts t a).2⟩⟩
def fQ.drew{L:List xD}(h:fQ w0 w L):fQ w0 w.drew L:=h.below bR.drew
def fQ.alloc{L:List xD}(h:fQ w0 w L)(o:Obj):fQ w0 (w.alloc o) L:=h.below (bR.alloc lZ _)
def fQ.put{L:List xD}(h:fQ w0 w L)(d:mz w a n c x)(hk:x<2 ^ k):fQ w0 w (⟨a,n,c,x,k⟩ :: L):=
 ⟨h.base,fun t b=>by
   rcases aY.1 b with rfl|b
   . exact⟨d,hk⟩
   . exact h.ts t b⟩
def fQ.get{L:List xD}(h:fQ w0 w L)(b:⟨a,n,c,x,k⟩∈ L):mz w a n c x/\x<2 ^ k:=h.ts _ b
def wF(w0:Vz)(L:List xD)(x k:Nat)(e:As)(w':Vz):Prop:=∃a n c,e=.returned (.slice a n c)/\fQ w0 w' (⟨a,n,c,x,k⟩ :: L)
def fQ.new{L:List xD}{e:As}(h:fQ w0 w L)(b:(∃a cap r,e=.returned (.slice a (List.length r) cap)/\jx w' a cap r x)/\Below w.heap.size w w')(hk:x<2 ^ k):wF w0 L x k e w':=by obtain⟨⟨a,c,r,rfl,d⟩,hb⟩:=b;exact⟨a,r.length,c,rfl,(h.below hb).put ⟨r,rfl,d⟩ hk⟩
def fQ.gcd{w0 w:Vz}{L:List xD}{a b:Vx}{n1 g c1 c2 x y j k:Nat}(h:fQ w0 w L)(o:⟨a,n1,c1,x,j⟩∈ L)(p:⟨b,g,c2,y,k⟩∈ L)(r:j+k<274877906000):
 Calls prog 106 #[.slice a n1 c1,.slice b g c2] w (wF w0 L (Nat.gcd x y) (j+k)):=by
 obtain⟨⟨l,rfl,i⟩,c⟩:=h.get o;obtain⟨⟨m,rfl,n⟩,d⟩:=h.get p;refine(UR a b c1 c2 l m x y w i n (oB (i.jd c)) (oB (n.jd d))).mono fun e w' q=>h.new q ?_
 have s:2 ^ j<=2 ^ (j+k):=cP dD oO;have t:2 ^ k<=2 ^ (j+k):=cP dD oO;rcases eE x with f|f
 . subst f;rw[Nat.gcd_zero_left];omega
 . have:=CA y f;omega
def zS:=@fQ.gcd
def fQ.vG{w0 w:Vz}{L:List xD}{b c:Vx}{n1 d c1 c2 x y j k:Nat}(h:fQ w0 w L)(g:⟨b,n1,c1,x,j⟩∈ L)(i:⟨c,d,c2,y,k⟩∈ L)(r:j<274877906000)(n:0<y):
 Calls prog 107 #[.slice b n1 c1,.slice c d c2] w (wF w0 L (x / y) j):=by
 obtain⟨⟨l,rfl,f⟩,a⟩:=h.get g;obtain⟨⟨m,rfl,o⟩,p⟩:=h.get i;refine(UM b c c1 c2 l m x y w f o n (oB (f.jd a))).mono fun e w' q=>h.new q ?_
 exact bQ (mR _ _) a
def CY:=@fQ.vG
def fQ.mul{w0 w:Vz}{L:List xD}{c d:Vx}{n1 f c1 c2 x y j k:Nat}(h:fQ w0 w L)(n:⟨c,n1,c1,x,j⟩∈ L)(o:⟨d,f,c2,y,k⟩∈ L)(q:j+k<274877906000):
 Calls prog 109 #[.slice c n1 c1,.slice d f c2] w (wF w0 L (x*y) (j+k)):=by
 obtain⟨⟨l,rfl,g⟩,a⟩:=h.get n;obtain⟨⟨m,rfl,i⟩,b⟩:=h.get o;exact(Ou c d c1 c2 l m x y w g i (oC (g.jd a) (i.jd b))).mono fun e w' p=>h.new p (Dt a b)
def DM:=@fQ.mul
def fQ.add{L:List xD}{c d:Vx}{c1 c2:Nat}(h:fQ w0 w L)(n:⟨c,n1,c1,x,j⟩∈ L)(o:⟨d,f,c2,y,k⟩∈ L)(q:j+k<274877906000):
 Calls prog 164 #[.slice c n1 c1,.slice d f c2] w (wF w0 L (x+y) (j+k+1)):=by
 obtain⟨⟨l,rfl,g⟩,a⟩:=h.get n;obtain⟨⟨m,rfl,i⟩,b⟩:=h.get o;refine(VT c d c1 c2 l m x y w g i (oB (g.jd a)) (oB (i.jd b))).mono fun e w' p=>h.new p ?_
 have r:2 ^ j<=2 ^ (j+k):=cP dD oO;have s:2 ^ k<=2 ^ (j+k):=cP dD oO;have t:(2:Nat) ^ (j+k+1)=2 ^ (j+k)*2:=fD _ _;have u:=a;have v:=b;omega
def fQ.sub{L:List xD}{c1 c2:Nat}(h:fQ w0 w L)(g:⟨a,n1,c1,x,j⟩∈ L)(i:⟨b,f,c2,y,k⟩∈ L)(c:y<=x):
 Calls prog 165 #[.slice a n1 c1,.slice b f c2] w (wF w0 L (x - y) j):=by
 obtain⟨⟨l,rfl,n⟩,d⟩:=h.get g;obtain⟨⟨m,rfl,o⟩,p⟩:=h.get i;exact(VS a b c1 c2 l m x y w n o c).mono fun e w' q=>h.new q (bQ (Nat.sub_le _ _) d)
def fQ.compare{L:List xD}{c1 c2:Nat}(h:fQ w0 w L)(d:⟨a,n1,c1,x,j⟩∈ L)(f:⟨b,c,c2,y,k⟩∈ L):
 Calls prog 156 #[.slice a n1 c1,.slice b c c2] w (fun e w'=>e=.returned (.int .i64 (kZ x y))/\fQ w0 w' L):=by
 obtain⟨⟨l,rfl,g⟩,i⟩:=h.get d;obtain⟨⟨m,rfl,n⟩,o⟩:=h.get f;refine(Hb a b c1 c2 l m x y w g n).mono ?_;rintro e w' ⟨rfl,hb⟩;exact⟨rfl,h.below hb⟩
def DI(w:Vz)(b:Vx)(m d k:Nat):Prop:=(b=none/\m=0/\d=0/\k=1)∨(0<k/\mz w b m d k)
def zA(w:Vz)(b:Vx)(m d k:Nat):Prop:=(b=none/\m=0/\d=0/\k=1)∨(1<k/\mz w b m d k)
def zA.F5(h:zA w b m d k):DI w b m d k:=by
 rcases h with h|⟨h,a⟩
 . exact .inl h
 . exact .inr ⟨oO,a⟩
def zA.below(h:zA w b m d k)(hb:Bl w w'):zA w' b m d k:=by
 rcases h with h|⟨h,a⟩
 . exact .inl h
 . exact .inr ⟨h,a.below hb⟩
structure jr (w:Vz) (neg:Bool) (a:Vx) (n c:Nat) (b:Vx) (m d:Nat) (q:Rat):Prop where
 neg:neg=decide (q.num<0)
 top:mz w a n c q.num.natAbs
 low:zA w b m d q.den
def jr.below{neg:Bool}{q:Rat}(h:jr w neg a n c b m d q)(hb:Bl w w'):jr w' neg a n c b m d q:=⟨h.neg,h.top.below hb,h.low.below hb⟩
def eF(w:Vz)(v:Ac)(q:Rat):Prop:=∃neg a n c b m d,v=.agg #[.bool neg,.slice a n c,.slice b m d]/\jr w neg a n c b m d q
def eF.below{q:Rat}(h:eF w v q)(hb:Bl w w'):eF w' v q:=by obtain⟨neg,a,n,c,b,m,d,e,h⟩:=h;exact⟨neg,a,n,c,b,m,d,e,h.below hb⟩
def nP(w:Vz)(q:Rat)(e:As)(w':Vz):Prop:=(∃v,e=.returned v/\eF w' v q)/\Below w.heap.size w w'
def mz.nil(w:Vz):mz w none 0 0 0:=⟨[],rfl,I9 w⟩
def eF.zero(w:Vz):eF w (.agg #[.bool false,.slice none 0 0,.slice none 0 0]) 0:=
 ⟨false,none,0,0,none,0,0,rfl,dD,mz.nil w,.inl ⟨rfl,rfl,rfl,rfl⟩⟩
def nR:=@eF.zero
def eF.mk{neg:Bool}{t:Nat}(f:mz w a n c t)(hl:zA w b m d k)(g:Nat.Coprime t k)(i:0<t):eF w (.agg #[.bool neg,.slice a n c,.slice b m d]) (mkRat (kJ neg t) k):=by
 have hk:0<k:=by rcases hl with ⟨_,_,_,rfl⟩|⟨h,_⟩<;>omega
 obtain⟨e,j⟩:=P3 (neg:=neg) hk g;exact⟨neg,a,n,c,b,m,d,rfl,by rw[e,XA i],by rw[e,IW];exact f,by rw[j];exact hl⟩
def Pq(h:mz w a n c x):Calls prog 152 #[.slice a n c] w fun e w'=>e=.returned (.bool (decide (x=1)))/\w'=w:=by obtain⟨l,rfl,h⟩:=h;exact Hc a c l x w h
def pX(C:Vw):Prop:=∀(i:Nat)(n:Int),C[i]?≠some (Value.int .u64 n)
def Row.DQ(h:Row .u64 w a cap l)(e:cE c w w')(m:SB w c t C)(n:pX C):Row .u64 w' a cap l:=by
 refine⟨h.fit,?_,fun i o=>?_⟩
 .
  rcases h.shape with f|⟨d,b,rfl,k⟩
  . exact .inl f
  . exact .inr ⟨d,b,rfl,by have:=e.size;omega⟩
 . obtain⟨d,b,f,k,g⟩:=h.cell i o;have j:d≠c:=by rintro rfl;rw[m.cell]at g;exact n _ _ g
   exact⟨d,b,f,by have:=e.size;omega,(bJ (w:=w) (e.block d k j)).trans g⟩
def mz.only(h:mz w a n c x)(b:cE g w w')(d:SB w g t C)(e:pX C):mz w' a n c x:=by obtain⟨l,hl,h⟩:=h;exact⟨l,hl,h.row.DQ b d e,h.num,h.short⟩
def jr.only{neg:Bool}{q:Rat}(h:jr w neg a n c b m d q)(f:cE g w w')(i:SB w g t C)(j:pX C):jr w' neg a n c b m d q:=by
 refine⟨h.neg,h.top.only f i j,?_⟩;rcases h.low with e|⟨e,k⟩
 . exact .inl e
 . exact .inr ⟨e,k.only f i j⟩
def eF.only{q:Rat}(h:eF w v q)(f:cE g w w')(i:SB w g t C)(j:pX C):eF w' v q:=by obtain⟨neg,a,n,c,b,m,d,e,h⟩:=h;exact⟨neg,a,n,c,b,m,d,e,h.only f i j⟩
def gK:Array Value:=#[.bool false,.slice none 0 0,.slice none 0 0]
def Lw:pX gK:=by
 intro i n h
 match i with
 |0=>simp[gK]at h
 |1=>simp[gK]at h
 |2=>simp[gK]at h
 |i+3=>simp[gK]at h
def SB.mX(w:Vz)(t1 t2:Vr)(C D:Vw):SB ((w.alloc (.cells C t1)).alloc (.cells D t2)) (w.heap.size+1) t2 D:=by have:=cK (w.alloc (.cells C t1)) t2 D;rw[bH]at this;exact this
def xE:=@SB.mX
def SB.DT(w:Vz)(t1 t2 t3:Vr)(C D E:Vw):SB (((w.alloc (.cells C t1)).alloc (.cells D t2)).alloc (.cells E t3)) (w.heap.size+1+1) t3 E:=by have:=cK ((w.alloc (.cells C t1)).alloc (.cells D t2)) t3 E;rw[bH,bH]at this;exact this
def Below.mX(w:Vz)(a b:Obj):Bl w ((w.alloc a).alloc b):=bR.alloc lZ _ |>.alloc wO _
def lN:=@Below.mX
def Below.DT(w:Vz)(a b c:Obj):Bl w (((w.alloc a).alloc b).alloc c):=(Below.mX w a b).alloc (by rw[bH,bH];omega) _
def Tryz.ii:(prog.info? 99).map (·.size)=some 3:=kK
def mm:=@Tryz.ii
def SB.fz{b:Nat}(h:SB w b t gK):w.cell? ⟨b,0,none⟩=some (.bool false)/\w.cell? ⟨b,1,none⟩=some (.slice none 0 0)/\w.cell? ⟨b,2,none⟩=some (.slice none 0 0)/\w.frozen? ⟨b,0,none⟩=false/\w.frozen? ⟨b,1,none⟩=false/\w.frozen? ⟨b,2,none⟩=false:=⟨h.cell 0,h.cell 1,h.cell 2,h.free 0,h.free 1,h.free 2⟩
def nP.put{w u:Vz}{g n c m d:Nat}{neg:Bool}{a b:Vx}{q:Rat}{t:Vr}(h:jr u neg a n c b m d q)(f:SB u g t gK)(hb:Bl w u)(i:w.heap.size<=g):nP w q (.returned (.agg #[.bool neg,.slice a n c,.slice b m d])) (((u.setCell ⟨g,0,none⟩ (.bool neg)).setCell ⟨g,1,none⟩ (.slice a n c)).setCell ⟨g,2,none⟩ (.slice b m d)):=by have e:=(((cX g u).setCell 0 (.bool neg)).setCell 1 (.slice a n c)).setCell 2 (.slice b m d);exact⟨⟨_,rfl,neg,a,n,c,b,m,d,rfl,h.only e f Lw⟩,fU hb e i⟩
def Ji:=@nP.put
def I5(neg:Bool)(a b:Vx)(n c m d t k:Nat)(w:Vz)(p:mz w a n c t)(hl:DI w b m d k)(s:Nat.Coprime t k):
 Calls prog 102 #[.bool neg,.slice a n c,.slice b m d] w (nP w (mkRat (kJ neg t) k)):=by
 obtain⟨q,r⟩:=Ia p s;have i:=p.pB;have x:=Hi ((ac w.heap.size w).alloc lZ (.cells #[.bool false,.slice none 0 0,.slice none 0 0] 99));clear p s;by_cases j:t=0
 . have u:=i.1 j;subst j u;rw[P4,EC];clear hl i;go_enter func102,ntmps102;go_wp2;refine bK (v:=.agg #[.bool false,.slice none 0 0,.slice none 0 0]) (bG rfl _ _ (w.heap.size) 99 #[.bool false,.slice none 0 0,.slice none 0 0] (0,0) _ rfl (cK w _ _) underlying99 rfl Tryz.ii) rfl ?_;exact⟨⟨_,rfl,eF.zero _⟩,x.o⟩
 .
  have u:((n:Int) == 0)=false:=by rw[aJ];omega
  have h:0<t:=oO;rcases hl with ⟨rfl,rfl,rfl,rfl⟩|⟨hk,hl⟩
  . have f:=Hi (Pq (mz.nil (w.alloc (.cells #[.bool false,.slice none 0 0,.slice none 0 0] 99))));rw[show decide (0=1)=false by decide]at f;clear i j;go_enter func102,ntmps102;go_wp2_with fail;go_fit f.o;rintro e w1 ⟨rfl,l⟩;subst l;clear f;go_wp2;refine bK (v:=.agg #[.bool neg,.slice a n c,.slice none 0 0]) (bG rfl _ _ (w.heap.size) 99 #[.bool neg,.slice a n c,.slice none 0 0] (0,0) _ rfl (cK w _ _) underlying99 rfl Tryz.ii) rfl ?_;have hb:=(ac w.heap.size w).alloc lZ (.cells #[.bool neg,.slice a n c,.slice none 0 0] 99);exact⟨⟨_,rfl,eF.mk (q.o.below hb) (.inl ⟨rfl,rfl,rfl,rfl⟩) r.o h⟩,hb⟩
  . obtain⟨f,y⟩:=Ia (Pq (hl.below ((ac w.heap.size w).alloc lZ (.cells #[.bool false,.slice none 0 0,.slice none 0 0] 99)))) hl;clear hl;by_cases g:k=1
    . rw[show decide (k=1)=true by simpa using g]at f;clear i j;go_enter func102,ntmps102;go_wp2_with fail;go_fit f.o;rintro e w1 ⟨rfl,l⟩;subst l;clear f;go_wp2;refine bK (v:=.agg #[.bool neg,.slice a n c,.slice none 0 0]) (bG rfl _ _ (w.heap.size) 99 #[.bool neg,.slice a n c,.slice none 0 0] (0,0) _ rfl (cK w _ _) underlying99 rfl Tryz.ii) rfl ?_;have hb:=(ac w.heap.size w).alloc lZ (.cells #[.bool neg,.slice a n c,.slice none 0 0] 99);exact⟨⟨_,rfl,eF.mk (q.o.below hb) (.inl ⟨rfl,rfl,rfl,g⟩) r.o h⟩,hb⟩
    . rw[show decide (k=1)=false by simpa using g]at f;have z:=Hi (show 1<k by omega);clear i j g;go_enter func102,ntmps102;go_wp2_with fail;go_fit f.o;rintro e w1 ⟨rfl,l⟩;subst l;clear f;go_wp2;refine bK (v:=.agg #[.bool neg,.slice a n c,.slice b m d]) (bG rfl _ _ (w.heap.size) 99 #[.bool neg,.slice a n c,.slice b m d] (0,0) _ rfl (cK w _ _) underlying99 rfl Tryz.ii) rfl ?_;have hb:=(ac w.heap.size w).alloc lZ (.cells #[.bool neg,.slice a n c,.slice b m d] 99);exact⟨⟨_,rfl,eF.mk (q.o.below hb) (.inr ⟨z.o,y.o.below hb⟩) r.o h⟩,hb⟩
def XH(neg:Bool)(a b:Vx)(n c m d k g:Nat)(w0 w:Vz)(L:AU)(hB:fQ w0 w L)(hl:zA w b m d k)(hk:k<2 ^ g):
 Calls prog 105 #[.agg #[.bool neg,.slice a n c,.slice b m d]] w (wF w0 L k g):=by
 have r:∀(w:Vz)(a:Vx)(n c n' f:Nat),(binOp .eql 97 (.slice a n c) (.slice none n' f)).run prog w=.ok (.bool a.isNone) w:=fun w a n c n' f=>Lib.run_eql_slice_nil w _ _ a n c n' f underlying97
 obtain⟨i,j,p⟩:=Ib hB hk hl;clear hB hk;rcases hl with ⟨rfl,rfl,rfl,rfl⟩|⟨l,e⟩
 . go_enter func105,ntmps105;go_wp2;go_ret;have hB:jf .u64 172 ((w.alloc (.cells #[.bool neg,.slice a n c,.slice none 0 0] 99)).alloc (.cells (dA .u64 [1]) 172)) (w.heap.size+1) [1]:=by have:=mn .u64 172 (w.alloc (.cells #[.bool neg,.slice a n c,.slice none 0 0] 99)) [1];rw[bH]at this;exact this
   exact⟨_,1,1,rfl,((i.o.alloc _).alloc _).put ⟨[1],rfl,hB.row 1 sS 1 oO,⟨fun d q=>by simp at q;omega,.inr sS,by simp[val]⟩,sS⟩ j.o⟩
 .
  obtain⟨s,t,rfl⟩:=e.some oO;clear l e;go_enter func105,ntmps105;go_wp2;go_ret;rcases p.o with ⟨h,_⟩|⟨l,e⟩
  . cases h
  . exact⟨_,m,d,rfl,(i.o.alloc _).put (e.below (bR.alloc lZ _)) j.o⟩
def Pp(neg:Bool)(a b:Vx)(n c m d t:Nat)(w:Vz)(f:mz w a n c t):
 Calls prog 110 #[.agg #[.bool neg,.slice a n c,.slice b m d]] w fun e w'=>e=.returned (.bool (decide (t=0)))/\Below w.heap.size w w':=by
 have e:decide (t=0)=((n:Int) == 0):=by
  have:=f.pB;by_cases h:t=0
  . simp[h,this.1 h]
  . rw[bS h];symm;rw[aJ];omega
 rw[e];clear e f;go_enter func110,ntmps110;go_wp2;go_ret;exact⟨rfl,bR.alloc lZ _⟩
def Po(neg:Bool)(a b:Vx)(n c m d:Nat)(q:Rat)(w:Vz)(h:jr w neg a n c b m d q):
 Calls prog 98 #[.agg #[.bool neg,.slice a n c,.slice b m d]] w (nP w (-q)):=by
 have e:mkRat (kJ (!neg) q.num.natAbs) q.den= -q:=by rw[Xz,h.neg,EN,<-Rat.neg_mkRat,iO]
 have p:=Hi (fun w' hb=>I5 (!neg) a b n c m d q.num.natAbs q.den w' (h.top.below hb) ((h.low.below hb).F5) q.reduced);rw[e]at p;clear h e;go_enter func98,ntmps98;obtain⟨r,g⟩:=Ia (SB.mX w 99 99 #[.bool neg,.slice a n c,.slice b m d] gK) (Below.mX w (.cells #[.bool neg,.slice a n c,.slice b m d] 99) (.cells gK 99));go_wp2_with fail;go_fit (p.o _ g.o);rintro e A ⟨⟨B,rfl,j⟩,hb⟩;obtain⟨f,s,t,u,x,y,d9,rfl,j⟩:=j;have k:=r.o.below hb r.o.lt;obtain⟨C,k1,k2,f0,f1,f2⟩:=k.fz;obtain⟨z,i,l⟩:=Ib j k (g.o.trans (hb.mono g.o.size));clear j k hb;go_wp2;refine bK (v:=.agg #[.bool f,.slice s t u,.slice x y d9]) (bG rfl _ _ (w.heap.size+1) 99 #[.bool f,.slice s t u,.slice x y d9] (0,0) _ rfl (((i.o.set 0 _).set 1 _).set 2 _) underlying99 rfl Tryz.ii) rfl ?_;exact nP.put z.o i.o l.o oO
def B7{P:Au}{e:Func}{p u:Tmp}{ty:Vr}(h:e.results=#[.tmp u,.cell p ty])(a:Vw)(w:Vz)(g:Nat)(t:Vr)(b:Vw)(fr:Nat × Nat)(d:TypeDesc)(f:a.getD p undef=.pointer (some ⟨g,0,none⟩))(i:w.heap[g]?=some (.cells b t fr))(j:P.underlying ty=some d)(k:(match d with| .struct _| .array _ _=>true|_=>false)=true)(l:(P.info? ty).map (·.size)=some b.size):
 (results e a).run P w=.ok (.tuple #[a.getD u undef,.agg b]) w:=by
 have c:a[p]?.getD undef=.pointer (some ⟨g,0,none⟩):=sU f;simp[results,h,c,asAddr,qX w g t ty b fr d i j k l]
end Go.Proofs.YtfgclhpgdanmfaaGreatDoor
