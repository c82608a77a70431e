import Derived.Test.YtkkadnoecklepaaGreatDoorG07NatMany
import Derived.Deep.DeepCutAuto
namespace Go.Proofs.YtkkadnoecklepaaGreatDoor
open Go.RowKit
open Go.Proofs.Tryz
set_option linter.unusedSimpArgs false
set_option linter.unusedVariables false
set_option maxHeartbeats 8000000
set_option maxRecDepth 1000000
theorem U64.uniq{w:Vz}{a:Vx}{c p:Nat}{l f:Vy}{n n':Nat}(h:U64 w a c l n)(k:U64 w a p f n')(hl:l.length=f.length):n=n':=by
 have e:l=f:=by
  apply List.ext_getElem hl;intro i m o;obtain⟨b,g,q,_,d1⟩:=h.row.cell i m;obtain⟨r,d,j,_,d2⟩:=k.row.cell i o;rw[q] at j;obtain⟨rfl,rfl⟩:b=r/\g=d:=by simp at j;exact j
  rw[d1] at d2;simp only[Option.some.injEq,Value.int.injEq,true_and] at d2;have d3:l.getD i 0=f.getD i 0:=by omega
  rw[List.getD_eq_getElem?_getD,List.getD_eq_getElem?_getD,gE m,gE o] at d3
  simpa using d3
 rw[<-h.num.eq,<-k.num.eq,e]
open Classical in
theorem Qrc:∃f:World->Value->Nat,∀(w:Vz) (a:Vx) (c:Nat) (l:Vy) (n:Nat),U64 w a c l n->f w (.slice a l.length c)=n:=by
 have h:∀(w:Vz) (v:Value),∃n:Nat,∀(a:Vx) (c:Nat) (l:Vy) (m:Nat),v=.slice a l.length c->U64 w a c l m->n=m:=by
  intro w v;by_cases g:∃n a c l,v=.slice a (List.length l) c/\U64 w a c l n
  .
   obtain⟨n,a,c,l,rfl,b⟩:=g;refine⟨n,fun o q r m e d=>?_⟩;simp only[Value.slice.injEq] at e;obtain⟨rfl,i,rfl⟩:=e;exact b.uniq d i
  . exact⟨0,fun a c l m e d=>absurd ⟨m,a,c,l,e,d⟩ g⟩
 have j:∀p:World × Value,∃n:Nat,∀(a:Vx) (c:Nat) (l:Vy) (m:Nat),p.2=.slice a l.length c->U64 p.1 a c l m->n=m:=fun p=>h p.1 p.2
 obtain⟨f,k⟩:=Classical.axiomOfChoice j;exact⟨fun w v=>f (w,v),fun w a c l n b=>k (w,.slice a l.length c) a c l n rfl b⟩
theorem U64.len_mono{w f:Vz}{a b:Vx}{c d:Nat}{l m:Vy}{x y:Nat}(h:U64 w a c l x)(k:U64 f b d m y)(e:x<=y):l.length<=m.length:=
 h.num.length_le_of_lt (by decide) (Nat.lt_of_le_of_lt e (by have:=Qab (B:=18446744073709551616) (by decide) k.num.small;rw[k.num.eq] at this;exact this))
theorem Qrd{l:Vy}{x:Nat}(h:Num 18446744073709551616 l x)(a:l.length=1):l.getD 0 0=x:=by
 rw[<-h.eq]
 match l,a with
 | [z],_=>simp[val]
structure HoldsC (w:Vz) (p:Addr) (v:Value) (wl:Vz):Prop where
 b:Bl w wl
 c:wl.cell? p=some v
theorem HoldsC.drew{w:Vz}{p:Addr}{v:Value}{a:Vz}(h:HoldsC w p v a):HoldsC w p v a.drew:=⟨h.b.drew,h.c⟩
theorem HoldsC.below{w:Vz}{p:Addr}{v:Value}{a d:Vz}(h:HoldsC w p v a)(e:p.block<w.heap.size)(k:Bl a d):HoldsC w p v d:=
 ⟨h.b.trans (k.mono h.b.size),(k.cell (Nat.lt_of_lt_of_le e h.b.size)).trans h.c⟩
theorem Qre(w:Vz)(g:Addr)(v:Value)(n:g.block<w.heap.size)(a:Vx)(c d:Nat)(l:Vy)(x:Nat)(h:U64 w a c l x)(i:0<d)(o:d<18446744073709551616)(f:Vz)(k:HoldsC w g v f):
 Calls prog 183 #[.slice a l.length c,.int .u64 d] f fun e j=>e=.returned (.int .u64 ((x % d:Nat):Int))/\HoldsC w g v j/\Below f.heap.size f j:=by
 refine(Qro a c d l x f (h.below k.b) i o).mono ?_;rintro e j ⟨rfl,m⟩;exact⟨rfl,k.below n m,m⟩
theorem Qrf(w:Vz)(b:Addr)(v:Value)(f:b.block<w.heap.size)(x y:Nat)(g:x<18446744073709551616)(h:y<18446744073709551616)(a:Vz)(i:HoldsC w b v a):
 Calls prog 182 #[.int .u64 x,.int .u64 y] a fun e c=>e=.returned (.int .u64 ((Nat.gcd x y:Nat):Int))/\HoldsC w b v c/\Below a.heap.size a c:=by
 refine(Qrn x y a g h).mono ?_;rintro e c ⟨rfl,d⟩;exact⟨rfl,i.below f d,d⟩
theorem Qrg{w a:Vz}{G:Nat}(h:Bl w a)(c:0<G)(e:G<18446744073709551616):Nat64 w G (.returned (.slice (some ⟨a.heap.size,0,none⟩) 1 1)) (a.alloc (.cells #[.int .u64 G] 190)):=by
 have hB:Blk .u64 190 (a.alloc (.cells (wordCells .u64 [G]) 190)) a.heap.size [G]:=Blk.new _ _ _ _;exact⟨⟨some ⟨a.heap.size,0,none⟩,1,[G],rfl,hB.row 1 (by simp) 1 (by omega),⟨fun d b=>by simp at b;omega,.inr (by simp;omega),by simp[val]⟩,by simp⟩,h.alloc h.size _⟩
def Own2(B:Nat)(w:Vz)(a b:Vx)(c d:Nat)(l m:Vy)(p q:Nat):Prop:=∃g1 g2 C1 C2,a=some ⟨g1,0,none⟩/\b=some ⟨g2,0,none⟩/\ON w g1 c C1 l p/\ON w g2 d C2 m q/\g1≠g2/\B<=g1/\B<=g2
theorem Qjt{w c:Vz}{a:Vx}{b cap' g x:Nat}{l:Vy}(h:U64 w a b l x)(d:Pre c g l)(e:l.length<=cap'):ON c g cap' l l x:=⟨d,h.num.small,h.short,List.take_length,h.num,e⟩
theorem Qrh(a1 a2:Vx)(c1 c2:Nat)(l m:Vy)(x y:Nat)(w:Vz)(h1:U64 w a1 c1 l x)(h2:U64 w a2 c2 m y)(hl:l.length<1099511627770)(hm:m.length<1099511627770):
 Calls prog 125 #[.slice a1 l.length c1,.slice a2 m.length c2] w (Nat64 w (Nat.gcd x y)):=by
 have HC:=Hi (Qc1 a1 a2 c1 c2 l m x y w h1 h2);obtain⟨G,hG⟩:=nm (Nat.gcd x y);rw[hG];obtain⟨H1,H2,HG⟩:=Ib h1 h2 hG;clear h1 h2 hG;obtain⟨natAt,ar⟩:=Qrc;have t:=Hi ar;clear ar;go_enter func125,ntmps125;go_wp2_with fail;go_fit HC.o;rintro e w1 ⟨rfl,D⟩;have Q:=Hi D;clear D HC;go_upto_if 11 with fail
 go_cut [0,1] (fun xv yv wr=>∃(p q:Nat) (a b:Vx) (c d:Nat) (l m:Vy),xv=.slice a l.length c/\yv=.slice b m.length d/\q<=p/\l.length<1099511627770/\U64 w a c l p/\U64 w b d m q/\Nat.gcd p q=G/\wr=w1)
 case first=>
  by_cases bf:x<y
  .
   have au:cmp3 x y<0:=(Qav x y).2 bf;go_wp2_with fail;go_meet
   case rel=>exact⟨y,x,a2,a1,c2,c1,m,l,rfl,rfl,by omega,hm,H2.o,H1.o,(Nat.gcd_comm y x).trans HG.o,rfl⟩
  .
   have au:¬(cmp3 x y<0):=fun h=>by have:=(Qav x y).1 h;omega
   go_wp2_with fail;go_meet
   case rel=>exact⟨x,y,a1,a2,c1,c2,l,m,rfl,rfl,by omega,hl,H1.o,H2.o,HG.o,rfl⟩
 case rest=>
 clear hl hm H1 H2 HG;obtain⟨wx,rfl⟩:∃wx,wx=wc:=⟨wc,rfl⟩;obtain⟨p,q,a,b,c,d,l,m,rfl,rfl,s,E,g,f,V,rfl⟩:=hcut;obtain⟨HX,HY,HG⟩:=Ib g f V;clear g f V;go_upto_if 16 with fail
 go_cut [0,1] (fun xv yv wr=>∃(p q:Nat) (a b:Vx) (c d:Nat) (l m:Vy),xv=.slice a l.length c/\yv=.slice b m.length d/\q<=p/\l.length<1099511627770/\U64 wr a c l p/\U64 wr b d m q/\Nat.gcd p q=G/\(1<m.length->Own2 w.heap.size wr a b c d l m p q)/\Below w.heap.size w wr)
 case first=>
  by_cases bg:1<m.length
  .
   have bh:(1:Int)<(m.length:Int):=by omega
   have bx:m.length<=l.length:=HY.o.len_mono HX.o s;have av:=Hi (Qf6 a c l p wx (HX.o.below Q.o) (by omega));go_wp2_with fail;go_fit av.o;rintro e w2 ⟨⟨W,d1,rfl,bi,bz,aw⟩,A⟩;obtain⟨ax,ab,i⟩:=Ib (Qf6 b d m q w2 ((HY.o.below Q.o).below A) (by omega)) aw (Q.o.trans (A.mono Q.o.size));have ay:w.heap.size<=W:=by have:=Q.o.size;omega
   clear aw A av;go_wp2_with fail;go_fit ax.o;rintro e w3 ⟨⟨P,d2,rfl,bj,b0,az⟩,k⟩;obtain⟨R,B⟩:=Ia (Qjt HX.o (ab.o.below k ab.o.lt) bi) (Qjt HY.o az bj);have b1:W<P:=by have:=ab.o.lt;omega
   have j:=Hi (i.o.trans (k.mono i.o.size));clear az k ax;go_wp2_with fail;go_meet
   case rel=>exact⟨p,q,some ⟨W,0,none⟩,some ⟨P,0,none⟩,d1,d2,l,m,rfl,rfl,s,(by omega),R.o.u64,B.o.u64,HG.o,(fun _=>⟨W,P,l,m,rfl,rfl,R.o,B.o,(by omega),ay,(by omega)⟩),j.o⟩
  .
   have bh:¬((1:Int)<(m.length:Int)):=by omega
   go_wp2_with fail;go_meet
   case rel=>exact⟨p,q,a,b,c,d,l,m,rfl,rfl,s,(by omega),HX.o.below Q.o,HY.o.below Q.o,HG.o,(fun h=>absurd h bg),Q.o⟩
 case rest=>
 clear s E HX HY HG Q;obtain⟨wy,rfl⟩:∃wy,wy=wc:=⟨wc,rfl⟩;have a0:=Hi hcut;clear hcut;go_wp2_with fail;go_loopw [0,1] (fun xv yv wr=>∃(p q:Nat) (a b:Vx) (c d:Nat) (l m:Vy),xv=.slice a l.length c/\yv=.slice b m.length d/\q<=p/\l.length<1099511627770/\U64 wr a c l p/\U64 wr b d m q/\Nat.gcd p q=G/\(1<m.length->Own2 w.heap.size wr a b c d l m p q)/\Below w.heap.size w wr) (fun xv yv wr=>natAt wr xv+natAt wr yv)
 case atStart=>exact a0.o
 case round=>
  obtain⟨p,q,a,b,c,d,l,m,rfl,rfl,s,E,g,f,V,a3,D⟩:=hrel;have a4:=Hi a3;clear a3;have b2:=f.len_mono g s;obtain⟨S,v,F,u⟩:=Ic g f V D;by_cases b3:m.length<=1
  .
   have bk:¬(1:Int)<(m.length:Int):=by omega
   by_cases n:q=0
   .
    have bl:((m.length:Int) == 0)=true:=by have:=(f.num.len_zero (by decide)).1 n;simp[this]
    have HQ:=Hi n;clear g f V D n;go_wp2;go_ret;have e1:=F.o;rw[HQ.o,Nat.gcd_zero_right] at e1;exact⟨⟨a,c,l,rfl,by rw[<-e1];exact S.o⟩,u.o⟩
   .
    have bl:((m.length:Int) == 0)=false:=by
     rw[beq_eq_false_iff_ne];have:=(f.num.len_zero (by decide)).2;omega
    have H:m.length=1:=by have:=(f.num.len_zero (by decide)).2;omega
    have HO:=Hi (Qc0 b d m q wr f);by_cases C:q=1
    .
     rw[show decide (q=1)=true by simpa using C] at HO;have HQ:=Hi C;clear g f V D n C H;go_wp2_with fail;go_fit HO.o;rintro e w2 ⟨rfl,hw⟩;subst hw;go_wp2;go_ret;have e1:=F.o;rw[HQ.o,Nat.gcd_one_right] at e1;exact⟨⟨b,d,m,rfl,by rw[<-e1,<-HQ.o];exact v.o⟩,u.o⟩
    .
     rw[show decide (q=1)=false by simpa using C] at HO;obtain⟨b',T,rfl,ad,a5⟩:=f.row.cell 0 (by omega);have U:=Qrd f.num H;rw[U,Nat.add_zero] at a5;have ae:q<18446744073709551616:=by rw[<-U];exact f.num.small.getD (by omega) 0
     obtain⟨b4,HR⟩:=Ia U (Qre wr ⟨b',T,none⟩ (.int .u64 q) ad a c q l p g (by omega) ae);obtain⟨r,hr⟩:=nm (p % q);rw[hr] at HR;have b5:r<q:=by rw[<-hr];exact Nat.mod_lt _ (by omega)
     obtain⟨bm,b6,af⟩:=Ib hr C n;clear g f V D C U hr n H;go_wp2_with fail;go_fit HO.o;rintro e w2 ⟨rfl,hw⟩;subst hw;go_wp2_with fail;have HI:O (HoldsC w2 ⟨b',T,none⟩ (.int .u64 q) w2):=Hi ⟨Below.refl _ _,a5⟩;have i0:(0:Int)<(m.length:Int):=by have:=(v.o.num.len_zero (by decide)).2;have:=af.o;omega
     have ag:O (Nat.gcd q r=G):=Hi (by rw[<-F.o,<-bm.o];exact Qb1 p q);have HW:=Hi (Qrf w2 ⟨b',T,none⟩ (.int .u64 q) ad q r ae (by omega));have b7:0<m.length:=by omega
     rw[ag.o] at HW;go_region_held3 (fun w'=>w'.cell? ⟨b',T,none⟩=some (.int .u64 q)) ((first|(simp [*];done)|exact ce ((Below.refl _ w4).alloc lZ _) z4 k0)) (first
      |(
       go_at_call 183
       first
        |go_fit (HR.o _ HI.o)
        |go_fit (HR.o _ HI.o.drew)
       rintro e w3 ⟨rfl,Z,D⟩;have k0:=Z.c;have a6:=Hi Z
       clear Z D)
      |(
       go_at_call 182
       first
        |go_fit (HW.o _ a6.o)
        |go_fit (HW.o _ a6.o.drew)
       rintro e w4 ⟨rfl,Z,D⟩;have k0:=Z.c;have z4:b'<w4.heap.size:=Nat.lt_of_lt_of_le ad Z.b.size;have z5:b'≠w4.heap.size:=Nat.ne_of_lt z4;have bn:=Hi Z
       clear Z D))
     all_goals
      go_wp2;go_ret;have bo:0<G:=by rw[<-ag.o];exact Nat.gcd_pos_of_pos_left _ (by have:=af.o;omega)
      have bp:G<18446744073709551616:=by rw[<-ag.o];exact Nat.lt_of_le_of_lt (Nat.gcd_le_left _ (by have:=af.o;omega)) ae
      exact Qrg (u.o.trans (bn.o.b.mono u.o.size)) bo bp
  .
   have bk:(1:Int)<(m.length:Int):=by omega
   have n:0<q:=by
    rcases Nat.eq_zero_or_pos q with h0|h0
    . have:=(f.num.len_zero (by decide)).1 h0;omega
    . exact h0
   obtain⟨W,P,C1,C2,rfl,rfl,a7,a8,a9,bq,ba⟩:=a4.o (by omega);obtain⟨R,B,HM⟩:=Ib a7 a8 (Qrp (some ⟨W,0,none⟩) (some ⟨P,0,none⟩) c d (l.length - 2) l m p q wr g f s (by omega));clear g f V D a7 a8 a4;go_wp2_with fail;go_fit HM.o;rintro e w2 ⟨⟨bb,xx,xy,yx,yy,rfl,hS⟩,A⟩;obtain⟨HS,i,HN⟩:=Ib hS A (Qrq bb xx xy yx yy);clear hS A HM;unfold StepsVal;unfold StepsVal at HN;by_cases z:xy=0
   .
    rw[show decide (xy=0)=true by simpa using z] at HN;clear z;go_wp2_with fail;go_fit (HN.o _);rintro e w3 ⟨rfl,k⟩;have j:O (Bl wr w3):=Hi ((i.o.alloc i.o.size _).trans (k.mono (i.o.alloc i.o.size _).size));clear k HN;have HD:=Hi (Qjs (some ⟨W,0,none⟩) (some ⟨P,0,none⟩) c d (m.length - 2) l m p q w3 (S.o.below j.o) (v.o.below j.o) s (by omega) E);go_wp2_with fail;go_fit HD.o;rintro e w4 ⟨⟨aq,cq,lq,gr,cr,Cr,lr,rfl,I,ah,b8⟩,J⟩;have K:O (Bl wr w4):=Hi (j.o.trans (J.mono j.o.size));have L:=ah.u64;have M:=Hi L;have bc:=Hi (B.o.below K.o);have br:=Hi ah;have bv:P<gr:=by have:=B.o.pre.lt;have:=j.o.size;omega
    clear ah;have bw:=Nat.mod_lt p n;have aa:=Hi (v.o.below K.o);have m1:=t.o _ _ _ _ _ S.o;have m2:=t.o _ _ _ _ _ v.o;have m3:=t.o _ _ _ _ _ aa.o;have m4:=t.o _ _ _ _ _ M.o;obtain⟨ai,aj,ak,al⟩:=Ic m1 m2 m3 m4;clear I L J HD m1 m2 m3 m4;go_wp2;refine⟨⟨q,p % q,some ⟨P,0,none⟩,some ⟨gr,0,none⟩,d,cr,m,lr,rfl,rfl,by omega,by omega,aa.o,M.o,(Qb1 p q).trans F.o,fun _=>⟨P,gr,C2,Cr,rfl,rfl,bc.o,br.o,by omega,ba,by omega⟩,u.o.trans (K.o.mono u.o.size)⟩,?_⟩;rw[ai.o,aj.o,ak.o,al.o];omega
   .
    rw[show decide (xy=0)=false by simpa using z] at HN;obtain⟨X,Y,hL⟩:=HS.o.go (by omega);have HL:=Hi hL;have am:=hL.less n;have b9:=hL.le;have bs:=Hi hL.gcd;clear hL z;go_wp2_with fail;go_fit (HN.o _);rintro e w3 ⟨rfl,k⟩;have j:O (Bl wr w3):=Hi ((i.o.alloc i.o.size _).trans (k.mono (i.o.alloc i.o.size _).size));have N:=Hi ((SB.new w2 _ _).below k (by rw[World.size_alloc];omega));clear k HN;have k0:=N.o.cell 0;have k1:=N.o.cell 1;have k2:=N.o.cell 2;have k3:=N.o.cell 3;have k4:=N.o.cell 4;simp at k0 k1 k2 k3 k4;have HD:=Hi (Qrr bb xx xy yx yy W P c d C1 C2 l m p q X Y w3 (R.o.below j.o) (B.o.below j.o) a9 s HS.o HL.o n w.heap.size bq ba);go_wp2_with fail;go_fit HD.o;rintro e w4 ⟨⟨ga,gb,ca,cb,Ca,Cb,la,lb,rfl,an,ao,bd⟩,J⟩
    have K:O (Bl w w4):=Hi ((u.o.trans (j.o.mono u.o.size)).trans J);have I:=an.u64;have L:=ao.u64;obtain⟨bt,bu⟩:=Ia an ao;have ap:ga≠gb/\w.heap.size<=ga/\w.heap.size<=gb:=by omega
    clear an ao bd;obtain⟨be,M,ai,aj⟩:=Ic I L (t.o _ _ _ _ _ S.o) (t.o _ _ _ _ _ v.o);obtain⟨ak,al⟩:=Ia (t.o _ _ _ _ _ be.o) (t.o _ _ _ _ _ M.o);have cc:=I.len_mono v.o am.1;clear I L J HD;go_wp2;refine⟨⟨X,Y,some ⟨ga,0,none⟩,some ⟨gb,0,none⟩,ca,cb,la,lb,rfl,rfl,by omega,by omega,be.o,M.o,bs.o.trans F.o,fun _=>⟨ga,gb,Ca,Cb,rfl,rfl,bt.o,bu.o,ap.1,ap.2.1,ap.2.2⟩,K.o⟩,?_⟩;rw[ai.o,aj.o,ak.o,al.o];omega
theorem Qh2(neg:Bool):sgn neg 0=0:=by cases neg<;>simp[sgn]
theorem Qnu{neg:Bool}{t:Nat}(h:0<t):decide (sgn neg t<0)=neg:=by cases neg<;>simp[sgn]<;>omega
theorem Qbs(x:Int):sgn (decide (x<0)) x.natAbs=x:=by
 unfold sgn;by_cases h:x<0
 . simp[h];omega
 . simp[h];omega
theorem Qb7(p q:Bool)(s t:Nat):sgn (p != q) (s*t)=sgn p s*sgn q t:=by cases p<;>cases q<;>simp[sgn]<;>grind
theorem Qnv(p:Bool)(s:Nat):sgn (!p) s= - sgn p s:=by cases p<;>simp[sgn]
theorem Qh3{neg:Bool}{t d:Nat}(b:0<d)(a:Nat.Coprime t d):(mkRat (sgn neg t) d).num=sgn neg t/\(mkRat (sgn neg t) d).den=d:=by
 have e:=Rat.mk_eq_mkRat (sgn neg t) d (by omega) (by rw[Qdx];exact a);rw[<-e];exact⟨rfl,rfl⟩
theorem Qnw(x y:Rat){g h:Nat}(b:Nat.gcd x.num.natAbs y.den=g)(c:Nat.gcd y.num.natAbs x.den=h):
 mkRat (sgn (decide (x.num<0) != decide (y.num<0)) (x.num.natAbs / g*(y.num.natAbs / h))) (x.den / h*(y.den / g))=x*y/\Nat.Coprime (x.num.natAbs / g*(y.num.natAbs / h)) (x.den / h*(y.den / g)):=by
 have d:0<g:=by rw[<-b];exact Nat.gcd_pos_of_pos_right _ y.den_pos
 have e:0<h:=by rw[<-c];exact Nat.gcd_pos_of_pos_right _ x.den_pos
 have d1:g ∣ x.num.natAbs:=b ▸ Nat.gcd_dvd_left _ _;have d2:g ∣ y.den:=b ▸ Nat.gcd_dvd_right _ _;have d3:h ∣ y.num.natAbs:=c ▸ Nat.gcd_dvd_left _ _;have d4:h ∣ x.den:=c ▸ Nat.gcd_dvd_right _ _;have f:=Nat.div_mul_cancel d1;have i:=Nat.div_mul_cancel d2;have j:=Nat.div_mul_cancel d3;have k:=Nat.div_mul_cancel d4;constructor
 .
  rw[<-Qgj,<-Rat.mkRat_mul_right (a:=g*h) (by have:=Nat.mul_pos d e;omega)]
  congr 1
  .
   have k1:(sgn (decide (x.num<0)) (x.num.natAbs / g))*(g:Int)=x.num:=by
    have:=Qb7 (decide (x.num<0)) false (x.num.natAbs / g) g;rw[show sgn false g=(g:Int) from rfl,f,Bool.bne_false,Qbs] at this;exact this.symm
   have k2:(sgn (decide (y.num<0)) (y.num.natAbs / h))*(h:Int)=y.num:=by
    have:=Qb7 (decide (y.num<0)) false (y.num.natAbs / h) h;rw[show sgn false h=(h:Int) from rfl,j,Bool.bne_false,Qbs] at this;exact this.symm
   rw[Qb7,<-k1,<-k2,Int.natCast_mul];rw[k1,k2]
   conv=>rhs;rw[<-k1,<-k2]
   grind
  .
   rw[Int.natAbs_mul,Int.natAbs_natCast,Int.natAbs_natCast]
   conv=>rhs;rw[<-k,<-i]
   grind
 .
  have c1:Nat.Coprime (x.num.natAbs / g) (x.den / h):=Nat.Coprime.coprime_dvd_left (Nat.div_dvd_of_dvd d1) (Nat.Coprime.coprime_dvd_right (Nat.div_dvd_of_dvd d4) x.reduced);have c2:Nat.Coprime (x.num.natAbs / g) (y.den / g):=by have:=Nat.coprime_div_gcd_div_gcd (m:=x.num.natAbs) (n:=y.den) (by omega);rw[b] at this;exact this
  have c3:Nat.Coprime (y.num.natAbs / h) (x.den / h):=by have:=Nat.coprime_div_gcd_div_gcd (m:=y.num.natAbs) (n:=x.den) (by omega);rw[c] at this;exact this
  have c4:Nat.Coprime (y.num.natAbs / h) (y.den / g):=Nat.Coprime.coprime_dvd_left (Nat.div_dvd_of_dvd d3) (Nat.Coprime.coprime_dvd_right (Nat.div_dvd_of_dvd d2) y.reduced);exact Nat.Coprime.mul_left (Nat.Coprime.mul_right c1 c2) (Nat.Coprime.mul_right c3 c4)
theorem Qnx(x y:Rat){g h t:Nat}{neg:Bool}(c:Nat.gcd x.den y.den=g)(e:sgn neg t=x.num*((y.den / g:Nat):Int)+y.num*((x.den / g:Nat):Int))(d:Nat.gcd t g=h):
 mkRat (sgn neg (t / h)) (x.den / g*(y.den / h))=x+y/\Nat.Coprime (t / h) (x.den / g*(y.den / h)):=by
 have f:0<g:=by rw[<-c];exact Nat.gcd_pos_of_pos_right _ y.den_pos
 have i:0<h:=by rw[<-d];exact Nat.gcd_pos_of_pos_right _ f
 have d1:g ∣ x.den:=c ▸ Nat.gcd_dvd_left _ _;have d2:g ∣ y.den:=c ▸ Nat.gcd_dvd_right _ _;have d3:h ∣ t:=d ▸ Nat.gcd_dvd_left _ _;have d4:h ∣ g:=d ▸ Nat.gcd_dvd_right _ _;have j:=Nat.div_mul_cancel d1;have l:=Nat.div_mul_cancel d2;have o:=Nat.div_mul_cancel d3;have p:=Nat.div_mul_cancel (Nat.dvd_trans d4 d2);have q:t=(x.num*((y.den / g:Nat):Int)+y.num*((x.den / g:Nat):Int)).natAbs:=by rw[<-e,Qdx]
 constructor
 .
  rw[<-Qgk,<-Rat.mkRat_mul_right (a:=h*g) (by have:=Nat.mul_pos i f;omega)]
  congr 1
  .
   have k1:sgn neg (t / h)*(h:Int)=sgn neg t:=by
    have:=Qb7 neg false (t / h) h;rw[show sgn false h=(h:Int) from rfl,o,Bool.bne_false] at this;exact this.symm
   rw[Int.natCast_mul,<-Int.mul_assoc,k1,e]
   conv=>rhs;rw[<-j,<-l,Int.natCast_mul,Int.natCast_mul]
   grind
  .
   rw[Int.natAbs_mul,Int.natAbs_natCast,Int.natAbs_natCast]
   conv=>rhs;rw[<-j,<-p]
   grind
 .
  have b:=Rat.add.aux x y c.symm rfl rfl;simp only[] at b;rw[<-q,d] at b;have k:=Nat.coprime_div_gcd_div_gcd (m:=t) (n:=x.den / g*y.den) (by rw[<-b];exact i);rw[<-b,Nat.mul_div_assoc _ (Nat.dvd_trans d4 d2)] at k;exact k
theorem Qh4{y:Rat}(a:y≠0):mkRat (sgn (decide (y.num<0)) y.den) y.num.natAbs=y⁻¹/\Nat.Coprime y.den y.num.natAbs/\0<y.num.natAbs:=by
 have b:y.num≠0:=fun h=>a (Rat.num_eq_zero.1 h)
 refine⟨?_,Nat.Coprime.symm y.reduced,by omega⟩;rw[Rat.inv_def];by_cases h:y.num<0
 . conv=>rhs;rw[show y.num= -((y.num.natAbs:Nat):Int) by omega,Rat.divInt_neg',Rat.divInt_ofNat]
   simp[sgn,h]
 .
  conv=>rhs;rw[show y.num=((y.num.natAbs:Nat):Int) by omega]
  rw[Rat.divInt_ofNat];simp[sgn,h]
structure Ent where
 a:Option Addr
 n:Nat
 c:Nat
 x:Nat
 k:Nat
def NumV(w:Vz)(a:Vx)(n c x:Nat):Prop:=∃l,List.length l=n/\U64 w a c l x
theorem NumV.below{w b:Vz}{a:Vx}{n c x:Nat}(h:NumV w a n c x)(d:Bl w b):NumV b a n c x:=by
 obtain⟨l,hl,h⟩:=h;exact⟨l,hl,h.below d⟩
theorem NumV.zero_iff{w:Vz}{a:Vx}{n c x:Nat}(h:NumV w a n c x):x=0↔n=0:=by
 obtain⟨l,rfl,h⟩:=h;exact h.num.len_zero (by decide)
theorem U64.len_bits{w:Vz}{a:Vx}{c:Nat}{l:Vy}{n k:Nat}(h:U64 w a c l n)(b:n<2 ^ k):l.length<=k:=by
 apply h.num.length_le_of_lt (by decide);refine Nat.lt_of_lt_of_le b ?_;exact Nat.pow_le_pow_left (by decide) k
theorem NumV.some{w:Vz}{a:Vx}{n c x:Nat}(h:NumV w a n c x)(f:0<x):∃b o,a=some ⟨b,o,none⟩:=by
 have g:n≠0:=fun d=>by have:=h.zero_iff.2 d;omega
 obtain⟨l,hl,h⟩:=h;obtain⟨b,o,e,_⟩:=h.row.cell 0 (by omega);exact⟨b,o,e⟩
structure NBag (w0 w:Vz) (L:List Ent):Prop where
 base:Bl w0 w
 ts:∀t,t∈ L->NumV w t.a t.n t.c t.x/\t.x<2 ^ t.k
theorem NBag.below{w0 w a:Vz}{L:List Ent}(h:NBag w0 w L)(b:Bl w a):NBag w0 a L:=
 ⟨h.base.trans (b.mono h.base.size),fun t c=>⟨(h.ts t c).1.below b,(h.ts t c).2⟩⟩
theorem NBag.drew{w0 w:Vz}{L:List Ent}(h:NBag w0 w L):NBag w0 w.drew L:=h.below bR.drew
theorem NBag.alloc{w0 w:Vz}{L:List Ent}(h:NBag w0 w L)(o:Obj):NBag w0 (w.alloc o) L:=h.below (bR.alloc lZ _)
theorem NBag.put{w0 w:Vz}{L:List Ent}{a:Vx}{n c x k:Nat}(h:NBag w0 w L)(d:NumV w a n c x)(hk:x<2 ^ k):NBag w0 w (⟨a,n,c,x,k⟩ :: L):=
 ⟨h.base,fun t b=>by
   rcases List.mem_cons.1 b with rfl|b
   . exact⟨d,hk⟩
   . exact h.ts t b⟩
theorem NBag.get{w0 w:Vz}{L:List Ent}{a:Vx}{n c x k:Nat}(h:NBag w0 w L)(b:⟨a,n,c,x,k⟩∈ L):NumV w a n c x/\x<2 ^ k:=h.ts _ b
def NNew(w0:Vz)(L:List Ent)(x k:Nat)(e:Ending)(w':Vz):Prop:=∃a n c,e=.returned (.slice a n c)/\NBag w0 w' (⟨a,n,c,x,k⟩ :: L)
theorem NBag.new{w0 w d:Vz}{L:List Ent}{x k:Nat}{e:Ending}(h:NBag w0 w L)(f:(∃a b r,e=.returned (.slice a (List.length r) b)/\U64 d a b r x)/\Below w.heap.size w d)(hk:x<2 ^ k):NNew w0 L x k e d:=by
 obtain⟨⟨a,c,r,rfl,g⟩,i⟩:=f;exact⟨a,r.length,c,rfl,(h.below i).put ⟨r,rfl,g⟩ hk⟩
theorem NBag.gcd{w0 w:Vz}{L:List Ent}{a b:Vx}{n1 g c1 c2 x y j k:Nat}(h:NBag w0 w L)(o:⟨a,n1,c1,x,j⟩∈ L)(p:⟨b,g,c2,y,k⟩∈ L)(r:j+k<274877906000):
 Calls prog 125 #[.slice a n1 c1,.slice b g c2] w (NNew w0 L (Nat.gcd x y) (j+k)):=by
 obtain⟨⟨l,rfl,i⟩,c⟩:=h.get o;obtain⟨⟨m,rfl,n⟩,d⟩:=h.get p;refine(Qrh a b c1 c2 l m x y w i n (by have:=i.len_bits c;omega) (by have:=n.len_bits d;omega)).mono fun e s q=>h.new q ?_
 have t:2 ^ j<=2 ^ (j+k):=Nat.pow_le_pow_right (by decide) (by omega);have u:2 ^ k<=2 ^ (j+k):=Nat.pow_le_pow_right (by decide) (by omega);rcases Nat.eq_zero_or_pos x with f|f
 . subst f;rw[Nat.gcd_zero_left];omega
 . have:=Nat.gcd_le_left y f;omega
theorem NBag.quot{w0 w:Vz}{L:List Ent}{b c:Vx}{n1 d c1 c2 x y j k:Nat}(h:NBag w0 w L)(g:⟨b,n1,c1,x,j⟩∈ L)(i:⟨c,d,c2,y,k⟩∈ L)(r:j<274877906000)(n:0<y):
 Calls prog 126 #[.slice b n1 c1,.slice c d c2] w (NNew w0 L (x / y) j):=by
 obtain⟨⟨l,rfl,f⟩,a⟩:=h.get g;obtain⟨⟨m,rfl,o⟩,p⟩:=h.get i;refine(Qrm b c c1 c2 l m x y w f o n (by have:=f.len_bits a;omega)).mono fun e s q=>h.new q ?_
 exact Nat.lt_of_le_of_lt (Nat.div_le_self _ _) a
theorem NBag.mul{w0 w:Vz}{L:List Ent}{c d:Vx}{n1 f c1 c2 x y j k:Nat}(h:NBag w0 w L)(n:⟨c,n1,c1,x,j⟩∈ L)(o:⟨d,f,c2,y,k⟩∈ L)(q:j+k<274877906000):
 Calls prog 128 #[.slice c n1 c1,.slice d f c2] w (NNew w0 L (x*y) (j+k)):=by
 obtain⟨⟨l,rfl,g⟩,a⟩:=h.get n;obtain⟨⟨m,rfl,i⟩,b⟩:=h.get o;exact(Qj0 c d c1 c2 l m x y w g i (by have:=g.len_bits a;have:=i.len_bits b;omega)).mono fun e r p=>h.new p (Qci a b)
theorem NBag.add{w0 w:Vz}{L:List Ent}{c d:Vx}{n1 f c1 c2 x y j k:Nat}(h:NBag w0 w L)(n:⟨c,n1,c1,x,j⟩∈ L)(o:⟨d,f,c2,y,k⟩∈ L)(q:j+k<274877906000):
 Calls prog 184 #[.slice c n1 c1,.slice d f c2] w (NNew w0 L (x+y) (j+k+1)):=by
 obtain⟨⟨l,rfl,g⟩,a⟩:=h.get n;obtain⟨⟨m,rfl,i⟩,b⟩:=h.get o;refine(Qq1 c d c1 c2 l m x y w g i (by have:=g.len_bits a;omega) (by have:=i.len_bits b;omega)).mono fun e r p=>h.new p ?_
 have s:2 ^ j<=2 ^ (j+k):=Nat.pow_le_pow_right (by decide) (by omega);have t:2 ^ k<=2 ^ (j+k):=Nat.pow_le_pow_right (by decide) (by omega);have u:(2:Nat) ^ (j+k+1)=2 ^ (j+k)*2:=Nat.pow_succ _ _;have v:x<2 ^ j:=a;have z:y<2 ^ k:=b;omega
theorem NBag.sub{w0 w:Vz}{L:List Ent}{a b:Vx}{n1 f c1 c2 x y j k:Nat}(h:NBag w0 w L)(g:⟨a,n1,c1,x,j⟩∈ L)(i:⟨b,f,c2,y,k⟩∈ L)(c:y<=x):
 Calls prog 185 #[.slice a n1 c1,.slice b f c2] w (NNew w0 L (x - y) j):=by
 obtain⟨⟨l,rfl,n⟩,d⟩:=h.get g;obtain⟨⟨m,rfl,o⟩,p⟩:=h.get i;exact(Qq2 a b c1 c2 l m x y w n o c).mono fun e r q=>h.new q (Nat.lt_of_le_of_lt (Nat.sub_le _ _) d)
theorem NBag.compare{w0 w:Vz}{L:List Ent}{a b:Vx}{n1 c c1 c2 x y j k:Nat}(h:NBag w0 w L)(f:⟨a,n1,c1,x,j⟩∈ L)(g:⟨b,c,c2,y,k⟩∈ L):
 Calls prog 176 #[.slice a n1 c1,.slice b c c2] w (fun e d=>e=.returned (.int .i64 (cmp3 x y))/\NBag w0 d L):=by
 obtain⟨⟨l,rfl,i⟩,n⟩:=h.get f;obtain⟨⟨m,rfl,o⟩,p⟩:=h.get g;refine(Qc1 a b c1 c2 l m x y w i o).mono ?_;rintro e d ⟨rfl,q⟩;exact⟨rfl,h.below q⟩
def LowIn(w:Vz)(b:Vx)(m d k:Nat):Prop:=(b=none/\m=0/\d=0/\k=1)∨(0<k/\NumV w b m d k)
def Low(w:Vz)(b:Vx)(m d k:Nat):Prop:=(b=none/\m=0/\d=0/\k=1)∨(1<k/\NumV w b m d k)
theorem Low.lowIn{w:Vz}{b:Vx}{m d k:Nat}(h:Low w b m d k):LowIn w b m d k:=by
 rcases h with h|⟨h,a⟩
 . exact .inl h
 . exact .inr ⟨by omega,a⟩
theorem Low.below{w a:Vz}{b:Vx}{m d k:Nat}(h:Low w b m d k)(c:Bl w a):Low a b m d k:=by
 rcases h with h|⟨h,e⟩
 . exact .inl h
 . exact .inr ⟨h,e.below c⟩
structure FracAt (w:Vz) (neg:Bool) (a:Vx) (n c:Nat) (b:Vx) (m d:Nat) (q:Rat):Prop where
 neg:neg=decide (q.num<0)
 top:NumV w a n c q.num.natAbs
 low:Low w b m d q.den
theorem FracAt.below{w e:Vz}{neg:Bool}{a b:Vx}{n c m d:Nat}{q:Rat}(h:FracAt w neg a n c b m d q)(f:Bl w e):FracAt e neg a n c b m d q:=⟨h.neg,h.top.below f,h.low.below f⟩
def FracV(w:Vz)(v:Value)(q:Rat):Prop:=∃neg a n c b m d,v=.agg #[.bool neg,.slice a n c,.slice b m d]/\FracAt w neg a n c b m d q
theorem FracV.below{w f:Vz}{v:Value}{q:Rat}(h:FracV w v q)(g:Bl w f):FracV f v q:=by
 obtain⟨neg,a,n,c,b,m,d,e,h⟩:=h;exact⟨neg,a,n,c,b,m,d,e,h.below g⟩
def FNew(w:Vz)(q:Rat)(e:Ending)(w':Vz):Prop:=(∃v,e=.returned v/\FracV w' v q)/\Below w.heap.size w w'
theorem NumV.nil(w:Vz):NumV w none 0 0 0:=⟨[],rfl,U64.nil w⟩
theorem FracV.zero(w:Vz):FracV w (.agg #[.bool false,.slice none 0 0,.slice none 0 0]) 0:=
 ⟨false,none,0,0,none,0,0,rfl,by decide,NumV.nil w,.inl ⟨rfl,rfl,rfl,rfl⟩⟩
theorem FracV.mk{w:Vz}{neg:Bool}{a b:Vx}{n c m d t k:Nat}(f:NumV w a n c t)(hl:Low w b m d k)(g:Nat.Coprime t k)(i:0<t):FracV w (.agg #[.bool neg,.slice a n c,.slice b m d]) (mkRat (sgn neg t) k):=by
 have hk:0<k:=by rcases hl with ⟨_,_,_,rfl⟩|⟨h,_⟩<;>omega
 obtain⟨e,j⟩:=Qh3 (neg:=neg) hk g;exact⟨neg,a,n,c,b,m,d,rfl,by rw[e,Qnu i],by rw[e,Qdx];exact f,by rw[j];exact hl⟩
theorem Qhy{w:Vz}{a:Vx}{n c x:Nat}(h:NumV w a n c x):Calls prog 172 #[.slice a n c] w fun e b=>e=.returned (.bool (decide (x=1)))/\b=w:=by
 obtain⟨l,rfl,h⟩:=h;exact Qc0 a c l x w h
def NoU64(C:Vw):Prop:=∀(i:Nat) (n:Int),C[i]?≠some (Value.int .u64 n)
theorem Row.only64{w m:Vz}{a:Vx}{d:Nat}{l:Vy}{c:Nat}{t:Vr}{C:Vw}(h:Row .u64 w a d l)(f:Only c w m)(o:SB w c t C)(p:NoU64 C):Row .u64 m a d l:=by
 refine⟨h.fit,?_,fun i q=>?_⟩
 .
  rcases h.shape with g|⟨e,b,rfl,n⟩
  . exact .inl g
  . exact .inr ⟨e,b,rfl,by have:=f.size;omega⟩
 .
  obtain⟨e,b,g,n,j⟩:=h.cell i q;have k:e≠c:=by
   rintro rfl;rw[o.cell] at j;exact p _ _ j
  exact⟨e,b,g,by have:=f.size;omega,(World.cell?_of_block (w:=w) (f.block e n k)).trans j⟩
theorem NumV.only{w b:Vz}{a:Vx}{n c x g:Nat}{t:Vr}{C:Vw}(h:NumV w a n c x)(d:Only g w b)(e:SB w g t C)(f:NoU64 C):NumV b a n c x:=by
 obtain⟨l,hl,h⟩:=h;exact⟨l,hl,h.row.only64 d e f,h.num,h.short⟩
theorem FracAt.only{w f:Vz}{neg:Bool}{a b:Vx}{n c m d g:Nat}{q:Rat}{t:Vr}{C:Vw}(h:FracAt w neg a n c b m d q)(i:Only g w f)(j:SB w g t C)(k:NoU64 C):FracAt f neg a n c b m d q:=by
 refine⟨h.neg,h.top.only i j k,?_⟩;rcases h.low with e|⟨e,l⟩
 . exact .inl e
 . exact .inr ⟨e,l.only i j k⟩
theorem FracV.only{w f:Vz}{v:Value}{g:Nat}{q:Rat}{t:Vr}{C:Vw}(h:FracV w v q)(i:Only g w f)(j:SB w g t C)(k:NoU64 C):FracV f v q:=by
 obtain⟨neg,a,n,c,b,m,d,e,h⟩:=h;exact⟨neg,a,n,c,b,m,d,e,h.only i j k⟩
def zeroFrac:Array Value:=#[.bool false,.slice none 0 0,.slice none 0 0]
theorem Qbh:NoU64 zeroFrac:=by
 intro i n h
 match i with
 |0=>simp[zeroFrac] at h
 |1=>simp[zeroFrac] at h
 |2=>simp[zeroFrac] at h
 |i+3=>simp[zeroFrac] at h
theorem SB.new2(w:Vz)(t1 t2:Vr)(C D:Vw):SB ((w.alloc (.cells C t1)).alloc (.cells D t2)) (w.heap.size+1) t2 D:=by
 have:=SB.new (w.alloc (.cells C t1)) t2 D;rw[World.size_alloc] at this;exact this
theorem SB.new3(w:Vz)(t1 t2 t3:Vr)(C D E:Vw):SB (((w.alloc (.cells C t1)).alloc (.cells D t2)).alloc (.cells E t3)) (w.heap.size+1+1) t3 E:=by
 have:=SB.new ((w.alloc (.cells C t1)).alloc (.cells D t2)) t3 E;rw[World.size_alloc,World.size_alloc] at this;exact this
theorem Below.new2(w:Vz)(a b:Obj):Bl w ((w.alloc a).alloc b):=bR.alloc lZ _ |>.alloc (by rw[World.size_alloc];omega) _
theorem Below.new3(w:Vz)(a b c:Obj):Bl w (((w.alloc a).alloc b).alloc c):=(Below.new2 w a b).alloc (by rw[World.size_alloc,World.size_alloc];omega) _
theorem Tryz.fracInfo:(prog.info? 107).map (·.size)=some 3:=by kernel_rfl
theorem Qdp(neg:Bool)(a b:Vx)(n c m d t k:Nat)(w:Vz)(q:NumV w a n c t)(hl:LowIn w b m d k)(u:Nat.Coprime t k):
 Calls prog 121 #[.bool neg,.slice a n c,.slice b m d] w (FNew w (mkRat (sgn neg t) k)):=by
 obtain⟨r,s⟩:=Ia q u;have j:=q.zero_iff;have y:=Hi ((Below.refl w.heap.size w).alloc lZ (.cells #[.bool false,.slice none 0 0,.slice none 0 0] 107));clear q u;by_cases l:t=0
 .
  have x:n=0:=j.1 l;subst l x;rw[Qh2,Rat.zero_mkRat];clear hl j;go_enter func121,ntmps121;go_wp2;refine bodyPost_ret (v:=.agg #[.bool false,.slice none 0 0,.slice none 0 0]) (results_cell_row rfl _ _ (w.heap.size) 107 #[.bool false,.slice none 0 0,.slice none 0 0] (0,0) _ rfl (SB.new w _ _) underlying107 rfl Tryz.fracInfo) rfl ?_;exact⟨⟨_,rfl,FracV.zero _⟩,y.o⟩
 .
  have x:((n:Int) == 0)=false:=by rw[beq_eq_false_iff_ne];omega
  have i:0<t:=by omega
  rcases hl with ⟨rfl,rfl,rfl,rfl⟩|⟨hk,hl⟩
  .
   have f:=Hi (Qhy (NumV.nil (w.alloc (.cells #[.bool false,.slice none 0 0,.slice none 0 0] 107))));rw[show decide (0=1)=false by decide] at f;clear j l;go_enter func121,ntmps121;go_wp2_with fail;go_fit f.o;rintro e w1 ⟨rfl,p⟩;subst p;clear f;go_wp2;refine bodyPost_ret (v:=.agg #[.bool neg,.slice a n c,.slice none 0 0]) (results_cell_row rfl _ _ (w.heap.size) 107 #[.bool neg,.slice a n c,.slice none 0 0] (0,0) _ rfl (SB.new w _ _) underlying107 rfl Tryz.fracInfo) rfl ?_;have g:=(Below.refl w.heap.size w).alloc lZ (.cells #[.bool neg,.slice a n c,.slice none 0 0] 107);exact⟨⟨_,rfl,FracV.mk (r.o.below g) (.inl ⟨rfl,rfl,rfl,rfl⟩) s.o i⟩,g⟩
  .
   obtain⟨f,z⟩:=Ia (Qhy (hl.below ((Below.refl w.heap.size w).alloc lZ (.cells #[.bool false,.slice none 0 0,.slice none 0 0] 107)))) hl;clear hl;by_cases h:k=1
   .
    rw[show decide (k=1)=true by simpa using h] at f;clear j l;go_enter func121,ntmps121;go_wp2_with fail;go_fit f.o;rintro e w1 ⟨rfl,p⟩;subst p;clear f;go_wp2;refine bodyPost_ret (v:=.agg #[.bool neg,.slice a n c,.slice none 0 0]) (results_cell_row rfl _ _ (w.heap.size) 107 #[.bool neg,.slice a n c,.slice none 0 0] (0,0) _ rfl (SB.new w _ _) underlying107 rfl Tryz.fracInfo) rfl ?_;have g:=(Below.refl w.heap.size w).alloc lZ (.cells #[.bool neg,.slice a n c,.slice none 0 0] 107);exact⟨⟨_,rfl,FracV.mk (r.o.below g) (.inl ⟨rfl,rfl,rfl,h⟩) s.o i⟩,g⟩
   .
    rw[show decide (k=1)=false by simpa using h] at f;have A:=Hi (show 1<k by omega);clear j l h;go_enter func121,ntmps121;go_wp2_with fail;go_fit f.o;rintro e w1 ⟨rfl,p⟩;subst p;clear f;go_wp2;refine bodyPost_ret (v:=.agg #[.bool neg,.slice a n c,.slice b m d]) (results_cell_row rfl _ _ (w.heap.size) 107 #[.bool neg,.slice a n c,.slice b m d] (0,0) _ rfl (SB.new w _ _) underlying107 rfl Tryz.fracInfo) rfl ?_;have g:=(Below.refl w.heap.size w).alloc lZ (.cells #[.bool neg,.slice a n c,.slice b m d] 107);exact⟨⟨_,rfl,FracV.mk (r.o.below g) (.inr ⟨A.o,z.o.below g⟩) s.o i⟩,g⟩
theorem Qnn(neg:Bool)(a b:Vx)(n c m d k g:Nat)(w0 w:Vz)(L:List Ent)(hB:NBag w0 w L)(hl:Low w b m d k)(hk:k<2 ^ g):
 Calls prog 124 #[.agg #[.bool neg,.slice a n c,.slice b m d]] w (NNew w0 L k g):=by
 have r:∀(w:Vz) (a:Vx) (n c n' f:Nat),(binOp .eql 105 (.slice a n c) (.slice none n' f)).run prog w=.ok (.bool a.isNone) w:=fun w a n c n' f=>Lib.run_eql_slice_nil w _ _ a n c n' f underlying105
 obtain⟨i,j,p⟩:=Ib hB hk hl;clear hB hk;rcases hl with ⟨rfl,rfl,rfl,rfl⟩|⟨l,e⟩
 .
  go_enter func124,ntmps124;go_wp2;go_ret;have hB:Blk .u64 190 ((w.alloc (.cells #[.bool neg,.slice a n c,.slice none 0 0] 107)).alloc (.cells (wordCells .u64 [1]) 190)) (w.heap.size+1) [1]:=by
   have:=Blk.new .u64 190 (w.alloc (.cells #[.bool neg,.slice a n c,.slice none 0 0] 107)) [1];rw[World.size_alloc] at this;exact this
  exact⟨_,1,1,rfl,((i.o.alloc _).alloc _).put ⟨[1],rfl,hB.row 1 (by simp) 1 (by omega),⟨fun d q=>by simp at q;omega,.inr (by simp),by simp[val]⟩,by simp⟩ j.o⟩
 .
  obtain⟨s,t,rfl⟩:=e.some (by omega);clear l e;go_enter func124,ntmps124;go_wp2;go_ret;rcases p.o with ⟨h,_⟩|⟨l,e⟩
  . cases h
  . exact⟨_,m,d,rfl,(i.o.alloc _).put (e.below (bR.alloc lZ _)) j.o⟩
theorem Qhz(neg:Bool)(a b:Vx)(n c m d t:Nat)(w:Vz)(f:NumV w a n c t):
 Calls prog 129 #[.agg #[.bool neg,.slice a n c,.slice b m d]] w fun e g=>e=.returned (.bool (decide (t=0)))/\Below w.heap.size w g:=by
 have e:decide (t=0)=((n:Int) == 0):=by
  have:=f.zero_iff;by_cases h:t=0
  . simp[h,this.1 h]
  . rw[decide_eq_false h];symm;rw[beq_eq_false_iff_ne];omega
 rw[e];clear e f;go_enter func129,ntmps129;go_wp2;go_ret;exact⟨rfl,bR.alloc lZ _⟩
theorem Qh0(neg:Bool)(a b:Vx)(n c m d:Nat)(q:Rat)(w:Vz)(h:FracAt w neg a n c b m d q):
 Calls prog 117 #[.agg #[.bool neg,.slice a n c,.slice b m d]] w (FNew w (-q)):=by
 have e:mkRat (sgn (!neg) q.num.natAbs) q.den= -q:=by
  rw[Qnv,h.neg,Qbs,<-Rat.neg_mkRat,Rat.mkRat_self]
 have y:=Hi (fun B j=>Qdp (!neg) a b n c m d q.num.natAbs q.den B (h.top.below j) ((h.low.below j).lowIn) q.reduced);rw[e] at y;clear h e;go_enter func117,ntmps117;obtain⟨z,i⟩:=Ia (SB.new2 w 107 107 #[.bool neg,.slice a n c,.slice b m d] zeroFrac) (Below.new2 w (.cells #[.bool neg,.slice a n c,.slice b m d] 107) (.cells zeroFrac 107));go_wp2_with fail;go_fit (y.o _ i.o);rintro e C ⟨⟨F,rfl,l⟩,j⟩;obtain⟨f,p,r,s,t,u,d9,rfl,l⟩:=l;have g:=z.o.below j z.o.lt;have D:=g.cell 0;have k1:=g.cell 1;have k2:=g.cell 2;have f0:=g.free 0;have f1:=g.free 1;have f2:=g.free 2;simp[zeroFrac] at D k1 k2;obtain⟨E,k,x⟩:=Ib l g (i.o.trans (j.mono i.o.size));clear l g j;go_wp2
 refine bodyPost_ret (v:=.agg #[.bool f,.slice p r s,.slice t u d9]) (results_cell_row rfl _ _ (w.heap.size+1) 107 #[.bool f,.slice p r s,.slice t u d9] (0,0) _ rfl (((k.o.set 0 _).set 1 _).set 2 _) underlying107 rfl Tryz.fracInfo) rfl ?_;have A:=(((Only.refl (w.heap.size+1) C).setCell 0 (.bool f)).setCell 1 (.slice p r s)).setCell 2 (.slice t u d9);exact⟨⟨_,rfl,f,p,r,s,t,u,d9,rfl,E.o.only A k.o Qbh⟩,Only.fresh x.o A (by omega)⟩
theorem Qbk{P:Program}{e:Func}{p u:Tmp}{ty:Vr}(h:e.results=#[.tmp u,.cell p ty])(a:Vw)(w:Vz)(g:Nat)(t:Vr)(b:Vw)(fr:Nat × Nat)(d:TypeDesc)
 (f:a.getD p undef=.pointer (some ⟨g,0,none⟩)) (i:w.heap[g]?=some (.cells b t fr))
 (j:P.underlying ty=some d) (k:(match d with| .struct _| .array _ _=>true|_=>false)=true) (l:(P.info? ty).map (·.size)=some b.size):
 (results e a).run P w=.ok (.tuple #[a.getD u undef,.agg b]) w:=by
 have c:a[p]?.getD undef=.pointer (some ⟨g,0,none⟩):=by simpa using f
 simp[results,h,c,asAddr,run_loadVar_row w g t ty b fr d i j k l]
theorem Qno{p q:Bool}{x y:Nat}(h:p≠q)(a:x<=y):sgn q (y - x)=sgn p x+sgn q y:=by
 cases p<;>cases q<;>simp[sgn] at h ⊢ <;>omega
theorem Qnp{p q:Bool}{x y:Nat}(h:p≠q)(a:y<=x):sgn p (x - y)=sgn p x+sgn q y:=by
 cases p<;>cases q<;>simp[sgn] at h ⊢ <;>omega
theorem Qnq(p:Bool)(x y:Nat):sgn p (x+y)=sgn p x+sgn p y:=by
 cases p<;>simp[sgn]<;>omega
theorem Qnr{x j k:Nat}(h:x<2 ^ j)(hk:j<=k):x<2 ^ k:=Nat.lt_of_lt_of_le h (Nat.pow_le_pow_right (by decide) hk)
theorem NBag.grow{w0 w:Vz}{L:List Ent}{a:Vx}{n c x j k:Nat}(h:NBag w0 w (⟨a,n,c,x,j⟩ :: L))(hk:j<=k):NBag w0 w (⟨a,n,c,x,k⟩ :: L):=
 ⟨h.base,fun t b=>by
   rcases List.mem_cons.1 b with rfl|b
   . exact⟨(h.ts _ (List.Mem.head _)).1,Qnr (h.ts _ (List.Mem.head _)).2 hk⟩
   . exact h.ts t (List.mem_cons_of_mem _ b)⟩
theorem NBag.rebase{w0 w:Vz}{L:List Ent}(h:NBag w0 w L):NBag w w L:=⟨Below.refl _ _,h.ts⟩
def Signed(w0:Vz)(L:List Ent)(k:Nat)(z:Int)(e:Ending)(w':Vz):Prop:=∃r a n c t,e=.returned (.tuple #[.bool r,.slice a n c])/\NBag w0 w' (⟨a,n,c,t,k⟩ :: L)/\sgn r t=z
theorem NBag.addSigned{w0 w:Vz}{L:List Ent}{u v:Vx}{n1 z c1 c2 x y j k:Nat}{p q:Bool}(h:NBag w0 w L)(g:⟨u,n1,c1,x,j⟩∈ L)(i:⟨v,z,c2,y,k⟩∈ L)(s:j+k<274877906000):
 Calls prog 127 #[.bool p,.slice u n1 c1,.bool q,.slice v z c2] w (Signed w0 L (j+k+1) (sgn p x+sgn q y)):=by
 by_cases d:p=q
 .
  subst d;have f:=Hi (h.add g i s);clear h g i s;go_enter func127,ntmps127;go_wp2_with fail;go_fit f.o;rintro e w1 ⟨a,n,c,rfl,b⟩;have l:=Hi b;clear b f;go_wp2;go_ret2;exact⟨p,a,n,c,x+y,rfl,l.o,Qnq p x y⟩
 .
  have A:(p == q)=false:=by simpa using d
  obtain⟨r,B,C,D⟩:=Ic (h.compare g i) g i d;clear h g i s d;by_cases t:x<y
  .
   have m:cmp3 x y<0:=(Qav x y).2 t;go_enter func127,ntmps127;go_wp2_with fail;go_fit r.o;rintro e w1 ⟨rfl,b⟩;have f:=Hi (b.sub C.o B.o (by omega));clear b r;go_wp2_with fail;go_fit f.o;rintro e w1 ⟨a,n,c,rfl,b⟩;have l:=Hi b;clear b f;go_wp2;go_ret2;exact⟨q,a,n,c,y - x,rfl,l.o.grow (by omega),Qno D.o (by omega)⟩
  .
   have m:¬(cmp3 x y<0):=fun h=>by have:=(Qav x y).1 h;omega
   go_enter func127,ntmps127;go_wp2_with fail;go_fit r.o;rintro e w1 ⟨rfl,b⟩;have f:=Hi (b.sub B.o C.o (by omega));clear b r;go_wp2_with fail;go_fit f.o;rintro e w1 ⟨a,n,c,rfl,b⟩;have l:=Hi b;clear b f;go_wp2;go_ret2;exact⟨p,a,n,c,x - y,rfl,l.o.grow (by omega),Qnp D.o (by omega)⟩
theorem Qns{neg:Bool}{t k g:Nat}(hk:0<k)(b:Nat.gcd t k=g):mkRat (sgn neg (t / g)) (k / g)=mkRat (sgn neg t) k/\Nat.Coprime (t / g) (k / g)/\0<k / g/\0<g:=by
 have d:0<g:=by rw[<-b];exact Nat.gcd_pos_of_pos_right _ hk
 have d1:g ∣ t:=b ▸ Nat.gcd_dvd_left _ _;have d2:g ∣ k:=b ▸ Nat.gcd_dvd_right _ _;have e:=Nat.div_mul_cancel d1;have c:=Nat.div_mul_cancel d2;refine⟨?_,by have:=Nat.coprime_div_gcd_div_gcd (m:=t) (n:=k) (by omega);rw[b] at this;exact this,?_,d⟩
 .
  rw[<-Rat.mkRat_mul_right (a:=g) (by omega),c]
  congr 1
  have:=Qb7 neg false (t / g) g;rw[show sgn false g=(g:Int) from rfl,e,Bool.bne_false] at this;exact this.symm
 .
  rcases Nat.eq_zero_or_pos (k / g) with h|h
  . rw[h] at c;omega
  . exact h
theorem NBag.start{w:Vz}{a b:Vx}{n c m d t k i j:Nat}(f:NumV w a n c t)(hk:NumV w b m d k)(g:t<2 ^ i)(h:k<2 ^ j):NBag w w [⟨a,n,c,t,i⟩,⟨b,m,d,k,j⟩]:=by
 refine⟨Below.refl _ _,fun s e=>?_⟩;simp only[List.mem_cons,List.not_mem_nil,or_false] at e;rcases e with rfl|rfl
 . exact⟨f,g⟩
 . exact⟨hk,h⟩
theorem Qnt(neg:Bool)(a b:Vx)(n c m d t k i j:Nat)(w:Vz)(F:NumV w a n c t)(hk:NumV w b m d k)(H:t<2 ^ i)(I:k<2 ^ j)(J:i+j<137438953000):
 Calls prog 123 #[.bool neg,.slice a n c,.slice b m d] w (FNew w (mkRat (sgn neg t) k)):=by
 have K:=hk.zero_iff;by_cases L:k=0
 .
  have P:m=0:=K.1 L;subst L P;rw[Rat.mkRat_zero];have T:=Hi ((Below.refl w.heap.size w).alloc lZ (.cells #[.bool false,.slice none 0 0,.slice none 0 0] 107));clear F hk H I J K;go_enter func123,ntmps123;go_wp2;refine bodyPost_ret (v:=.agg #[.bool false,.slice none 0 0,.slice none 0 0]) (results_cell_row rfl _ _ w.heap.size 107 #[.bool false,.slice none 0 0,.slice none 0 0] (0,0) _ rfl (SB.new w _ _) underlying107 rfl Tryz.fracInfo) rfl ?_;exact⟨⟨_,rfl,FracV.zero _⟩,T.o⟩
 .
  have P:((m:Int) == 0)=false:=by rw[beq_eq_false_iff_ne];omega
  obtain⟨G,hG⟩:=nm (Nat.gcd t k);obtain⟨Q,R,M,U⟩:=Qns (neg:=neg) (by omega) hG;rw[<-Q];have g:=Hi (((NBag.start F hk H I).alloc (.cells zeroFrac 107)).rebase);obtain⟨y,r⟩:=nm (w.alloc (.cells zeroFrac 107));obtain⟨s,f⟩:=Ia (SB.new w 107 zeroFrac) ((Below.refl w.heap.size w).alloc lZ (.cells zeroFrac 107));rw[r] at g s f;obtain⟨V,W,N⟩:=Ib R hG r;clear F hk H I K L R hG Q r;go_enter func123,ntmps123;go_wp2_with fail;rw[show w.alloc (.cells #[.bool false,.slice none 0 0,.slice none 0 0] 107)=y from N.o];apply cM;apply NBag.gcd (w0:=y) g.o;(repeat(first|exact mH|apply mT));omega;rw[W.o];rintro e w1 ⟨aG,nG,cG,rfl,l⟩;clear g;have g:=Hi l;clear l;go_wp2_with fail
  apply cM;apply NBag.quot (w0:=y) g.o;(repeat(first|exact mH|apply mT));omega;(first|assumption|omega);rintro e w2 ⟨X,Y,Z,rfl,l⟩;clear g;have g:=Hi l;clear l;go_wp2_with fail;apply cM;apply NBag.quot (w0:=y) g.o;(repeat(first|exact mH|apply mT));omega;(first|assumption|omega);rintro e w3 ⟨aL,nL,cL,rfl,l⟩;clear g;have g:=Hi l;clear l;go_wp2_with fail;have u:=Hi (s.o.below g.o.base s.o.lt);have p:=Hi (f.o.trans (g.o.base.mono f.o.size));clear s f;have s:=u;have f:=p;clear u p
  go_fit (Qdp neg X aL Y Z nL cL (t / G) (k / G) _ (g.o.get (List.Mem.tail _ (List.Mem.head _))).1 (.inr ⟨M,(g.o.get (List.Mem.head _)).1⟩) V.o);rintro e w9 ⟨⟨v9,rfl,z⟩,l⟩;obtain⟨h,A,B,C,D,E,d9,rfl,z⟩:=z;have q:=s.o.below l s.o.lt;have k0:=q.cell 0;have k1:=q.cell 1;have k2:=q.cell 2;have f0:=q.free 0;have f1:=q.free 1;have f2:=q.free 2;simp[zeroFrac] at k0 k1 k2;obtain⟨HV,x,O⟩:=Ib z q (f.o.trans (l.mono f.o.size));clear z q l;go_wp2;refine bodyPost_ret (v:=.agg #[.bool h,.slice A B C,.slice D E d9]) (results_cell_row rfl _ _ (w.heap.size) 107 #[.bool h,.slice A B C,.slice D E d9] (0,0) _ rfl (((x.o.set 0 _).set 1 _).set 2 _) underlying107 rfl Tryz.fracInfo) rfl ?_;have S:=(((Only.refl (w.heap.size) w9).setCell 0 (.bool h)).setCell 1 (.slice A B C)).setCell 2 (.slice D E d9)
  exact⟨⟨_,rfl,h,A,B,C,D,E,d9,rfl,HV.o.only S x.o Qbh⟩,Only.fresh O.o S (by omega)⟩
theorem NBag.under{w0 w:Vz}{L:List Ent}{neg:Bool}{a b:Vx}{n c m d k e:Nat}(h:NBag w0 w L)(hl:Low w0 b m d k)(hk:k<2 ^ e):
 Calls prog 124 #[.agg #[.bool neg,.slice a n c,.slice b m d]] w (NNew w0 L k e):=Qnn neg a b n c m d k e w0 w L h (hl.below h.base) hk
theorem NBag.built{w0 w:Vz}{L:List Ent}{neg:Bool}{a b:Vx}{n c m d t k i j:Nat}(h:NBag w0 w L)(e:⟨a,n,c,t,i⟩∈ L)(f:⟨b,m,d,k,j⟩∈ L)(hk:0<k)(g:Nat.Coprime t k):
 Calls prog 121 #[.bool neg,.slice a n c,.slice b m d] w (FNew w (mkRat (sgn neg t) k)):=Qdp neg a b n c m d t k w (h.get e).1 (.inr ⟨hk,(h.get f).1⟩) g
theorem NBag.isZero{w0 w:Vz}{L:List Ent}{a b:Vx}{n c t k m d:Nat}{neg:Bool}(h:NBag w0 w L)(g:⟨a,n,c,t,k⟩∈ L):
 Calls prog 129 #[.agg #[.bool neg,.slice a n c,.slice b m d]] w (fun e f=>e=.returned (.bool (decide (t=0)))/\NBag w0 f L):=by
 refine(Qhz neg a b n c m d t w (h.get g).1).mono ?_;rintro e f ⟨rfl,i⟩;exact⟨rfl,h.below i⟩
theorem Qh1(E F:Bool)(K L M b2:Vx)(N P Q R S T U V i j:Nat)(p q:Rat)(w:Vz)(hx:FracAt w E K N P L Q R p)(hy:FracAt w F M S T b2 U V q)(hp:Fits p i)(hq:Fits q j)(ar:i+j<68719476000):
 Calls prog 65 #[.agg #[.bool E,.slice K N P,.slice L Q R],.agg #[.bool F,.slice M S T,.slice b2 U V]] w (FNew w (p*q)):=by
 obtain⟨HX,HY,ag,ah⟩:=Ic hx hy hp hq;obtain⟨CX,ai⟩:=nm (#[Value.bool E,.slice K N P,.slice L Q R]);obtain⟨CY,aj⟩:=nm (#[Value.bool F,.slice M S T,.slice b2 U V]);obtain⟨a,G,H,I,c⟩:=Id ((((((NBag.start hx.top hy.top hp.1 hq.1).alloc (.cells CX 107)).alloc (.cells CY 107)).alloc (.cells zeroFrac 107)).rebase)) (SB.new3 w 107 107 107 CX CY zeroFrac) ((SB.new2 w 107 107 CX CY).alloc (.cells zeroFrac 107)) (((SB.new w 107 CX).alloc (.cells CY 107)).alloc (.cells zeroFrac 107)) (Below.new3 w (.cells CX 107) (.cells CY 107) (.cells zeroFrac 107));obtain⟨A,X⟩:=nm ((((w.alloc (.cells CX 107)).alloc (.cells CY 107)).alloc (.cells zeroFrac 107)));rw[X] at a G H I c;subst ai aj;obtain⟨ak,al⟩:=Ia (hx.low.below c.o) (hy.low.below c.o);have d:=I.o.lt
 have g:=H.o.lt;obtain⟨h,k,l,m,n,r⟩:=Ie (I.o.cell 0) (I.o.cell 1) (I.o.cell 2) (H.o.cell 0) (H.o.cell 1) (H.o.cell 2);simp at h k l m n r;have Y:=Hi X;have au:w.heap.size+1+1≠w.heap.size:=by omega
 have av:w.heap.size+1+1≠w.heap.size+1:=by omega
 clear hx hy hp hq X;by_cases Z:p.num.natAbs=0
 .
  have am:p=0:=Rat.num_eq_zero.1 (by omega);rw[show p*q=0 by rw[am,Rat.zero_mul]];go_enter func65,ntmps65;obtain⟨s,t,u⟩:=Jb a.o.base d h.o k.o l.o;obtain⟨x,y,z⟩:=Jb a.o.base g m.o n.o r.o;go_wp2_with fail;rw[show (((w.alloc (.cells #[.bool E,.slice K N P,.slice L Q R] 107)).alloc (.cells #[.bool F,.slice M S T,.slice b2 U V] 107)).alloc (.cells #[.bool false,.slice none 0 0,.slice none 0 0] 107))=A from Y.o];apply cM;apply NBag.isZero (w0:=A) a.o
  (repeat(first|exact mH|apply mT));rw[(decide_eq_true Z)];rintro e w1 ⟨rfl,b⟩;have f:=G.o.below b.base G.o.lt;have k0:=f.cell 0;have k1:=f.cell 1;have k2:=f.cell 2;have f0:=f.free 0;have f1:=f.free 1;have f2:=f.free 2;simp[zeroFrac] at k0 k1 k2;obtain⟨D,J⟩:=Ia f (c.o.trans (b.base.mono c.o.size));clear b f a;go_wp2;refine bodyPost_ret (v:=.agg #[.bool false,.slice none 0 0,.slice none 0 0]) (results_cell_row rfl _ _ (w.heap.size+1+1) 107 #[.bool false,.slice none 0 0,.slice none 0 0] (0,0) _ rfl (((D.o.set 0 _).set 1 _).set 2 _) underlying107 rfl Tryz.fracInfo) rfl ?_;have ho:=(((Only.refl (w.heap.size+1+1) w1).setCell 0 (.bool false)).setCell 1 (.slice none 0 0)).setCell 2 (.slice none 0 0);exact⟨⟨_,rfl,FracV.zero _⟩,Only.fresh J.o ho (by omega)⟩
 .
  by_cases ad:q.num.natAbs=0
  .
   have ao:q=0:=Rat.num_eq_zero.1 (by omega);rw[show p*q=0 by rw[ao,Rat.mul_zero]];go_enter func65,ntmps65;obtain⟨s,t,u⟩:=Jb a.o.base d h.o k.o l.o;obtain⟨x,y,z⟩:=Jb a.o.base g m.o n.o r.o;go_wp2_with fail;rw[show (((w.alloc (.cells #[.bool E,.slice K N P,.slice L Q R] 107)).alloc (.cells #[.bool F,.slice M S T,.slice b2 U V] 107)).alloc (.cells #[.bool false,.slice none 0 0,.slice none 0 0] 107))=A from Y.o];apply cM;apply NBag.isZero (w0:=A) a.o
   (repeat(first|exact mH|apply mT));rw[(decide_eq_false Z)];rintro e w1 ⟨rfl,b⟩;clear a;have a:=Hi b;clear b;obtain⟨s,t,u⟩:=Jb a.o.base d h.o k.o l.o;obtain⟨x,y,z⟩:=Jb a.o.base g m.o n.o r.o;go_wp2_with fail;apply cM;apply NBag.isZero (w0:=A) a.o;(repeat(first|exact mH|apply mT));rw[(decide_eq_true ad)];rintro e w2 ⟨rfl,b⟩;have f:=G.o.below b.base G.o.lt;have k0:=f.cell 0;have k1:=f.cell 1;have k2:=f.cell 2;have f0:=f.free 0
   have f1:=f.free 1;have f2:=f.free 2;simp[zeroFrac] at k0 k1 k2;obtain⟨D,J⟩:=Ia f (c.o.trans (b.base.mono c.o.size));clear b f a;go_wp2;refine bodyPost_ret (v:=.agg #[.bool false,.slice none 0 0,.slice none 0 0]) (results_cell_row rfl _ _ (w.heap.size+1+1) 107 #[.bool false,.slice none 0 0,.slice none 0 0] (0,0) _ rfl (((D.o.set 0 _).set 1 _).set 2 _) underlying107 rfl Tryz.fracInfo) rfl ?_;have ho:=(((Only.refl (w.heap.size+1+1) w2).setCell 0 (.bool false)).setCell 1 (.slice none 0 0)).setCell 2 (.slice none 0 0);exact⟨⟨_,rfl,FracV.zero _⟩,Only.fresh J.o ho (by omega)⟩
  .
   obtain⟨he,ae⟩:=Qnw p q rfl rfl;rw[<-HX.o.neg,<-HY.o.neg] at he;have HE:O (mkRat (sgn (!E == F) (p.num.natAbs / Nat.gcd p.num.natAbs q.den*(q.num.natAbs / Nat.gcd q.num.natAbs p.den))) (p.den / Nat.gcd q.num.natAbs p.den*(q.den / Nat.gcd p.num.natAbs q.den))=p*q):=Hi he;obtain⟨ap,aq⟩:=Ia ae (show 0<p.den / Nat.gcd q.num.natAbs p.den*(q.den / Nat.gcd p.num.natAbs q.den) from Nat.mul_pos (Nat.div_pos (Nat.gcd_le_right _ p.den_pos) (Nat.gcd_pos_of_pos_right _ p.den_pos)) (Nat.div_pos (Nat.gcd_le_right _ q.den_pos) (Nat.gcd_pos_of_pos_right _ q.den_pos)));clear he ae;obtain⟨aa,ab⟩:=Ia (show 0<Nat.gcd p.num.natAbs q.den from Nat.gcd_pos_of_pos_right _ q.den_pos) (show 0<Nat.gcd q.num.natAbs p.den from Nat.gcd_pos_of_pos_right _ p.den_pos);go_enter func65,ntmps65;have s:=ce a.o.base d h.o
   obtain⟨t,u⟩:=Ja a.o.base d k.o l.o;obtain⟨x,y,z⟩:=Jb a.o.base g m.o n.o r.o;go_wp2_with fail;rw[show (((w.alloc (.cells #[.bool E,.slice K N P,.slice L Q R] 107)).alloc (.cells #[.bool F,.slice M S T,.slice b2 U V] 107)).alloc (.cells #[.bool false,.slice none 0 0,.slice none 0 0] 107))=A from Y.o];apply cM;apply NBag.isZero (w0:=A) a.o;(repeat(first|exact mH|apply mT));rw[(decide_eq_false Z)];rintro e w1 ⟨rfl,b⟩;clear a;have a:=Hi b;clear b;have s:=ce a.o.base d h.o
   obtain⟨t,u⟩:=Ja a.o.base d k.o l.o;obtain⟨x,y,z⟩:=Jb a.o.base g m.o n.o r.o;go_wp2_with fail;apply cM;apply NBag.isZero (w0:=A) a.o;(repeat(first|exact mH|apply mT));rw[(decide_eq_false ad)];rintro e w2 ⟨rfl,b⟩;clear a;have a:=Hi b;clear b;obtain⟨s,t,u⟩:=Jb a.o.base d h.o k.o l.o;have x:=ce a.o.base g m.o
   obtain⟨y,z⟩:=Ja a.o.base g n.o r.o;go_wp2_with fail;go_region_held3
    (fun B=>B.cell? ⟨w.heap.size,0,none⟩=some (.bool E)/\B.cell? ⟨w.heap.size,1,none⟩=some (.slice K N P)/\B.cell? ⟨w.heap.size,2,none⟩=some (.slice L Q R)/\B.cell? ⟨w.heap.size+1,0,none⟩=some (.bool F)/\B.cell? ⟨w.heap.size+1,1,none⟩=some (.slice M S T)/\B.cell? ⟨w.heap.size+1,2,none⟩=some (.slice b2 U V)) ((first|(simp [*];done)|go_keep))
    (first
    |
     (go_at_call_of 124 (Value.agg #[.bool E,.slice K N P,.slice L Q R])
      apply cM;apply NBag.under (w0:=A) (hl:=ak.o) (hk:=ag.o.2);(focus(first|exact a.o|exact a.o.drew|exact a.o.drew.drew));rintro e w3 ⟨aA,nA,cA,rfl,b⟩;clear a;have a:=Hi b;clear b;obtain⟨s,t,u⟩:=Jb a.o.base d h.o k.o l.o;obtain⟨x,y,z⟩:=Jb a.o.base g m.o n.o r.o
      skip)
    |
     (go_at_call_of 124 (Value.agg #[.bool F,.slice M S T,.slice b2 U V])
      apply cM;apply NBag.under (w0:=A) (hl:=al.o) (hk:=ah.o.2);(focus(first|exact a.o|exact a.o.drew|exact a.o.drew.drew));rintro e w4 ⟨aB,nB,cB,rfl,b⟩;clear a;have a:=Hi b;clear b;obtain⟨s,t,u⟩:=Jb a.o.base d h.o k.o l.o;obtain⟨x,y,z⟩:=Jb a.o.base g m.o n.o r.o
      skip)
    )
   go_wp2_with fail;go_region_held3
    (fun B=>B.cell? ⟨w.heap.size,0,none⟩=some (.bool E)/\B.cell? ⟨w.heap.size,1,none⟩=some (.slice K N P)/\B.cell? ⟨w.heap.size,2,none⟩=some (.slice L Q R)/\B.cell? ⟨w.heap.size+1,0,none⟩=some (.bool F)/\B.cell? ⟨w.heap.size+1,1,none⟩=some (.slice M S T)/\B.cell? ⟨w.heap.size+1,2,none⟩=some (.slice b2 U V)) ((first|(simp [*];done)|go_keep))
    ((skip
      first
       |(
        go_at_call 125;apply cM
        apply NBag.gcd (w0:=A))
       |(
        go_at_call 126;apply cM
        apply NBag.quot (w0:=A))
       |(
        go_at_call 128;apply cM
        apply NBag.mul (w0:=A))
      (focus(first|exact a.o|exact a.o.drew|exact a.o.drew.drew));(repeat(first|exact mH|apply mT));omega
      try (focus(first|exact aa.o|exact ab.o))
      rintro e wn ⟨an,nn,cn,rfl,b⟩;clear a;have a:=Hi b;clear b;obtain⟨s,t,u⟩:=Jb a.o.base d h.o k.o l.o;obtain⟨x,y,z⟩:=Jb a.o.base g m.o n.o r.o
      skip))
   go_wp2_with fail;go_region_held3
    (fun B=>B.cell? ⟨w.heap.size,0,none⟩=some (.bool E)/\B.cell? ⟨w.heap.size,1,none⟩=some (.slice K N P)/\B.cell? ⟨w.heap.size,2,none⟩=some (.slice L Q R)/\B.cell? ⟨w.heap.size+1,0,none⟩=some (.bool F)/\B.cell? ⟨w.heap.size+1,1,none⟩=some (.slice M S T)/\B.cell? ⟨w.heap.size+1,2,none⟩=some (.slice b2 U V)) ((first|(simp [*];done)|go_keep))
    ((skip
      first
       |(
        go_at_call 125;apply cM
        apply NBag.gcd (w0:=A))
       |(
        go_at_call 126;apply cM
        apply NBag.quot (w0:=A))
       |(
        go_at_call 128;apply cM
        apply NBag.mul (w0:=A))
      (focus(first|exact a.o|exact a.o.drew|exact a.o.drew.drew));(repeat(first|exact mH|apply mT));omega
      try (focus(first|exact aa.o|exact ab.o))
      rintro e wn ⟨an,nn,cn,rfl,b⟩;clear a;have a:=Hi b;clear b;obtain⟨s,t,u⟩:=Jb a.o.base d h.o k.o l.o;obtain⟨x,y,z⟩:=Jb a.o.base g m.o n.o r.o
      skip))
   go_wp2_with
    ((skip
      first
       |(
        go_at_call 125;apply cM
        apply NBag.gcd (w0:=A))
       |(
        go_at_call 126;apply cM
        apply NBag.quot (w0:=A))
       |(
        go_at_call 128;apply cM
        apply NBag.mul (w0:=A))
      (focus(first|exact a.o|exact a.o.drew|exact a.o.drew.drew));(repeat(first|exact mH|apply mT));omega
      try (focus(first|exact aa.o|exact ab.o))
      rintro e wn ⟨an,nn,cn,rfl,b⟩;clear a;have a:=Hi b;clear b;obtain⟨s,t,u⟩:=Jb a.o.base d h.o k.o l.o;obtain⟨x,y,z⟩:=Jb a.o.base g m.o n.o r.o
      skip))
   have af:=Hi (G.o.below a.o.base G.o.lt);have W:=Hi (c.o.trans (a.o.base.mono c.o.size));clear G c;have G:=af;have c:=W;clear af W;apply cM;apply NBag.built (w0:=A) a.o;(repeat(first|exact mH|apply mT));(focus(exact aq.o));(focus(exact ap.o));rw[HE.o];rintro e w9 ⟨⟨v9,rfl,hv⟩,b⟩;obtain⟨C,a9,n9,c9,b9,m9,d9,rfl,hv⟩:=hv;have f:=G.o.below b G.o.lt;have k0:=f.cell 0;have k1:=f.cell 1;have k2:=f.cell 2;have f0:=f.free 0;have f1:=f.free 1;have f2:=f.free 2;simp[zeroFrac] at k0 k1 k2;obtain⟨HV,D,J⟩:=Ib hv f (c.o.trans (b.mono c.o.size));clear hv f b;go_wp2
   refine bodyPost_ret (v:=.agg #[.bool C,.slice a9 n9 c9,.slice b9 m9 d9]) (results_cell_row rfl _ _ (w.heap.size+1+1) 107 #[.bool C,.slice a9 n9 c9,.slice b9 m9 d9] (0,0) _ rfl (((D.o.set 0 _).set 1 _).set 2 _) underlying107 rfl Tryz.fracInfo) rfl ?_;have ho:=(((Only.refl (w.heap.size+1+1) w9).setCell 0 (.bool C)).setCell 1 (.slice a9 n9 c9)).setCell 2 (.slice b9 m9 d9);exact⟨⟨_,rfl,C,a9,n9,c9,b9,m9,d9,rfl,HV.o.only ho D.o Qbh⟩,Only.fresh J.o ho (by omega)⟩
theorem Qea(s:Vs):s.toList= []↔s.data.toList= []:=by rw[Lib.toList_data]
def DigAns(s:Vs)(w:Vz)(e:Ending)(w':Vz):Prop:=(∃v,e=.returned (.bool v)/\(v=true↔IsDig s.data.toList))/\w'=w
theorem Qka(s:Vs)(w:Vz)(q:s.size<=1073741824):
 Calls prog 120 #[.string s] w (DigAns s w):=by
 go_enter func120,ntmps120;go_wp2;go_loop [6] (fun i=>∃k:Nat,k<=s.size/\i=.int .i64 k/\AllDigits (s.data.toList.take k)) (fun i=>s.size - (intOf i).toNat)
 case atStart=>exact⟨0,by omega,rfl,fun c a=>by simp at a⟩
 case round=>
  obtain⟨k,hk,rfl,f⟩:=hrel;have g:=Hi f;clear f;by_cases b:k<s.size
  .
   have l:=Hi (Qe6 s k b);have r:(0:Int)<=(k:Int):=by omega
   have b1:(k:Int)<(s.size:Int):=by omega
   have j:O (s[k]∈ s.data.toList):=Hi (List.mem_iff_getElem.2 ⟨k,by simpa using b,rfl⟩);by_cases t:s[k].toNat<48
   .
    have m:((s[k].toNat:Int)<48):=by omega
    go_wp2;go_ret;refine⟨⟨false,rfl,?_⟩,rfl⟩;constructor
    . intro h;cases h
    . intro h;have:=(h.2 _ j.o).1;omega
   .
    have m:¬((s[k].toNat:Int)<48):=by omega
    by_cases u:57<s[k].toNat
    .
     have n:((57:Int)<(s[k].toNat:Int)):=by omega
     go_wp2;go_ret;refine⟨⟨false,rfl,?_⟩,rfl⟩;constructor
     . intro h;cases h
     . intro h;have:=(h.2 _ j.o).2;omega
    .
     have n:¬((57:Int)<(s[k].toNat:Int)):=by omega
     go_wp2;go_round
     case rel=>
      refine⟨k+1,by omega,by go_num,?_⟩;rw[l.o];intro c a;rcases List.mem_append.1 a with a|a
      . exact g.o c a
      . rw[List.mem_singleton.1 a];omega
     case measure=>simp[intOf];omega
  .
   have e:k=s.size:=by omega
   subst e;have p:O (AllDigits s.data.toList):=Hi (by have:=g.o;rwa [List.take_of_length_le (by simp)] at this);by_cases d:s.toList= []
   .
    go_wp2;go_ret;refine⟨⟨_,rfl,?_⟩,rfl⟩;have:¬IsDig s.data.toList:=fun h=>h.1 ((Qea s).1 d)
    simp[d,this]
   .
    go_wp2;go_ret;refine⟨⟨_,rfl,?_⟩,rfl⟩;have:IsDig s.data.toList:=⟨fun h=>d ((Qea s).2 h),p.o⟩;simp[d,this]
theorem Qkb(s:Vs)(w:Vz)(D:s.size<=19)(n:AllDigits s.data.toList):
 Calls prog 175 #[.string s] w fun e q=>e=.returned (.int .u64 ((decVal s.data.toList:Nat):Int))/\q=w:=by
 have p:=Hi n;clear n;go_enter func175,ntmps175;go_wp2;go_loop [3,7] (fun r i=>∃k v:Nat,k<=s.size/\i=.int .i64 k/\r=.int .u64 v/\decVal (s.data.toList.take k)=v) (fun _ i=>s.size - (intOf i).toNat)
 case atStart=>exact⟨0,0,by omega,rfl,rfl,by simp[decVal]⟩
 case round=>
  obtain⟨k,v,hk,rfl,rfl,b⟩:=hrel;have j:=Hi b;clear b;by_cases c:k<s.size
  .
   have a:=Qe7 p.o k c;have t:=Hi (Qe6 s k c);obtain⟨d,u,f,x⟩:=Qi0 s[k] a.1 a.2;have l:=Hi f;have E:(0:Int)<=(k:Int):=by omega
   have b1:(k:Int)<(s.size:Int):=by omega
   have y:(48:Int)+(d:Int) - 48=d:=by omega
   have z:v<1000000000000000000:=by
    have A:=Qa0 _ (p.o.take k);rw[j.o] at A;have B:(s.data.toList.take k).length<=18:=by rw[List.length_take];omega
    have F:10 ^ (s.data.toList.take k).length<=10 ^ 18:=Nat.pow_le_pow_right (by decide) B;omega
   obtain⟨h,g⟩:∃h,v*10+d=h:=⟨_,rfl⟩;have C:=Hi g;have G:(v:Int)*10+(d:Int)=(h:Int):=by omega
   clear f a g;go_wp2;go_round
   case rel=>exact⟨k+1,h,by omega,by go_num,by go_num,by rw[t.o,Qde,j.o,l.o,<-C.o];omega⟩
   case measure=>simp[intOf];omega
  .
   have m:k=s.size:=by omega
   subst m;go_wp2;go_ret;have b:=j.o;rw[List.take_of_length_le (by simp)] at b;exact⟨by rw[b];rfl,rfl⟩
structure OwnB (w:Vz) (B g cap:Nat) (ws:Vy):Prop where
 base:B<=g
 fit:ws.length<=cap
 most:cap<=maxLen
 blk:∃C,SB w g 190 C/\C.size=cap/\C.toList.take ws.length=ws.map (fun n:Nat=>Value.int .u64 n)
theorem OwnB.lt{w:Vz}{B g a:Nat}{b:Vy}(h:OwnB w B g a b):g<w.heap.size:=by obtain⟨C,h,_⟩:=h.blk;exact h.lt
theorem OwnB.owns{w:Vz}{B g a:Nat}{b:Vy}(h:OwnB w B g a b):w.ownsRow B 190 1 (.slice (some ⟨g,0,none⟩) b.length a) b.length (b.map (fun n:Nat=>Value.int .u64 n)):=by
 obtain⟨C,c,e,d⟩:=h.blk;exact⟨by simp,.inr ⟨g,a,C,rfl,h.base,c,h.fit,h.most,by omega,by rw[Nat.mul_one];exact d⟩⟩
theorem OwnB.of{w:Vz}{B g n a:Nat}{c:Vy}(f:c.length=n)(h:w.ownsRow B 190 1 (.slice (some ⟨g,0,none⟩) n a) n (c.map (fun n:Nat=>Value.int .u64 n))):OwnB w B g a c:=by
 rcases h.2 with ⟨h,_⟩|⟨o,cap',C,i,j,k,p,l,d,e⟩
 . cases h
 .
  injection i with b q m
  injection b with b
  injection b with b _ _
  subst b;subst m;rw[Nat.mul_one] at d e;exact⟨j,by omega,l,C,k,d,by rw[f];exact e⟩
theorem OwnB.at{w:Vz}{B g b:Nat}{a:Vy}(h:OwnB w B g b a)(i:Nat)(c:i<a.length):w.cell? ⟨g,i,none⟩=some (.int .u64 ((a.getD i 0:Nat):Int)):=by
 obtain⟨C,d,j,f⟩:=h.blk;rw[d.cell];have e:(C.toList.take a.length)[i]?=(a.map (fun n:Nat=>Value.int .u64 (n:Int)))[i]?:=by rw[f]
 rw[List.getElem?_take_of_lt c,List.getElem?_map,gE c] at e;rw[Array.getElem?_toList] at e;rw[e,List.getD_eq_getElem?_getD,gE c];rfl
theorem OwnB.free{w:Vz}{B g a:Nat}{b:Vy}(h:OwnB w B g a b)(i:Nat):w.frozen? ⟨g,i,none⟩=false:=by
 obtain⟨C,c,_⟩:=h.blk;exact c.free i
theorem OwnB.set{w:Vz}{B g a:Nat}{b:Vy}(h:OwnB w B g a b)(i x:Nat):OwnB (w.setCell ⟨g,i,none⟩ (.int .u64 (x:Int))) B g a (b.set i x):=by
 obtain⟨C,c,d,e⟩:=h.blk;refine⟨h.base,by rw[List.length_set];exact h.fit,h.most,_,c.set i _,by rw[Array.size_setIfInBounds];exact d,?_⟩;rw[List.length_set,Array.toList_setIfInBounds,List.take_set,e,List.map_set]
theorem OwnB.pre{w:Vz}{B g a:Nat}{b:Vy}(h:OwnB w B g a b):Pre w g b:=by
 have d:=h;obtain⟨C,c,f,j⟩:=h.blk;exact⟨C,c,fun i e=>by rw[<-c.cell];exact d.at i e⟩
theorem Qr7{a:Vy}{x:Nat}(c:Small 18446744073709551616 a)(d:val 18446744073709551616 a=x)(b:a.length=0∨18446744073709551616 ^ (a.length - 1)<=x):Num 18446744073709551616 a x:=by
 refine⟨c,?_,d⟩;rcases b with b|b
 . left;exact List.length_eq_zero_iff.1 b
 .
  by_cases f:a.length=0
  . left;exact List.length_eq_zero_iff.1 f
  right;intro e;obtain⟨j,g⟩:∃j,a.length=j+1:=⟨a.length - 1,by omega⟩;have h:=Qb5 18446744073709551616 a j (by omega);rw[g,Nat.add_sub_cancel] at e b;rw[e,Nat.mul_zero,Nat.add_zero,List.take_of_length_le (by omega),d] at h;have i:=Qab (B:=18446744073709551616) (by decide) (c.take j);rw[List.length_take,Nat.min_eq_left (by omega)] at i;omega
theorem Qr8{B k over d R h l a:Nat}{rs b:Vy}(hk:k<rs.length)(c:b.getD k 0=d)(e:l+B*h=d*R+over)(g:val B (rs.take k)+B ^ k*over=val B (b.take k)*R+a):
 val B ((rs.set k l).take (k+1))+B ^ (k+1)*h=val B (b.take (k+1))*R+a:=by
 rw[take_set _ _ _ hk,Qal,List.length_take,Nat.min_eq_left (by omega),Qae,c,Nat.pow_succ];have f:B ^ k*(l+B*h)=B ^ k*(d*R+over):=by rw[e]
 rw[Nat.mul_add,Nat.mul_add,<-Nat.mul_assoc] at f;rw[Nat.add_mul,Nat.mul_assoc (B ^ k) d R];omega
theorem Tryz.info64':∃i,prog.info? 190=some i/\i.zero=some (.int .u64 0)/\i.size=1/\i.bytes=8:=info_parts Tryz.info64
theorem Qj5(B g s:Nat)(c:Vy)(x a:Nat)(w:Vz)(h:OwnB w B g s c)(hx:Num 18446744073709551616 c x)(hc:a<18446744073709551616)(hl:c.length<1099511627770)(z:B<=w.heap.size):
 Calls prog 174 #[.slice (some ⟨g,0,none⟩) c.length s,.int .u64 a] w fun e U=>(∃g' cap' t,e=.returned (.slice (some ⟨g',0,none⟩) (List.length t) cap')/\OwnB U B g' cap' t/\Num 18446744073709551616 t (x*10000000000000000000+a)/\t.length<=c.length+1)/\Below B w U/\w.heap.size<=U.heap.size:=by
 obtain⟨i0,hi,A,C,hz2⟩:=Tryz.info64';obtain⟨HI,V,W,X⟩:=Ic hi A C hz2;have ai:=h.fit;obtain⟨R,D⟩:=Ia h hx;clear h hx hi A C hz2;go_enter func174,ntmps174;go_wp2;go_loopw [5,10] (fun ov Y wr=>∃(k over:Nat) (rs:Vy),k<=c.length/\Y=.int .i64 k/\ov=.int .u64 over/\over<18446744073709551616/\OwnB wr B g s rs/\rs.length=c.length/\Small 18446744073709551616 rs/\(∀p,k<=p->rs.getD p 0=c.getD p 0)/\val 18446744073709551616 (rs.take k)+18446744073709551616 ^ k*over=val 18446744073709551616 (c.take k)*10000000000000000000+a/\Only g w wr) (fun _ Y _=>c.length - (intOf Y).toNat)
 case atStart=>exact⟨0,a,c,by omega,rfl,rfl,hc,R.o,rfl,D.o.small,fun _ _=>rfl,by simp[val],Only.refl _ _⟩
 case round=>
  obtain⟨k,over,rs,hk,rfl,rfl,E,f,F,G,H,hv,I⟩:=hrel;obtain⟨i,b,y,J,HV,j⟩:=Ie f F G H hv I;have ak:=f.lt;clear f F G H hv I;by_cases al:k<c.length
  .
   obtain⟨d,S⟩:=nm (c.getD k 0);have Z:d<18446744073709551616:=by rw[<-S];exact D.o.small.getD (by omega) k
   have g1:=i.o.free k;have T:=i.o.at k (by have:=b.o;omega);rw[J.o k lZ,S] at T;obtain⟨h,l,hh,aa,K,L⟩:=Qc3 d 10000000000000000000 over Z (by decide) E;obtain⟨M,HD,ab⟩:=Ib L S K;clear L S K;go_wp2_with fail;go_fit (M.o _);rintro e w2 ⟨rfl,ad⟩;subst ad;clear M;go_wp2;go_roundw
   case rel=>
    refine⟨k+1,h,rs.set k l,by omega,by go_num,rfl,hh,i.o.set k l,by rw[List.length_set];exact b.o,y.o.set _ aa,?_,Qr8 (by have:=b.o;omega) HD.o ab.o HV.o,j.o.setCell _ _⟩;intro p hp;rw[getD_set_ne _ _ _ _ (by omega)];exact J.o p (by omega)
   case measure=>simp[intOf];omega
  .
   have ae:k=c.length:=by omega
   subst ae;have N:O (val 18446744073709551616 rs+18446744073709551616 ^ rs.length*over=x*10000000000000000000+a):=Hi (by
    have:=HV.o;rw[List.take_of_length_le (by rw[b.o];exact Nat.le_refl _),List.take_length,D.o.eq] at this
    rw[b.o];exact this)
   by_cases af:over=0
   .
    subst af;go_wp2;go_ret;have hv3:=N.o;rw[Nat.mul_zero,Nat.add_zero] at hv3;refine⟨⟨g,s,rs,by rw[b.o];rfl,i.o,Qr7 y.o hv3 ?_,by rw[b.o];omega⟩,j.o.below R.o.base z,j.o.size⟩;by_cases hz:rs.length=0
    . exact .inl hz
    right;rw[b.o] at hz ⊢;have h1:18446744073709551616 ^ (c.length - 1)<=x:=by have:=D.o.trim.pow_le (B:=18446744073709551616) (by omega);rw[D.o.eq] at this;exact this
    omega
   .
    have q0:((over:Int) != 0)=true:=by rw[bne_iff_ne];omega
    have am:=Hi b.o;have an:=j.o.size;rw[<-b.o];have aj:rs.length<1099511627770:=by rw[b.o];exact hl
    go_wp2_with (at_builtin;refine wpList_append_lies _ rfl _ _ 105 rfl B 190 i0 (.int .u64 0) 1 8 underlying105 HI.o V.o W.o X.o rfl (by decide) _ rs.length (rs.map (fun n:Nat=>Value.int .u64 n)) rfl (Qcw i.o.owns (bR.alloc lZ _)) ⟨wr.heap.size,0,none⟩ 1 1 [Value.int .u64 (over:Int)] rfl rfl ?c1 ?c2 (by decide) ?c3 ?c4 ?c5 _ rfl ?_)
    case c1=>exact World.news_of_block (heap_alloc_new wr _)
    case c2=>intro u hu;rw[List.mem_singleton.1 hu];rfl
    case c3=>unfold maxLen;omega
    case c4=>omega
    case c5=>rw[World.size_alloc];omega
    intro T v w3 m r ag P;have ah:O (OwnB w3 B T v (rs++ [over])):=Hi (OwnB.of (n:=rs.length+1) (by simp) (by rw[List.map_append];exact m));have HG:=Hi r;clear m r ag P;go_wp2;go_ret;have Q:Below B w w3:=Below.grown ((j.o.below R.o.base z).alloc (by omega) _) HG.o (by rw[World.size_alloc];omega) (fun q hq=>by
     simp[Value.ownBlock] at hq;subst hq;exact R.o.base)
    refine⟨⟨T,v,rs++ [over],by simp,ah.o,?_,by rw[List.length_append,b.o];simp⟩,Q,Q.size⟩;refine⟨y.o.append (fun e he=>by rw[List.mem_singleton.1 he];exact E),.inr ?_,by rw[Qal];exact N.o⟩;simp;omega
theorem Qr9(L:Int)(n:Nat)(b:L=n)(g:n<=2199023255552)(w:Vz):
 (Instr.makeSlice 105 (.int .i64 0) (.int .i64 L)).run prog w=.ok (.slice (some ⟨w.heap.size,0,none⟩) 0 n) (w.alloc (.cells (wordCells .u64 (zeros n)) 190)):=by
 subst b;obtain⟨i,c,d,e,f⟩:=Tryz.info64';have a:=run_make (P:=prog) w 105 190 i (.int .u64 0) underlying105 c d .i64 .i64 0 n (by omega) (by omega) (by rw[f];omega) (by omega);simp only[Int.toNat_natCast,e,Nat.mul_one] at a;rw[<-Qd6];exact a
theorem Qj6(l:Vu):decVal (48 :: l)=decVal l:=by
 unfold decVal;rw[List.foldl_cons];rfl
theorem Qsa(l:Vu):decVal (Lib.trimLeftB l 48)=decVal l:=by
 induction l with
 |nil=>rfl
 |cons c l a=>
  unfold Lib.trimLeftB at a ⊢;rw[List.dropWhile_cons]
  split
  .
   rename_i h;have:c=48:=by simpa using h
   rw[a,this,Qj6]
  . rfl
theorem Qsb{l:Vu}(h:AllDigits l):AllDigits (Lib.trimLeftB l 48):=fun c a=>h c ((List.dropWhile_sublist _).mem a)
theorem Qsc(l:Vu):(Lib.trimLeftB l 48).length<=l.length:=(List.dropWhile_sublist _).length_le
theorem Qag(s:Vs):s.data.toList.length=s.size:=by simp
theorem Qj7(r:Vs)(N:Nat)(a:N<=r.size):r.data.toList=(r.extract 0 N).data.toList++(r.extract N r.size).data.toList/\(r.extract 0 N).size=N/\(r.extract N r.size).size=r.size - N:=by
 have hl:=Qag r;refine⟨?_,by simp;omega,by simp⟩;rw[Lib.extract_data,Lib.extract_data,List.drop_zero,Nat.sub_zero,List.take_of_length_le (l:=r.data.toList.drop N) (by rw[List.length_drop];omega),List.take_append_drop]
def strLen:Value->Nat
 | .string s=>s.size
 |_=>0
theorem Qsd(s:Vs)(w:Vz):
 Calls prog 173 #[.string s,.string ⟨#[48]⟩] w fun e a=>e=.returned (.string ⟨(Lib.trimLeftB s.data.toList 48).toArray⟩)/\a=w:=Any.strings_TrimLeft_one Tryz.lays161 s 48 (by decide) w
theorem Qj8(s:Vs)(w:Vz)(hs:s.size<=1073741824)(hd:AllDigits s.data.toList):
 Calls prog 122 #[.string s] w (Nat64 w (decVal s.data.toList)):=by
 obtain⟨t,Z⟩:=nm ((⟨(Lib.trimLeftB s.data.toList 48).toArray⟩:ByteArray));have C:t.data.toList=Lib.trimLeftB s.data.toList 48:=by rw[<-Z]
 have ag:t.size<=1073741824:=by
  have:=Qsc s.data.toList;rw[<-C,Qag,Qag] at this;omega
 obtain⟨HV,HD,H⟩:=Ib (show decVal t.data.toList=decVal s.data.toList by rw[C,Qsa]) (show AllDigits t.data.toList by rw[C];exact Qsb hd) (Qsd s w);rw[Z] at H;clear Z C hd;obtain⟨q,hq⟩:∃q:Nat,t.size / 19=q:=⟨_,rfl⟩;have q1:(t.size:Int) / 19=(q:Int):=by omega
 have q2:Int.tdiv (t.size:Int) 19=(q:Int):=by rw[<-q1];exact Int.tdiv_eq_ediv_of_nonneg (by omega)
 have ah:q<=1073741824:=by omega
 have aa:∀w,(Instr.makeSlice 105 (.int .i64 0) (.int .i64 ((q:Int)+1))).run prog w=.ok (.slice (some ⟨w.heap.size,0,none⟩) 0 (q+1)) (w.alloc (.cells (wordCells .u64 (zeros (q+1))) 190)):=
  fun w=>Qr9 _ (q+1) (by omega) (by omega) w
 go_enter func122,ntmps122;go_wp2_with fail;go_fit H.o;rintro e w ⟨rfl,hw⟩;subst hw;clear H;go_wp2_with fail;clear aa q1 q2;go_loopw [0,3] (fun sv xv wr=>∃(r:Vs) (b:Vu) (g p:Nat) (D:Vy),sv=.string r/\xv=.slice (some ⟨g,0,none⟩) D.length p/\t.data.toList=b++r.data.toList/\(b= []∨r.size % 19=0)/\OwnB wr w.heap.size g p D/\Num 18446744073709551616 D (decVal b)/\D.length<=b.length/\Below w.heap.size w wr) (fun sv _ _=>strLen sv)
 case atStart=>
  refine⟨t,[],w.heap.size,q+1,[],rfl,rfl,rfl,.inl rfl,⟨Nat.le_refl _,by simp,by unfold maxLen;omega,_,SB.new _ _ _,by simp[wordCells,zeros],by simp⟩,Num.zero _,by simp,bR.alloc lZ _⟩
 case round=>
  obtain⟨r,b,g,p,D,rfl,rfl,a,E,F,G,af,hb⟩:=hrel;have HF:=Hi E;clear E;obtain⟨HC,Y,HN,S⟩:=Ic a F G hb;have ai:b.length+r.size=t.size:=by rw[<-Qag r,<-Qag t,a,List.length_append]
  have T:O (AllDigits r.data.toList):=Hi (fun c U=>HD.o c (by rw[a];exact List.mem_append_right _ U));clear a F G hb;by_cases h0:r.toList= []
  .
   go_wp2;go_ret;have ab:r.data.toList= []:=(Qea r).1 h0;have n:b=t.data.toList:=by have:=HC.o;rw[ab,List.append_nil] at this;exact this.symm
   refine⟨⟨_,_,D,rfl,Y.o.pre.row _ Y.o.fit,?_,by omega⟩,S.o⟩;rw[<-HV.o,<-n];exact HN.o
  .
   have aj:0<r.size:=by
    rcases Nat.eq_zero_or_pos r.size with h|h
    . exact absurd ((Qea r).2 (List.length_eq_zero_iff.1 (by rw[Qag];exact h))) h0
    . exact h
   have ak:r.toList.isEmpty=false:=by simp[h0]
   obtain⟨m,hm⟩:∃m:Nat,r.size % 19=m:=⟨_,rfl⟩;have m1:(r.size:Int) % 19=(m:Int):=by omega
   have m2:Int.tmod (r.size:Int) 19=(m:Int):=by rw[<-m1];exact Int.tmod_eq_emod_of_nonneg (by omega)
   by_cases ad:m=0
   .
    subst ad;obtain⟨a,k,I⟩:=Qj7 r 19 (by omega);have j:=Hi a;have u:O (AllDigits (r.extract 0 19).data.toList):=Hi (fun c U=>T.o c (by rw[a];exact List.mem_append_left _ U));have d:=Hi (fun w=>Qkb (r.extract 0 19) w (by omega) u.o);obtain⟨V,hV⟩:=nm (decVal (r.extract 0 19).data.toList);have J:V<18446744073709551616:=by
     have h1:=Qa0 _ u.o;rw[hV,Qag,k] at h1;have h3:10 ^ 19<=10 ^ 19:=Nat.pow_le_pow_right (by decide) (by omega);omega
    rw[hV] at d;obtain⟨v,l⟩:=Ia hV (k.trans rfl);obtain⟨CH,f⟩:=nm (r.extract 0 19);obtain⟨RS,i⟩:=nm (r.extract 19 r.size);rw[f,i] at j;rw[f] at l v d;rw[i] at I;obtain⟨K,L,x⟩:=Ib f i (Qj5 w.heap.size g p D (decVal b) V wr Y.o HN.o J (by omega) S.o.size);clear a k hV f i;go_wp2_with fail;rw[K.o];go_fit (d.o _);rintro e w2 ⟨rfl,M⟩;subst M;clear d;go_wp2_with fail;go_fit x.o;rintro e w3 ⟨⟨g3,y,N,rfl,z,A,ae⟩,B,W⟩;obtain⟨P,Q,R⟩:=Ib z A (S.o.trans B);clear x z A B;go_wp2;rw[L.o];go_roundw
    case rel=>
     refine⟨RS,b++CH.data.toList,g3,y,N,rfl,rfl,?_,.inr (by omega),P.o,?_,?_,R.o⟩
     . rw[HC.o,j.o,List.append_assoc]
     . rw[Qb4,v.o,Qag,l.o,show (10:Nat) ^ 19=10000000000000000000 from rfl]
       exact Q.o
     . rw[List.length_append,Qag,l.o];omega
    case measure=>simp[strLen];omega
   .
    have z0:((m:Int) == 0)=false:=by rw[beq_eq_false_iff_ne];omega
    have n:decVal b*10 ^ m=decVal b*10000000000000000000:=by rcases HF.o with h|h;rw[h];simp[decVal];omega
    have X:=Hi n;clear n;obtain⟨a,k,I⟩:=Qj7 r m (by omega);have j:=Hi a;have u:O (AllDigits (r.extract 0 m).data.toList):=Hi (fun c U=>T.o c (by rw[a];exact List.mem_append_left _ U));have d:=Hi (fun w=>Qkb (r.extract 0 m) w (by omega) u.o);obtain⟨V,hV⟩:=nm (decVal (r.extract 0 m).data.toList);have J:V<18446744073709551616:=by
     have h1:=Qa0 _ u.o;rw[hV,Qag,k] at h1;have h3:10 ^ m<=10 ^ 19:=Nat.pow_le_pow_right (by decide) (by omega);omega
    rw[hV] at d;obtain⟨v,l⟩:=Ia hV (k.trans rfl);obtain⟨CH,f⟩:=nm (r.extract 0 m);obtain⟨RS,i⟩:=nm (r.extract m r.size);rw[f,i] at j;rw[f] at l v d;rw[i] at I;obtain⟨K,L,x⟩:=Ib f i (Qj5 w.heap.size g p D (decVal b) V wr Y.o HN.o J (by omega) S.o.size);clear a k hV f i;go_wp2_with fail;rw[K.o];go_fit (d.o _);rintro e w2 ⟨rfl,M⟩;subst M;clear d;go_wp2_with fail;go_fit x.o;rintro e w3 ⟨⟨g3,y,N,rfl,z,A,ae⟩,B,W⟩;obtain⟨P,Q,R⟩:=Ib z A (S.o.trans B);clear x z A B;go_wp2;rw[L.o];go_roundw
    case rel=>
     refine⟨RS,b++CH.data.toList,g3,y,N,rfl,rfl,?_,.inr (by omega),P.o,?_,?_,R.o⟩
     . rw[HC.o,j.o,List.append_assoc]
     . rw[Qb4,v.o,Qag,l.o,X.o]
       exact Q.o
     . rw[List.length_append,Qag,l.o];omega
    case measure=>simp[strLen];omega
end Go.Proofs.YtkkadnoecklepaaGreatDoor
