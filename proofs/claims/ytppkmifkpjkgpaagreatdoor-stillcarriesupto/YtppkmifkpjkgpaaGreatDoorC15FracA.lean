import Derived.Test.YtppkmifkpjkgpaaGreatDoorC14NatMany
import Derived.Deep.DeepCutAuto
namespace Go.Proofs.YtppkmifkpjkgpaaGreatDoor
open Go.RowKit
open Go.Proofs.Tryz
set_option linter.unusedSimpArgs false
set_option linter.unusedVariables false
set_option maxHeartbeats 8000000
set_option maxRecDepth 1000000
theorem U64.uniq{w:Vz}{a:Vx}{c p:Nat}{l f:Vy}{n n':Nat}(h:U64 w a c l n)(k:U64 w a p f n')(hl:l.length=f.length):n=n':=by
 have e:l=f:=by
  apply List.ext_getElem hl;intro i m o;obtain⟨b,g,q,_,d1⟩:=h.row.cell i m;obtain⟨r,d,j,_,d2⟩:=k.row.cell i o;rw[q] at j;obtain⟨rfl,rfl⟩:b=r/\g=d:=by simp at j;exact j
  rw[d1] at d2;simp only[Option.some.injEq,Value.int.injEq,true_and] at d2;have d3:l.getD i 0=f.getD i 0:=by omega
  rw[List.getD_eq_getElem?_getD,List.getD_eq_getElem?_getD,gE m,gE o] at d3
  simpa using d3
 rw[<-h.num.eq,<-k.num.eq,e]
open Classical in
theorem Qqi:∃f:World->Value->Nat,∀(w:Vz) (a:Vx) (c:Nat) (l:Vy) (n:Nat),U64 w a c l n->f w (.slice a l.length c)=n:=by
 have h:∀(w:Vz) (v:Value),∃n:Nat,∀(a:Vx) (c:Nat) (l:Vy) (m:Nat),v=.slice a l.length c->U64 w a c l m->n=m:=by
  intro w v;by_cases g:∃n a c l,v=.slice a (List.length l) c/\U64 w a c l n
  .
   obtain⟨n,a,c,l,rfl,b⟩:=g;refine⟨n,fun o q r m e d=>?_⟩;simp only[Value.slice.injEq] at e;obtain⟨rfl,i,rfl⟩:=e;exact b.uniq d i
  . exact⟨0,fun a c l m e d=>absurd ⟨m,a,c,l,e,d⟩ g⟩
 have j:∀p:World × Value,∃n:Nat,∀(a:Vx) (c:Nat) (l:Vy) (m:Nat),p.2=.slice a l.length c->U64 p.1 a c l m->n=m:=fun p=>h p.1 p.2
 obtain⟨f,k⟩:=Classical.axiomOfChoice j;exact⟨fun w v=>f (w,v),fun w a c l n b=>k (w,.slice a l.length c) a c l n rfl b⟩
theorem U64.len_mono{w w':Vz}{a b:Vx}{c d:Nat}{l m:Vy}{x y:Nat}(h:U64 w a c l x)(k:U64 w' b d m y)(e:x<=y):l.length<=m.length:=
 h.num.length_le_of_lt (by decide) (Nat.lt_of_le_of_lt e (by have:=Qaa (B:=18446744073709551616) (by decide) k.num.small;rw[k.num.eq] at this;exact this))
theorem Qqj{l:Vy}{x:Nat}(h:Num 18446744073709551616 l x)(a:l.length=1):l.getD 0 0=x:=by
 rw[<-h.eq]
 match l,a with
 | [z],_=>simp[val]
structure HoldsC (w:Vz) (p:Addr) (v:Value) (wl:Vz):Prop where
 b:Below w.heap.size w wl
 c:wl.cell? p=some v
theorem HoldsC.drew{w:Vz}{p:Addr}{v:Value}{a:Vz}(h:HoldsC w p v a):HoldsC w p v a.drew:=⟨h.b.drew,h.c⟩
theorem HoldsC.below{w:Vz}{p:Addr}{v:Value}{a w':Vz}(h:HoldsC w p v a)(d:p.block<w.heap.size)(k:Below a.heap.size a w'):HoldsC w p v w':=
 ⟨h.b.trans (k.mono h.b.size),(k.cell (Nat.lt_of_lt_of_le d h.b.size)).trans h.c⟩
theorem Qqk(w:Vz)(f:Addr)(v:Value)(k:f.block<w.heap.size)(a:Vx)(cap d:Nat)(l:Vy)(x:Nat)(h:U64 w a cap l x)(g:0<d)(m:d<18446744073709551616)(c:Vz)(i:HoldsC w f v c):
 Calls prog 197 #[.slice a l.length cap,.int .u64 d] c fun e w'=>e=.returned (.int .u64 ((x % d:Nat):Int))/\HoldsC w f v w'/\Below c.heap.size c w':=by
 refine(Qqu a cap d l x c (h.below i.b) g m).mono ?_;rintro e w' ⟨rfl,j⟩;exact⟨rfl,i.below k j,j⟩
theorem Qql(w:Vz)(b:Addr)(v:Value)(d:b.block<w.heap.size)(x y:Nat)(f:x<18446744073709551616)(g:y<18446744073709551616)(a:Vz)(h:HoldsC w b v a):
 Calls prog 196 #[.int .u64 x,.int .u64 y] a fun e w'=>e=.returned (.int .u64 ((Nat.gcd x y:Nat):Int))/\HoldsC w b v w'/\Below a.heap.size a w':=by
 refine(Qqt x y a f g).mono ?_;rintro e w' ⟨rfl,c⟩;exact⟨rfl,h.below d c,c⟩
theorem Qqm{w a:Vz}{G:Nat}(h:Below w.heap.size w a)(c:0<G)(e:G<18446744073709551616):Nat64 w G (.returned (.slice (some ⟨a.heap.size,0,none⟩) 1 1)) (a.alloc (.cells #[.int .u64 G] 170)):=by
 have hB:Blk .u64 170 (a.alloc (.cells (wordCells .u64 [G]) 170)) a.heap.size [G]:=Blk.new _ _ _ _;exact⟨⟨some ⟨a.heap.size,0,none⟩,1,[G],rfl,hB.row 1 (by simp) 1 (by omega),⟨fun d b=>by simp at b;omega,.inr (by simp;omega),by simp[val]⟩,by simp⟩,h.alloc h.size _⟩
def Own2(B:Nat)(w:Vz)(a b:Vx)(c d:Nat)(l m:Vy)(p q:Nat):Prop:=∃g1 g2 C1 C2,a=some ⟨g1,0,none⟩/\b=some ⟨g2,0,none⟩/\ON w g1 c C1 l p/\ON w g2 d C2 m q/\g1≠g2/\B<=g1/\B<=g2
theorem Qjj{w w':Vz}{a:Vx}{cap cap' g x:Nat}{l:Vy}(h:U64 w a cap l x)(b:Pre w' g l)(c:l.length<=cap'):ON w' g cap' l l x:=⟨b,h.num.small,h.short,List.take_length,h.num,c⟩
theorem Qqn(a1 a2:Vx)(c1 c2:Nat)(l m:Vy)(x y:Nat)(w:Vz)(h1:U64 w a1 c1 l x)(h2:U64 w a2 c2 m y)(hl:l.length<1099511627770)(hm:m.length<1099511627770):
 Calls prog 168 #[.slice a1 l.length c1,.slice a2 m.length c2] w (Nat64 w (Nat.gcd x y)):=by
 have HC:=Hi (Qc6 a1 a2 c1 c2 l m x y w h1 h2);obtain⟨G,hG⟩:=nm (Nat.gcd x y);rw[hG];obtain⟨H1,H2,HG⟩:=Ib h1 h2 hG;clear h1 h2 hG;obtain⟨natAt,ar⟩:=Qqi;have t:=Hi ar;clear ar;go_enter func168,ntmps168;go_wp2_with fail;go_fit HC.o;rintro e w1 ⟨rfl,D⟩;have Q:=Hi D;clear D HC;go_upto_if 11 with fail
 go_cut [0,1] (fun xv yv wr=>∃(p q:Nat) (a b:Vx) (c d:Nat) (l m:Vy),xv=.slice a l.length c/\yv=.slice b m.length d/\q<=p/\l.length<1099511627770/\U64 w a c l p/\U64 w b d m q/\Nat.gcd p q=G/\wr=w1)
 case first=>
  by_cases bf:x<y
  .
   have au:cmp3 x y<0:=(Qay x y).2 bf;go_wp2_with fail;go_meet
   case rel=>exact⟨y,x,a2,a1,c2,c1,m,l,rfl,rfl,by omega,hm,H2.o,H1.o,(Nat.gcd_comm y x).trans HG.o,rfl⟩
  .
   have au:¬(cmp3 x y<0):=fun h=>by have:=(Qay x y).1 h;omega
   go_wp2_with fail;go_meet
   case rel=>exact⟨x,y,a1,a2,c1,c2,l,m,rfl,rfl,by omega,hl,H1.o,H2.o,HG.o,rfl⟩
 case rest=>
 clear hl hm H1 H2 HG;obtain⟨wx,rfl⟩:∃wx,wx=wc:=⟨wc,rfl⟩;obtain⟨p,q,a,b,c,d,l,m,rfl,rfl,s,E,g,f,V,rfl⟩:=hcut;obtain⟨HX,HY,HG⟩:=Ib g f V;clear g f V;go_upto_if 16 with fail
 go_cut [0,1] (fun xv yv wr=>∃(p q:Nat) (a b:Vx) (c d:Nat) (l m:Vy),xv=.slice a l.length c/\yv=.slice b m.length d/\q<=p/\l.length<1099511627770/\U64 wr a c l p/\U64 wr b d m q/\Nat.gcd p q=G/\(1<m.length->Own2 w.heap.size wr a b c d l m p q)/\Below w.heap.size w wr)
 case first=>
  by_cases bg:1<m.length
  .
   have bh:(1:Int)<(m.length:Int):=by omega
   have bx:m.length<=l.length:=HY.o.len_mono HX.o s;have av:=Hi (Qf6 a c l p wx (HX.o.below Q.o) (by omega));go_wp2_with fail;go_fit av.o;rintro e w2 ⟨⟨W,d1,rfl,bi,bz,aw⟩,A⟩;obtain⟨ax,ab,i⟩:=Ib (Qf6 b d m q w2 ((HY.o.below Q.o).below A) (by omega)) aw (Q.o.trans (A.mono Q.o.size));have ay:w.heap.size<=W:=by have:=Q.o.size;omega
   clear aw A av;go_wp2_with fail;go_fit ax.o;rintro e w3 ⟨⟨P,d2,rfl,bj,b0,az⟩,k⟩;obtain⟨R,B⟩:=Ia (Qjj HX.o (ab.o.below k ab.o.lt) bi) (Qjj HY.o az bj);have b1:W<P:=by have:=ab.o.lt;omega
   have j:=Hi (i.o.trans (k.mono i.o.size));clear az k ax;go_wp2_with fail;go_meet
   case rel=>exact⟨p,q,some ⟨W,0,none⟩,some ⟨P,0,none⟩,d1,d2,l,m,rfl,rfl,s,(by omega),R.o.u64,B.o.u64,HG.o,(fun _=>⟨W,P,l,m,rfl,rfl,R.o,B.o,(by omega),ay,(by omega)⟩),j.o⟩
  .
   have bh:¬((1:Int)<(m.length:Int)):=by omega
   go_wp2_with fail;go_meet
   case rel=>exact⟨p,q,a,b,c,d,l,m,rfl,rfl,s,(by omega),HX.o.below Q.o,HY.o.below Q.o,HG.o,(fun h=>absurd h bg),Q.o⟩
 case rest=>
 clear s E HX HY HG Q;obtain⟨wy,rfl⟩:∃wy,wy=wc:=⟨wc,rfl⟩;have a0:=Hi hcut;clear hcut;go_wp2_with fail;go_loopw [0,1] (fun xv yv wr=>∃(p q:Nat) (a b:Vx) (c d:Nat) (l m:Vy),xv=.slice a l.length c/\yv=.slice b m.length d/\q<=p/\l.length<1099511627770/\U64 wr a c l p/\U64 wr b d m q/\Nat.gcd p q=G/\(1<m.length->Own2 w.heap.size wr a b c d l m p q)/\Below w.heap.size w wr) (fun xv yv wr=>natAt wr xv+natAt wr yv)
 case atStart=>exact a0.o
 case round=>
  obtain⟨p,q,a,b,c,d,l,m,rfl,rfl,s,E,g,f,V,a3,D⟩:=hrel;have a4:=Hi a3;clear a3;have b2:=f.len_mono g s;obtain⟨S,v,F,u⟩:=Ic g f V D;by_cases b3:m.length<=1
  .
   have bk:¬(1:Int)<(m.length:Int):=by omega
   by_cases n:q=0
   .
    have bl:((m.length:Int) == 0)=true:=by have:=(f.num.len_zero (by decide)).1 n;simp[this]
    have HQ:=Hi n;clear g f V D n;go_wp2;go_ret;have e1:=F.o;rw[HQ.o,Nat.gcd_zero_right] at e1;exact⟨⟨a,c,l,rfl,by rw[<-e1];exact S.o⟩,u.o⟩
   .
    have bl:((m.length:Int) == 0)=false:=by
     rw[beq_eq_false_iff_ne];have:=(f.num.len_zero (by decide)).2;omega
    have H:m.length=1:=by have:=(f.num.len_zero (by decide)).2;omega
    have HO:=Hi (Qc5 b d m q wr f);by_cases C:q=1
    .
     rw[show decide (q=1)=true by simpa using C] at HO;have HQ:=Hi C;clear g f V D n C H;go_wp2_with fail;go_fit HO.o;rintro e w2 ⟨rfl,hw⟩;subst hw;go_wp2;go_ret;have e1:=F.o;rw[HQ.o,Nat.gcd_one_right] at e1;exact⟨⟨b,d,m,rfl,by rw[<-e1,<-HQ.o];exact v.o⟩,u.o⟩
    .
     rw[show decide (q=1)=false by simpa using C] at HO;obtain⟨b',T,rfl,ad,a5⟩:=f.row.cell 0 (by omega);have U:=Qqj f.num H;rw[U,Nat.add_zero] at a5;have ae:q<18446744073709551616:=by rw[<-U];exact f.num.small.getD (by omega) 0
     obtain⟨b4,HR⟩:=Ia U (Qqk wr ⟨b',T,none⟩ (.int .u64 q) ad a c q l p g (by omega) ae);obtain⟨r,hr⟩:=nm (p % q);rw[hr] at HR;have b5:r<q:=by rw[<-hr];exact Nat.mod_lt _ (by omega)
     obtain⟨bm,b6,af⟩:=Ib hr C n;clear g f V D C U hr n H;go_wp2_with fail;go_fit HO.o;rintro e w2 ⟨rfl,hw⟩;subst hw;go_wp2_with fail;have HI:O (HoldsC w2 ⟨b',T,none⟩ (.int .u64 q) w2):=Hi ⟨Below.refl _ _,a5⟩;have i0:(0:Int)<(m.length:Int):=by have:=(v.o.num.len_zero (by decide)).2;have:=af.o;omega
     have ag:O (Nat.gcd q r=G):=Hi (by rw[<-F.o,<-bm.o];exact Qb9 p q);have HW:=Hi (Qql w2 ⟨b',T,none⟩ (.int .u64 q) ad q r ae (by omega));have b7:0<m.length:=by omega
     rw[ag.o] at HW;go_region_held3 (fun w'=>w'.cell? ⟨b',T,none⟩=some (.int .u64 q)) ((first|(simp [*];done)|exact ce ((Below.refl _ w4).alloc lZ _) z4 k0)) (first
      |(
       go_at_call 197
       first
        |go_fit (HR.o _ HI.o)
        |go_fit (HR.o _ HI.o.drew)
       rintro e w3 ⟨rfl,Z,D⟩;have k0:=Z.c;have a6:=Hi Z
       clear Z D)
      |(
       go_at_call 196
       first
        |go_fit (HW.o _ a6.o)
        |go_fit (HW.o _ a6.o.drew)
       rintro e w4 ⟨rfl,Z,D⟩;have k0:=Z.c;have z4:b'<w4.heap.size:=Nat.lt_of_lt_of_le ad Z.b.size;have z5:b'≠w4.heap.size:=Nat.ne_of_lt z4;have bn:=Hi Z
       clear Z D))
     all_goals
      go_wp2;go_ret;have bo:0<G:=by rw[<-ag.o];exact Nat.gcd_pos_of_pos_left _ (by have:=af.o;omega)
      have bp:G<18446744073709551616:=by rw[<-ag.o];exact Nat.lt_of_le_of_lt (Nat.gcd_le_left _ (by have:=af.o;omega)) ae
      exact Qqm (u.o.trans (bn.o.b.mono u.o.size)) bo bp
  .
   have bk:(1:Int)<(m.length:Int):=by omega
   have n:0<q:=by
    rcases Nat.eq_zero_or_pos q with h0|h0
    . have:=(f.num.len_zero (by decide)).1 h0;omega
    . exact h0
   obtain⟨W,P,C1,C2,rfl,rfl,a7,a8,a9,bq,ba⟩:=a4.o (by omega);obtain⟨R,B,HM⟩:=Ib a7 a8 (Qqv (some ⟨W,0,none⟩) (some ⟨P,0,none⟩) c d (l.length - 2) l m p q wr g f s (by omega));clear g f V D a7 a8 a4;go_wp2_with fail;go_fit HM.o;rintro e w2 ⟨⟨bb,xx,xy,yx,yy,rfl,hS⟩,A⟩;obtain⟨HS,i,HN⟩:=Ib hS A (Qqw bb xx xy yx yy);clear hS A HM;unfold StepsVal;unfold StepsVal at HN;by_cases z:xy=0
   .
    rw[show decide (xy=0)=true by simpa using z] at HN;clear z;go_wp2_with fail;go_fit (HN.o _);rintro e w3 ⟨rfl,k⟩;have j:O (Below wr.heap.size wr w3):=Hi ((i.o.alloc i.o.size _).trans (k.mono (i.o.alloc i.o.size _).size));clear k HN;have HD:=Hi (Qji (some ⟨W,0,none⟩) (some ⟨P,0,none⟩) c d (m.length - 2) l m p q w3 (S.o.below j.o) (v.o.below j.o) s (by omega) E);go_wp2_with fail;go_fit HD.o;rintro e w4 ⟨⟨aq,cq,lq,gr,cr,Cr,lr,rfl,I,ah,b8⟩,J⟩;have K:O (Below wr.heap.size wr w4):=Hi (j.o.trans (J.mono j.o.size));have L:=ah.u64;have M:=Hi L;have bc:=Hi (B.o.below K.o);have br:=Hi ah;have bv:P<gr:=by have:=B.o.pre.lt;have:=j.o.size;omega
    clear ah;have bw:=Nat.mod_lt p n;have aa:=Hi (v.o.below K.o);have m1:=t.o _ _ _ _ _ S.o;have m2:=t.o _ _ _ _ _ v.o;have m3:=t.o _ _ _ _ _ aa.o;have m4:=t.o _ _ _ _ _ M.o;obtain⟨ai,aj,ak,al⟩:=Ic m1 m2 m3 m4;clear I L J HD m1 m2 m3 m4;go_wp2;refine⟨⟨q,p % q,some ⟨P,0,none⟩,some ⟨gr,0,none⟩,d,cr,m,lr,rfl,rfl,by omega,by omega,aa.o,M.o,(Qb9 p q).trans F.o,fun _=>⟨P,gr,C2,Cr,rfl,rfl,bc.o,br.o,by omega,ba,by omega⟩,u.o.trans (K.o.mono u.o.size)⟩,?_⟩;rw[ai.o,aj.o,ak.o,al.o];omega
   .
    rw[show decide (xy=0)=false by simpa using z] at HN;obtain⟨X,Y,hL⟩:=HS.o.go (by omega);have HL:=Hi hL;have am:=hL.less n;have b9:=hL.le;have bs:=Hi hL.gcd;clear hL z;go_wp2_with fail;go_fit (HN.o _);rintro e w3 ⟨rfl,k⟩;have j:O (Below wr.heap.size wr w3):=Hi ((i.o.alloc i.o.size _).trans (k.mono (i.o.alloc i.o.size _).size));have N:=Hi ((SB.new w2 _ _).below k (by rw[World.size_alloc];omega));clear k HN;have k0:=N.o.cell 0;have k1:=N.o.cell 1;have k2:=N.o.cell 2;have k3:=N.o.cell 3;have k4:=N.o.cell 4;simp at k0 k1 k2 k3 k4;have HD:=Hi (Qqx bb xx xy yx yy W P c d C1 C2 l m p q X Y w3 (R.o.below j.o) (B.o.below j.o) a9 s HS.o HL.o n w.heap.size bq ba);go_wp2_with fail;go_fit HD.o;rintro e w4 ⟨⟨ga,gb,ca,cb,Ca,Cb,la,lb,rfl,an,ao,bd⟩,J⟩
    have K:O (Below w.heap.size w w4):=Hi ((u.o.trans (j.o.mono u.o.size)).trans J);have I:=an.u64;have L:=ao.u64;obtain⟨bt,bu⟩:=Ia an ao;have ap:ga≠gb/\w.heap.size<=ga/\w.heap.size<=gb:=by omega
    clear an ao bd;obtain⟨be,M,ai,aj⟩:=Ic I L (t.o _ _ _ _ _ S.o) (t.o _ _ _ _ _ v.o);obtain⟨ak,al⟩:=Ia (t.o _ _ _ _ _ be.o) (t.o _ _ _ _ _ M.o);have cc:=I.len_mono v.o am.1;clear I L J HD;go_wp2;refine⟨⟨X,Y,some ⟨ga,0,none⟩,some ⟨gb,0,none⟩,ca,cb,la,lb,rfl,rfl,by omega,by omega,be.o,M.o,bs.o.trans F.o,fun _=>⟨ga,gb,Ca,Cb,rfl,rfl,bt.o,bu.o,ap.1,ap.2.1,ap.2.2⟩,K.o⟩,?_⟩;rw[ai.o,aj.o,ak.o,al.o];omega
theorem Qig(neg:Bool):sgn neg 0=0:=by cases neg<;>simp[sgn]
theorem Qoc{neg:Bool}{t:Nat}(h:0<t):decide (sgn neg t<0)=neg:=by cases neg<;>simp[sgn]<;>omega
theorem Qb2(x:Int):sgn (decide (x<0)) x.natAbs=x:=by
 unfold sgn;by_cases h:x<0
 . simp[h];omega
 . simp[h];omega
theorem Qce(p q:Bool)(s t:Nat):sgn (p != q) (s*t)=sgn p s*sgn q t:=by cases p<;>cases q<;>simp[sgn]<;>grind
theorem Qod(p:Bool)(s:Nat):sgn (!p) s= - sgn p s:=by cases p<;>simp[sgn]
theorem Qih{neg:Bool}{t d:Nat}(b:0<d)(a:Nat.Coprime t d):(mkRat (sgn neg t) d).num=sgn neg t/\(mkRat (sgn neg t) d).den=d:=by
 have e:=Rat.mk_eq_mkRat (sgn neg t) d (by omega) (by rw[Qdy];exact a);rw[<-e];exact⟨rfl,rfl⟩
theorem Qoe(x y:Rat){g h:Nat}(b:Nat.gcd x.num.natAbs y.den=g)(c:Nat.gcd y.num.natAbs x.den=h):
 mkRat (sgn (decide (x.num<0) != decide (y.num<0)) (x.num.natAbs / g*(y.num.natAbs / h))) (x.den / h*(y.den / g))=x*y/\Nat.Coprime (x.num.natAbs / g*(y.num.natAbs / h)) (x.den / h*(y.den / g)):=by
 have f:0<g:=by rw[<-b];exact Nat.gcd_pos_of_pos_right _ y.den_pos
 have i:0<h:=by rw[<-c];exact Nat.gcd_pos_of_pos_right _ x.den_pos
 have d1:g ∣ x.num.natAbs:=b ▸ Nat.gcd_dvd_left _ _;have d2:g ∣ y.den:=b ▸ Nat.gcd_dvd_right _ _;have d3:h ∣ y.num.natAbs:=c ▸ Nat.gcd_dvd_left _ _;have d4:h ∣ x.den:=c ▸ Nat.gcd_dvd_right _ _;have j:=Nat.div_mul_cancel d1;have k:=Nat.div_mul_cancel d2;have l:=Nat.div_mul_cancel d3;have o:=Nat.div_mul_cancel d4;constructor
 .
  rw[<-Qgi,<-Rat.mkRat_mul_right (a:=g*h) (by have:=Nat.mul_pos f i;omega)]
  congr 1
  .
   have d:(sgn (decide (x.num<0)) (x.num.natAbs / g))*(g:Int)=x.num:=by
    have:=Qce (decide (x.num<0)) false (x.num.natAbs / g) g;rw[show sgn false g=(g:Int) from rfl,j,Bool.bne_false,Qb2] at this;exact this.symm
   have e:(sgn (decide (y.num<0)) (y.num.natAbs / h))*(h:Int)=y.num:=by
    have:=Qce (decide (y.num<0)) false (y.num.natAbs / h) h;rw[show sgn false h=(h:Int) from rfl,l,Bool.bne_false,Qb2] at this;exact this.symm
   rw[Qce,<-d,<-e,Int.natCast_mul];rw[d,e]
   conv=>rhs;rw[<-d,<-e]
   grind
  .
   rw[Int.natAbs_mul,Int.natAbs_natCast,Int.natAbs_natCast]
   conv=>rhs;rw[<-o,<-k]
   grind
 .
  have c1:Nat.Coprime (x.num.natAbs / g) (x.den / h):=Nat.Coprime.coprime_dvd_left (Nat.div_dvd_of_dvd d1) (Nat.Coprime.coprime_dvd_right (Nat.div_dvd_of_dvd d4) x.reduced);have c2:Nat.Coprime (x.num.natAbs / g) (y.den / g):=by have:=Nat.coprime_div_gcd_div_gcd (m:=x.num.natAbs) (n:=y.den) (by omega);rw[b] at this;exact this
  have c3:Nat.Coprime (y.num.natAbs / h) (x.den / h):=by have:=Nat.coprime_div_gcd_div_gcd (m:=y.num.natAbs) (n:=x.den) (by omega);rw[c] at this;exact this
  have c4:Nat.Coprime (y.num.natAbs / h) (y.den / g):=Nat.Coprime.coprime_dvd_left (Nat.div_dvd_of_dvd d3) (Nat.Coprime.coprime_dvd_right (Nat.div_dvd_of_dvd d2) y.reduced);exact Nat.Coprime.mul_left (Nat.Coprime.mul_right c1 c2) (Nat.Coprime.mul_right c3 c4)
theorem Qof(x y:Rat){g h t:Nat}{neg:Bool}(c:Nat.gcd x.den y.den=g)(e:sgn neg t=x.num*((y.den / g:Nat):Int)+y.num*((x.den / g:Nat):Int))(d:Nat.gcd t g=h):
 mkRat (sgn neg (t / h)) (x.den / g*(y.den / h))=x+y/\Nat.Coprime (t / h) (x.den / g*(y.den / h)):=by
 have f:0<g:=by rw[<-c];exact Nat.gcd_pos_of_pos_right _ y.den_pos
 have i:0<h:=by rw[<-d];exact Nat.gcd_pos_of_pos_right _ f
 have d1:g ∣ x.den:=c ▸ Nat.gcd_dvd_left _ _;have d2:g ∣ y.den:=c ▸ Nat.gcd_dvd_right _ _;have d3:h ∣ t:=d ▸ Nat.gcd_dvd_left _ _;have d4:h ∣ g:=d ▸ Nat.gcd_dvd_right _ _;have j:=Nat.div_mul_cancel d1;have l:=Nat.div_mul_cancel d2;have o:=Nat.div_mul_cancel d3;have p:=Nat.div_mul_cancel (Nat.dvd_trans d4 d2);have q:t=(x.num*((y.den / g:Nat):Int)+y.num*((x.den / g:Nat):Int)).natAbs:=by rw[<-e,Qdy]
 constructor
 .
  rw[<-Qeg,<-Rat.mkRat_mul_right (a:=h*g) (by have:=Nat.mul_pos i f;omega)]
  congr 1
  .
   have r:sgn neg (t / h)*(h:Int)=sgn neg t:=by
    have:=Qce neg false (t / h) h;rw[show sgn false h=(h:Int) from rfl,o,Bool.bne_false] at this;exact this.symm
   rw[Int.natCast_mul,<-Int.mul_assoc,r,e]
   conv=>rhs;rw[<-j,<-l,Int.natCast_mul,Int.natCast_mul]
   grind
  .
   rw[Int.natAbs_mul,Int.natAbs_natCast,Int.natAbs_natCast]
   conv=>rhs;rw[<-j,<-p]
   grind
 .
  have b:=Rat.add.aux x y c.symm rfl rfl;simp only[] at b;rw[<-q,d] at b;have k:=Nat.coprime_div_gcd_div_gcd (m:=t) (n:=x.den / g*y.den) (by rw[<-b];exact i);rw[<-b,Nat.mul_div_assoc _ (Nat.dvd_trans d4 d2)] at k;exact k
theorem Qii{y:Rat}(a:y≠0):mkRat (sgn (decide (y.num<0)) y.den) y.num.natAbs=y⁻¹/\Nat.Coprime y.den y.num.natAbs/\0<y.num.natAbs:=by
 have b:y.num≠0:=fun h=>a (Rat.num_eq_zero.1 h)
 refine⟨?_,Nat.Coprime.symm y.reduced,by omega⟩;rw[Rat.inv_def];by_cases h:y.num<0
 . conv=>rhs;rw[show y.num= -((y.num.natAbs:Nat):Int) by omega,Rat.divInt_neg',Rat.divInt_ofNat]
   simp[sgn,h]
 .
  conv=>rhs;rw[show y.num=((y.num.natAbs:Nat):Int) by omega]
  rw[Rat.divInt_ofNat];simp[sgn,h]
structure Ent where
 a:Option Addr
 n:Nat
 c:Nat
 x:Nat
 k:Nat
def NumV(w:Vz)(a:Vx)(n c x:Nat):Prop:=∃l,List.length l=n/\U64 w a c l x
theorem NumV.below{w w':Vz}{a:Vx}{n c x:Nat}(h:NumV w a n c x)(b:Below w.heap.size w w'):NumV w' a n c x:=by
 obtain⟨l,hl,h⟩:=h;exact⟨l,hl,h.below b⟩
theorem NumV.zero_iff{w:Vz}{a:Vx}{n c x:Nat}(h:NumV w a n c x):x=0↔n=0:=by
 obtain⟨l,rfl,h⟩:=h;exact h.num.len_zero (by decide)
theorem U64.len_bits{w:Vz}{a:Vx}{c:Nat}{l:Vy}{n k:Nat}(h:U64 w a c l n)(b:n<2 ^ k):l.length<=k:=by
 apply h.num.length_le_of_lt (by decide);refine Nat.lt_of_lt_of_le b ?_;exact Nat.pow_le_pow_left (by decide) k
theorem NumV.some{w:Vz}{a:Vx}{n c x:Nat}(h:NumV w a n c x)(f:0<x):∃b o,a=some ⟨b,o,none⟩:=by
 have g:n≠0:=fun d=>by have:=h.zero_iff.2 d;omega
 obtain⟨l,hl,h⟩:=h;obtain⟨b,o,e,_⟩:=h.row.cell 0 (by omega);exact⟨b,o,e⟩
structure NBag (w0 w:Vz) (L:List Ent):Prop where
 base:Below w0.heap.size w0 w
 ts:∀t,t∈ L->NumV w t.a t.n t.c t.x/\t.x<2 ^ t.k
theorem NBag.below{w0 w w':Vz}{L:List Ent}(h:NBag w0 w L)(a:Below w.heap.size w w'):NBag w0 w' L:=
 ⟨h.base.trans (a.mono h.base.size),fun t b=>⟨(h.ts t b).1.below a,(h.ts t b).2⟩⟩
theorem NBag.drew{w0 w:Vz}{L:List Ent}(h:NBag w0 w L):NBag w0 w.drew L:=h.below bR.drew
theorem NBag.alloc{w0 w:Vz}{L:List Ent}(h:NBag w0 w L)(o:Obj):NBag w0 (w.alloc o) L:=h.below (bR.alloc lZ _)
theorem NBag.put{w0 w:Vz}{L:List Ent}{a:Vx}{n c x k:Nat}(h:NBag w0 w L)(d:NumV w a n c x)(hk:x<2 ^ k):NBag w0 w (⟨a,n,c,x,k⟩ :: L):=
 ⟨h.base,fun t b=>by
   rcases List.mem_cons.1 b with rfl|b
   . exact⟨d,hk⟩
   . exact h.ts t b⟩
theorem NBag.get{w0 w:Vz}{L:List Ent}{a:Vx}{n c x k:Nat}(h:NBag w0 w L)(b:⟨a,n,c,x,k⟩∈ L):NumV w a n c x/\x<2 ^ k:=h.ts _ b
def NNew(w0:Vz)(L:List Ent)(x k:Nat)(e:Ending)(w':Vz):Prop:=∃a n c,e=.returned (.slice a n c)/\NBag w0 w' (⟨a,n,c,x,k⟩ :: L)
theorem NBag.new{w0 w w':Vz}{L:List Ent}{x k:Nat}{e:Ending}(h:NBag w0 w L)(b:(∃a cap r,e=.returned (.slice a (List.length r) cap)/\U64 w' a cap r x)/\Below w.heap.size w w')(hk:x<2 ^ k):NNew w0 L x k e w':=by
 obtain⟨⟨a,c,r,rfl,d⟩,f⟩:=b;exact⟨a,r.length,c,rfl,(h.below f).put ⟨r,rfl,d⟩ hk⟩
theorem NBag.gcd{w0 w:Vz}{L:List Ent}{a b:Vx}{n1 g c1 c2 x y j k:Nat}(h:NBag w0 w L)(o:⟨a,n1,c1,x,j⟩∈ L)(p:⟨b,g,c2,y,k⟩∈ L)(r:j+k<274877906000):
 Calls prog 168 #[.slice a n1 c1,.slice b g c2] w (NNew w0 L (Nat.gcd x y) (j+k)):=by
 obtain⟨⟨l,rfl,i⟩,c⟩:=h.get o;obtain⟨⟨m,rfl,n⟩,d⟩:=h.get p;refine(Qqn a b c1 c2 l m x y w i n (by have:=i.len_bits c;omega) (by have:=n.len_bits d;omega)).mono fun e w' q=>h.new q ?_
 have s:2 ^ j<=2 ^ (j+k):=Nat.pow_le_pow_right (by decide) (by omega);have t:2 ^ k<=2 ^ (j+k):=Nat.pow_le_pow_right (by decide) (by omega);rcases Nat.eq_zero_or_pos x with f|f
 . subst f;rw[Nat.gcd_zero_left];omega
 . have:=Nat.gcd_le_left y f;omega
theorem NBag.quot{w0 w:Vz}{L:List Ent}{b c:Vx}{n1 d c1 c2 x y j k:Nat}(h:NBag w0 w L)(g:⟨b,n1,c1,x,j⟩∈ L)(i:⟨c,d,c2,y,k⟩∈ L)(r:j<274877906000)(n:0<y):
 Calls prog 169 #[.slice b n1 c1,.slice c d c2] w (NNew w0 L (x / y) j):=by
 obtain⟨⟨l,rfl,f⟩,a⟩:=h.get g;obtain⟨⟨m,rfl,o⟩,p⟩:=h.get i;refine(Qqs b c c1 c2 l m x y w f o n (by have:=f.len_bits a;omega)).mono fun e w' q=>h.new q ?_
 exact Nat.lt_of_le_of_lt (Nat.div_le_self _ _) a
theorem NBag.mul{w0 w:Vz}{L:List Ent}{c d:Vx}{n1 f c1 c2 x y j k:Nat}(h:NBag w0 w L)(n:⟨c,n1,c1,x,j⟩∈ L)(o:⟨d,f,c2,y,k⟩∈ L)(q:j+k<274877906000):
 Calls prog 177 #[.slice c n1 c1,.slice d f c2] w (NNew w0 L (x*y) (j+k)):=by
 obtain⟨⟨l,rfl,g⟩,a⟩:=h.get n;obtain⟨⟨m,rfl,i⟩,b⟩:=h.get o;exact(Qjq c d c1 c2 l m x y w g i (by have:=g.len_bits a;have:=i.len_bits b;omega)).mono fun e w' p=>h.new p (Qbw a b)
theorem NBag.add{w0 w:Vz}{L:List Ent}{c d:Vx}{n1 f c1 c2 x y j k:Nat}(h:NBag w0 w L)(n:⟨c,n1,c1,x,j⟩∈ L)(o:⟨d,f,c2,y,k⟩∈ L)(q:j+k<274877906000):
 Calls prog 201 #[.slice c n1 c1,.slice d f c2] w (NNew w0 L (x+y) (j+k+1)):=by
 obtain⟨⟨l,rfl,g⟩,a⟩:=h.get n;obtain⟨⟨m,rfl,i⟩,b⟩:=h.get o;refine(Qp7 c d c1 c2 l m x y w g i (by have:=g.len_bits a;omega) (by have:=i.len_bits b;omega)).mono fun e w' p=>h.new p ?_
 have r:2 ^ j<=2 ^ (j+k):=Nat.pow_le_pow_right (by decide) (by omega);have s:2 ^ k<=2 ^ (j+k):=Nat.pow_le_pow_right (by decide) (by omega);have t:(2:Nat) ^ (j+k+1)=2 ^ (j+k)*2:=Nat.pow_succ _ _;have u:x<2 ^ j:=a;have v:y<2 ^ k:=b;omega
theorem NBag.sub{w0 w:Vz}{L:List Ent}{a b:Vx}{n1 f c1 c2 x y j k:Nat}(h:NBag w0 w L)(g:⟨a,n1,c1,x,j⟩∈ L)(i:⟨b,f,c2,y,k⟩∈ L)(c:y<=x):
 Calls prog 202 #[.slice a n1 c1,.slice b f c2] w (NNew w0 L (x - y) j):=by
 obtain⟨⟨l,rfl,n⟩,d⟩:=h.get g;obtain⟨⟨m,rfl,o⟩,p⟩:=h.get i;exact(Qp8 a b c1 c2 l m x y w n o c).mono fun e w' q=>h.new q (Nat.lt_of_le_of_lt (Nat.sub_le _ _) d)
theorem NBag.compare{w0 w:Vz}{L:List Ent}{a b:Vx}{n1 c c1 c2 x y j k:Nat}(h:NBag w0 w L)(d:⟨a,n1,c1,x,j⟩∈ L)(f:⟨b,c,c2,y,k⟩∈ L):
 Calls prog 190 #[.slice a n1 c1,.slice b c c2] w (fun e w'=>e=.returned (.int .i64 (cmp3 x y))/\NBag w0 w' L):=by
 obtain⟨⟨l,rfl,g⟩,i⟩:=h.get d;obtain⟨⟨m,rfl,n⟩,o⟩:=h.get f;refine(Qc6 a b c1 c2 l m x y w g n).mono ?_;rintro e w' ⟨rfl,p⟩;exact⟨rfl,h.below p⟩
def LowIn(w:Vz)(b:Vx)(m d k:Nat):Prop:=(b=none/\m=0/\d=0/\k=1)∨(0<k/\NumV w b m d k)
def Low(w:Vz)(b:Vx)(m d k:Nat):Prop:=(b=none/\m=0/\d=0/\k=1)∨(1<k/\NumV w b m d k)
theorem Low.lowIn{w:Vz}{b:Vx}{m d k:Nat}(h:Low w b m d k):LowIn w b m d k:=by
 rcases h with h|⟨h,a⟩
 . exact .inl h
 . exact .inr ⟨by omega,a⟩
theorem Low.below{w w':Vz}{b:Vx}{m d k:Nat}(h:Low w b m d k)(a:Below w.heap.size w w'):Low w' b m d k:=by
 rcases h with h|⟨h,c⟩
 . exact .inl h
 . exact .inr ⟨h,c.below a⟩
structure FracAt (w:Vz) (neg:Bool) (a:Vx) (n c:Nat) (b:Vx) (m d:Nat) (q:Rat):Prop where
 neg:neg=decide (q.num<0)
 top:NumV w a n c q.num.natAbs
 low:Low w b m d q.den
theorem FracAt.below{w w':Vz}{neg:Bool}{a b:Vx}{n c m d:Nat}{q:Rat}(h:FracAt w neg a n c b m d q)(e:Below w.heap.size w w'):FracAt w' neg a n c b m d q:=⟨h.neg,h.top.below e,h.low.below e⟩
def FracV(w:Vz)(v:Value)(q:Rat):Prop:=∃neg a n c b m d,v=.agg #[.bool neg,.slice a n c,.slice b m d]/\FracAt w neg a n c b m d q
theorem FracV.below{w w':Vz}{v:Value}{q:Rat}(h:FracV w v q)(f:Below w.heap.size w w'):FracV w' v q:=by
 obtain⟨neg,a,n,c,b,m,d,e,h⟩:=h;exact⟨neg,a,n,c,b,m,d,e,h.below f⟩
def FNew(w:Vz)(q:Rat)(e:Ending)(w':Vz):Prop:=(∃v,e=.returned v/\FracV w' v q)/\Below w.heap.size w w'
theorem NumV.nil(w:Vz):NumV w none 0 0 0:=⟨[],rfl,U64.nil w⟩
theorem FracV.zero(w:Vz):FracV w (.agg #[.bool false,.slice none 0 0,.slice none 0 0]) 0:=
 ⟨false,none,0,0,none,0,0,rfl,by decide,NumV.nil w,.inl ⟨rfl,rfl,rfl,rfl⟩⟩
theorem FracV.mk{w:Vz}{neg:Bool}{a b:Vx}{n c m d t k:Nat}(f:NumV w a n c t)(hl:Low w b m d k)(g:Nat.Coprime t k)(i:0<t):FracV w (.agg #[.bool neg,.slice a n c,.slice b m d]) (mkRat (sgn neg t) k):=by
 have hk:0<k:=by rcases hl with ⟨_,_,_,rfl⟩|⟨h,_⟩<;>omega
 obtain⟨e,j⟩:=Qih (neg:=neg) hk g;exact⟨neg,a,n,c,b,m,d,rfl,by rw[e,Qoc i],by rw[e,Qdy];exact f,by rw[j];exact hl⟩
theorem Qic{w:Vz}{a:Vx}{n c x:Nat}(h:NumV w a n c x):Calls prog 162 #[.slice a n c] w fun e w'=>e=.returned (.bool (decide (x=1)))/\w'=w:=by
 obtain⟨l,rfl,h⟩:=h;exact Qc5 a c l x w h
def NoU64(C:Vw):Prop:=∀(i:Nat) (n:Int),C[i]?≠some (Value.int .u64 n)
theorem Row.only64{w w':Vz}{a:Vx}{cap:Nat}{l:Vy}{c:Nat}{t:Vr}{C:Vw}(h:Row .u64 w a cap l)(e:Only c w w')(m:SB w c t C)(n:NoU64 C):Row .u64 w' a cap l:=by
 refine⟨h.fit,?_,fun i o=>?_⟩
 .
  rcases h.shape with f|⟨d,b,rfl,k⟩
  . exact .inl f
  . exact .inr ⟨d,b,rfl,by have:=e.size;omega⟩
 .
  obtain⟨d,b,f,k,g⟩:=h.cell i o;have j:d≠c:=by
   rintro rfl;rw[m.cell] at g;exact n _ _ g
  exact⟨d,b,f,by have:=e.size;omega,(World.cell?_of_block (w:=w) (e.block d k j)).trans g⟩
theorem NumV.only{w w':Vz}{a:Vx}{n c x g:Nat}{t:Vr}{C:Vw}(h:NumV w a n c x)(b:Only g w w')(d:SB w g t C)(e:NoU64 C):NumV w' a n c x:=by
 obtain⟨l,hl,h⟩:=h;exact⟨l,hl,h.row.only64 b d e,h.num,h.short⟩
theorem FracAt.only{w w':Vz}{neg:Bool}{a b:Vx}{n c m d g:Nat}{q:Rat}{t:Vr}{C:Vw}(h:FracAt w neg a n c b m d q)(f:Only g w w')(i:SB w g t C)(j:NoU64 C):FracAt w' neg a n c b m d q:=by
 refine⟨h.neg,h.top.only f i j,?_⟩;rcases h.low with e|⟨e,k⟩
 . exact .inl e
 . exact .inr ⟨e,k.only f i j⟩
theorem FracV.only{w w':Vz}{v:Value}{g:Nat}{q:Rat}{t:Vr}{C:Vw}(h:FracV w v q)(f:Only g w w')(i:SB w g t C)(j:NoU64 C):FracV w' v q:=by
 obtain⟨neg,a,n,c,b,m,d,e,h⟩:=h;exact⟨neg,a,n,c,b,m,d,e,h.only f i j⟩
def zeroFrac:Array Value:=#[.bool false,.slice none 0 0,.slice none 0 0]
theorem Qbk:NoU64 zeroFrac:=by
 intro i n h
 match i with
 |0=>simp[zeroFrac] at h
 |1=>simp[zeroFrac] at h
 |2=>simp[zeroFrac] at h
 |i+3=>simp[zeroFrac] at h
theorem SB.new2(w:Vz)(t1 t2:Vr)(C D:Vw):SB ((w.alloc (.cells C t1)).alloc (.cells D t2)) (w.heap.size+1) t2 D:=by
 have:=SB.new (w.alloc (.cells C t1)) t2 D;rw[World.size_alloc] at this;exact this
theorem SB.new3(w:Vz)(t1 t2 t3:Vr)(C D E:Vw):SB (((w.alloc (.cells C t1)).alloc (.cells D t2)).alloc (.cells E t3)) (w.heap.size+1+1) t3 E:=by
 have:=SB.new ((w.alloc (.cells C t1)).alloc (.cells D t2)) t3 E;rw[World.size_alloc,World.size_alloc] at this;exact this
theorem Below.new2(w:Vz)(a b:Obj):Below w.heap.size w ((w.alloc a).alloc b):=bR.alloc lZ _ |>.alloc (by rw[World.size_alloc];omega) _
theorem Below.new3(w:Vz)(a b c:Obj):Below w.heap.size w (((w.alloc a).alloc b).alloc c):=(Below.new2 w a b).alloc (by rw[World.size_alloc,World.size_alloc];omega) _
theorem Tryz.fracInfo:(prog.info? 141).map (·.size)=some 3:=by kernel_rfl
theorem Qdw(neg:Bool)(a b:Vx)(n c m d t k:Nat)(w:Vz)(q:NumV w a n c t)(hl:LowIn w b m d k)(u:Nat.Coprime t k):
 Calls prog 130 #[.bool neg,.slice a n c,.slice b m d] w (FNew w (mkRat (sgn neg t) k)):=by
 obtain⟨r,s⟩:=Ia q u;have j:=q.zero_iff;have y:=Hi ((Below.refl w.heap.size w).alloc lZ (.cells #[.bool false,.slice none 0 0,.slice none 0 0] 141));clear q u;by_cases l:t=0
 .
  have x:n=0:=j.1 l;subst l x;rw[Qig,Rat.zero_mkRat];clear hl j;go_enter func130,ntmps130;go_wp2;refine bodyPost_ret (v:=.agg #[.bool false,.slice none 0 0,.slice none 0 0]) (results_cell_row rfl _ _ (w.heap.size) 141 #[.bool false,.slice none 0 0,.slice none 0 0] (0,0) _ rfl (SB.new w _ _) underlying141 rfl Tryz.fracInfo) rfl ?_;exact⟨⟨_,rfl,FracV.zero _⟩,y.o⟩
 .
  have x:((n:Int) == 0)=false:=by rw[beq_eq_false_iff_ne];omega
  have i:0<t:=by omega
  rcases hl with ⟨rfl,rfl,rfl,rfl⟩|⟨hk,hl⟩
  .
   have f:=Hi (Qic (NumV.nil (w.alloc (.cells #[.bool false,.slice none 0 0,.slice none 0 0] 141))));rw[show decide (0=1)=false by decide] at f;clear j l;go_enter func130,ntmps130;go_wp2_with fail;go_fit f.o;rintro e w1 ⟨rfl,p⟩;subst p;clear f;go_wp2;refine bodyPost_ret (v:=.agg #[.bool neg,.slice a n c,.slice none 0 0]) (results_cell_row rfl _ _ (w.heap.size) 141 #[.bool neg,.slice a n c,.slice none 0 0] (0,0) _ rfl (SB.new w _ _) underlying141 rfl Tryz.fracInfo) rfl ?_;have g:=(Below.refl w.heap.size w).alloc lZ (.cells #[.bool neg,.slice a n c,.slice none 0 0] 141);exact⟨⟨_,rfl,FracV.mk (r.o.below g) (.inl ⟨rfl,rfl,rfl,rfl⟩) s.o i⟩,g⟩
  .
   obtain⟨f,z⟩:=Ia (Qic (hl.below ((Below.refl w.heap.size w).alloc lZ (.cells #[.bool false,.slice none 0 0,.slice none 0 0] 141)))) hl;clear hl;by_cases h:k=1
   .
    rw[show decide (k=1)=true by simpa using h] at f;clear j l;go_enter func130,ntmps130;go_wp2_with fail;go_fit f.o;rintro e w1 ⟨rfl,p⟩;subst p;clear f;go_wp2;refine bodyPost_ret (v:=.agg #[.bool neg,.slice a n c,.slice none 0 0]) (results_cell_row rfl _ _ (w.heap.size) 141 #[.bool neg,.slice a n c,.slice none 0 0] (0,0) _ rfl (SB.new w _ _) underlying141 rfl Tryz.fracInfo) rfl ?_;have g:=(Below.refl w.heap.size w).alloc lZ (.cells #[.bool neg,.slice a n c,.slice none 0 0] 141);exact⟨⟨_,rfl,FracV.mk (r.o.below g) (.inl ⟨rfl,rfl,rfl,h⟩) s.o i⟩,g⟩
   .
    rw[show decide (k=1)=false by simpa using h] at f;have A:=Hi (show 1<k by omega);clear j l h;go_enter func130,ntmps130;go_wp2_with fail;go_fit f.o;rintro e w1 ⟨rfl,p⟩;subst p;clear f;go_wp2;refine bodyPost_ret (v:=.agg #[.bool neg,.slice a n c,.slice b m d]) (results_cell_row rfl _ _ (w.heap.size) 141 #[.bool neg,.slice a n c,.slice b m d] (0,0) _ rfl (SB.new w _ _) underlying141 rfl Tryz.fracInfo) rfl ?_;have g:=(Below.refl w.heap.size w).alloc lZ (.cells #[.bool neg,.slice a n c,.slice b m d] 141);exact⟨⟨_,rfl,FracV.mk (r.o.below g) (.inr ⟨A.o,z.o.below g⟩) s.o i⟩,g⟩
theorem Qn5(neg:Bool)(a b:Vx)(n c m d k g:Nat)(w0 w:Vz)(L:List Ent)(hB:NBag w0 w L)(hl:Low w b m d k)(hk:k<2 ^ g):
 Calls prog 161 #[.agg #[.bool neg,.slice a n c,.slice b m d]] w (NNew w0 L k g):=by
 have r:∀(w:Vz) (a:Vx) (n c n' f:Nat),(binOp .eql 139 (.slice a n c) (.slice none n' f)).run prog w=.ok (.bool a.isNone) w:=fun w a n c n' f=>Lib.run_eql_slice_nil w _ _ a n c n' f underlying139
 obtain⟨i,j,p⟩:=Ib hB hk hl;clear hB hk;rcases hl with ⟨rfl,rfl,rfl,rfl⟩|⟨l,e⟩
 .
  go_enter func161,ntmps161;go_wp2;go_ret;have hB:Blk .u64 170 ((w.alloc (.cells #[.bool neg,.slice a n c,.slice none 0 0] 141)).alloc (.cells (wordCells .u64 [1]) 170)) (w.heap.size+1) [1]:=by
   have:=Blk.new .u64 170 (w.alloc (.cells #[.bool neg,.slice a n c,.slice none 0 0] 141)) [1];rw[World.size_alloc] at this;exact this
  exact⟨_,1,1,rfl,((i.o.alloc _).alloc _).put ⟨[1],rfl,hB.row 1 (by simp) 1 (by omega),⟨fun d q=>by simp at q;omega,.inr (by simp),by simp[val]⟩,by simp⟩ j.o⟩
 .
  obtain⟨s,t,rfl⟩:=e.some (by omega);clear l e;go_enter func161,ntmps161;go_wp2;go_ret;rcases p.o with ⟨h,_⟩|⟨l,e⟩
  . cases h
  . exact⟨_,m,d,rfl,(i.o.alloc _).put (e.below (bR.alloc lZ _)) j.o⟩
theorem Qid(neg:Bool)(a b:Vx)(n c m d t:Nat)(w:Vz)(f:NumV w a n c t):
 Calls prog 127 #[.agg #[.bool neg,.slice a n c,.slice b m d]] w fun e w'=>e=.returned (.bool (decide (t=0)))/\Below w.heap.size w w':=by
 have e:decide (t=0)=((n:Int) == 0):=by
  have:=f.zero_iff;by_cases h:t=0
  . simp[h,this.1 h]
  . rw[decide_eq_false h];symm;rw[beq_eq_false_iff_ne];omega
 rw[e];clear e f;go_enter func127,ntmps127;go_wp2;go_ret;exact⟨rfl,bR.alloc lZ _⟩
theorem Qie(neg:Bool)(a b:Vx)(n c m d:Nat)(q:Rat)(w:Vz)(h:FracAt w neg a n c b m d q):
 Calls prog 79 #[.agg #[.bool neg,.slice a n c,.slice b m d]] w (FNew w (-q)):=by
 have e:mkRat (sgn (!neg) q.num.natAbs) q.den= -q:=by
  rw[Qod,h.neg,Qb2,<-Rat.neg_mkRat,Rat.mkRat_self]
 have y:=Hi (fun w' j=>Qdw (!neg) a b n c m d q.num.natAbs q.den w' (h.top.below j) ((h.low.below j).lowIn) q.reduced);rw[e] at y;clear h e;go_enter func79,ntmps79;obtain⟨z,i⟩:=Ia (SB.new2 w 141 141 #[.bool neg,.slice a n c,.slice b m d] zeroFrac) (Below.new2 w (.cells #[.bool neg,.slice a n c,.slice b m d] 141) (.cells zeroFrac 141));go_wp2_with fail;go_fit (y.o _ i.o);rintro e B ⟨⟨G,rfl,l⟩,j⟩;obtain⟨f,p,r,s,t,u,d9,rfl,l⟩:=l;have g:=z.o.below j z.o.lt;have C:=g.cell 0;have D:=g.cell 1;have E:=g.cell 2;have f0:=g.free 0;have f1:=g.free 1;have f2:=g.free 2;simp[zeroFrac] at C D E;obtain⟨F,k,x⟩:=Ib l g (i.o.trans (j.mono i.o.size));clear l g j;go_wp2
 refine bodyPost_ret (v:=.agg #[.bool f,.slice p r s,.slice t u d9]) (results_cell_row rfl _ _ (w.heap.size+1) 141 #[.bool f,.slice p r s,.slice t u d9] (0,0) _ rfl (((k.o.set 0 _).set 1 _).set 2 _) underlying141 rfl Tryz.fracInfo) rfl ?_;have A:=(((Only.refl (w.heap.size+1) B).setCell 0 (.bool f)).setCell 1 (.slice p r s)).setCell 2 (.slice t u d9);exact⟨⟨_,rfl,f,p,r,s,t,u,d9,rfl,F.o.only A k.o Qbk⟩,Only.fresh x.o A (by omega)⟩
end Go.Proofs.YtppkmifkpjkgpaaGreatDoor
